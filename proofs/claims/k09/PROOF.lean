import PyProof.Rows.All
import Wide.All
import OpenK.AllK
import Wide.FinOn
import HandS.ForMost
import HandS.TupAny
import HandS.TupMul
import HandS.IsInst
import HandS.Zip
import HandS.Conv
import HandS.Deep
import HandS.TupLe
import PyProof.ListMulRoad
import PyProof.FactsAll.tuple_2
import PyProof.AutoSeq1
import PyProof.P3In
import KE.GoesMore
import HandS.SortInts
import HandS.Sort
import HandS.Style
import PySem.Challenge.RW_rootfirst_k09_whole_runs_by_whomever
set_option Elab.async false
set_option linter.all false
set_option autoImplicit false
set_option maxRecDepth 100000
set_option maxHeartbeats 4000000
/-! Pure data read off the heap, and programs as functions on such data. -/
namespace G
open PySem L2

abbrev D := PyData
inductive Sl where
  | d (x : D)
  | loc (n : Nat)
inductive Rt where
  | val (x : D)
  | new (xs : List D)
abbrev Sto := List (Option (List D))
abbrev Rho := List (Option Sl)
/-- the cells' addresses; lists in the making -/
structure Adr where
  c : List (Option Addr)
  g : List Addr
def Adr.mem (M : Adr) (a : Addr) : Prop := some a ∈ M.c ∨ a ∈ M.g
def Adr.gh (M : Adr) (a : Addr) : Adr := ⟨M.c, a :: M.g⟩
abbrev Fn := List Sl → Sto → Option (Rt × Sto)

def KL (K : PySem.W.Frag) (a : Addr) (vs : List V) : Prop := SqL K (fun _ => none) a vs
def LsR (K : PySem.W.Frag) (M : Adr) (H : Hp) (a : Addr) (vs : List V) : Prop := (Rd H a (.lst vs) ∧ ¬ M.mem a) ∨ KL K a vs
theorem KL.sql {K : PySem.W.Frag} {a : Addr} {vs : List V} (h : KL K a vs) (H : Hp) : SqL K H a vs := by
  rcases h with h | h
  · rcases h with h | ⟨o, h⟩
    · cases h
    · cases h
  · exact .inr h
theorem LsR.sql {K : PySem.W.Frag} {M : Adr} {H : Hp} {a : Addr} {vs : List V} (h : LsR K M H a vs) : SqL K H a vs := by
  rcases h with h | h
  · exact .inl h.1
  · exact h.sql H

mutual
inductive Rl (K : PySem.W.Frag) (M : Adr) (H : Hp) : V → D → Prop
  | non : Rl K M H .non .none
  | bl (b : Bool) : Rl K M H (.bl b) (.bool b)
  | int (i : Int) : Rl K M H (.int i) (.int i)
  | str (x : Str) : Rl K M H (.str x) (.str x)
  | lst {a : Addr} {vs : List V} {ds : List D} : LsR K M H a vs → RlA K M H vs ds → Rl K M H (.ref a) (.list ds)
  | tup {a : Addr} {vs : List V} {ds : List D} : SqT K H a vs → RlA K M H vs ds → Rl K M H (.ref a) (.tuple ds)
inductive RlA (K : PySem.W.Frag) (M : Adr) (H : Hp) : List V → List D → Prop
  | nil : RlA K M H [] []
  | cons {v : V} {vs : List V} {d : D} {ds : List D} : Rl K M H v d → RlA K M H vs ds → RlA K M H (v :: vs) (d :: ds)
end
section
variable {K : PySem.W.Frag} {M M' M'' : Adr} {H H' H'' : Hp}
mutual
theorem Rl.move (hl : ∀ a vs, LsR K M H a vs → LsR K M' H' a vs) (ht : ∀ a vs, SqT K H a vs → SqT K H' a vs) : ∀ (d : D) (v : V), Rl K M H v d → Rl K M' H' v d
  | .none, _, h => by cases h; exact .non
  | .bool b, _, h => by cases h; exact .bl b
  | .int i, _, h => by cases h; exact .int i
  | .str x, _, h => by cases h; exact .str x
  | .list ds, _, h => by
    cases h with
    | lst h1 h2 => exact .lst (hl _ _ h1) (RlA.move hl ht ds _ h2)
  | .tuple ds, _, h => by
    cases h with
    | tup h1 h2 => exact .tup (ht _ _ h1) (RlA.move hl ht ds _ h2)
  | .dict _, _, h => by cases h
theorem RlA.move (hl : ∀ a vs, LsR K M H a vs → LsR K M' H' a vs) (ht : ∀ a vs, SqT K H a vs → SqT K H' a vs) : ∀ (ds : List D) (vs : List V), RlA K M H vs ds → RlA K M' H' vs ds
  | [], _, h => by cases h; exact .nil
  | d :: ds, _, h => by
    cases h with
    | cons h1 h2 => exact .cons (Rl.move hl ht d _ h1) (RlA.move hl ht ds _ h2)
end
mutual
theorem Rl.dp : ∀ (d : D) (v : V), Rl K M H v d → Dp K H v d
  | .none, _, h => by cases h; exact .non
  | .bool b, _, h => by cases h; exact .bl b
  | .int i, _, h => by cases h; exact .int i
  | .str x, _, h => by cases h; exact .str x
  | .list ds, _, h => by
    cases h with
    | lst h1 h2 => exact .lst h1.sql (RlA.dp ds _ h2)
  | .tuple ds, _, h => by
    cases h with
    | tup h1 h2 => exact .tup h1 (RlA.dp ds _ h2)
  | .dict _, _, h => by cases h
theorem RlA.dp : ∀ (ds : List D) (vs : List V), RlA K M H vs ds → DpAll K H vs ds
  | [], _, h => by cases h; exact .nil
  | d :: ds, _, h => by
    cases h with
    | cons h1 h2 => exact .cons (Rl.dp d _ h1) (RlA.dp ds _ h2)
end
theorem RlA.len {vs : List V} {ds : List D} (h : RlA K M H vs ds) : vs.length = ds.length := by
  induction ds generalizing vs with
  | nil => cases h; rfl
  | cons d ds ih => cases h with | cons h1 h2 => rw [List.length_cons, List.length_cons, ih h2]
theorem RlA.get {vs : List V} {ds : List D} (h : RlA K M H vs ds) {i : Nat} {d : D} (e : ds[i]? = some d) : ∃ v, vs[i]? = some v ∧ Rl K M H v d := by
  induction ds generalizing vs i with
  | nil => cases e
  | cons x ds ih =>
    cases h with
    | cons h1 h2 =>
      cases i with
      | zero => cases e; exact ⟨_, rfl, h1⟩
      | succ i => exact ih h2 e
theorem RlA.get' {vs : List V} {ds : List D} (h : RlA K M H vs ds) {i : Nat} {v : V} (e : vs[i]? = some v) : ∃ d, ds[i]? = some d ∧ Rl K M H v d := by
  induction ds generalizing vs i with
  | nil => cases h; cases e
  | cons x ds ih =>
    cases h with
    | cons h1 h2 =>
      cases i with
      | zero => cases e; exact ⟨_, rfl, h1⟩
      | succ i => exact ih h2 e
theorem RlA.append {vs ws : List V} {ds es : List D} (h : RlA K M H vs ds) (h' : RlA K M H ws es) : RlA K M H (vs ++ ws) (ds ++ es) := by
  induction ds generalizing vs with
  | nil => cases h; exact h'
  | cons x ds ih => cases h with | cons h1 h2 => exact .cons h1 (ih h2)
theorem RlA.take {vs : List V} {ds : List D} (h : RlA K M H vs ds) (n : Nat) : RlA K M H (vs.take n) (ds.take n) := by
  induction ds generalizing vs n with
  | nil => cases h; rw [List.take_nil, List.take_nil]; exact .nil
  | cons x ds ih => cases h with | cons h1 h2 => cases n with | zero => exact .nil | succ n => exact .cons h1 (ih h2 n)
theorem RlA.drop {vs : List V} {ds : List D} (h : RlA K M H vs ds) (n : Nat) : RlA K M H (vs.drop n) (ds.drop n) := by
  induction ds generalizing vs n with
  | nil => cases h; rw [List.drop_nil, List.drop_nil]; exact .nil
  | cons x ds ih => cases h with | cons h1 h2 => cases n with | zero => exact .cons h1 h2 | succ n => exact ih h2 n
theorem RlA.set {vs : List V} {ds : List D} (h : RlA K M H vs ds) {v : V} {d : D} (r : Rl K M H v d) (n : Nat) : RlA K M H (vs.set n v) (ds.set n d) := by
  induction ds generalizing vs n with
  | nil => cases h; exact .nil
  | cons x ds ih => cases h with | cons h1 h2 => cases n with | zero => exact .cons r h2 | succ n => exact .cons h1 (ih h2 n)
theorem RlA.one {v : V} {d : D} (r : Rl K M H v d) : RlA K M H [v] [d] := .cons r .nil

/-- what may have changed: the cells of M alone; what is new stands where nothing stood -/
structure Ext (M : Adr) (H : Hp) (M' : Adr) (H' : Hp) : Prop where
  subn : ∀ (n : Nat) (a : Addr), M'.c[n]? = some (some a) → M.c[n]? = some (some a) ∨ (M.c.length ≤ n ∧ H a = none)
  gs : ∀ a, a ∈ M'.g → a ∈ M.g ∨ H a = none
  gk : ∀ a, a ∈ M.g → a ∈ M'.g
  pos : ∀ (n : Nat) (a : Addr), M.c[n]? = some (some a) → M'.c[n]? = some (some a) ∨ M'.c[n]? = some none
  dead : ∀ n : Nat, M.c[n]? = some none → M'.c[n]? = some none
  keep : ∀ a o, H a = some o → (some a ∉ M.c ∨ ∀ xs, o ≠ .lst xs) → H' a = some o
  free : ∀ a, H' a = none → H a = none
theorem Ext.refl : Ext M H M H := ⟨fun _ _ h => .inl h, fun _ h => .inl h, fun _ h => h, fun _ _ h => .inl h, fun _ h => h, fun _ _ h _ => h, fun _ h => h⟩
theorem Ext.len (x : Ext M H M' H') : M.c.length ≤ M'.c.length := by
  cases h : M.c.length with
  | zero => exact Nat.zero_le _
  | succ k =>
    have hk : k < M.c.length := by omega
    have : k < M'.c.length := by
      cases e : M.c[k] with
      | none => exact (List.getElem?_eq_some_iff.mp (x.dead k (by rw [List.getElem?_eq_getElem hk, e]))).1
      | some a =>
        rcases x.pos k a (by rw [List.getElem?_eq_getElem hk, e]) with q | q
        · exact (List.getElem?_eq_some_iff.mp q).1
        · exact (List.getElem?_eq_some_iff.mp q).1
    omega
theorem Ext.sub (x : Ext M H M' H') (a : Addr) (h : some a ∈ M'.c) : some a ∈ M.c ∨ H a = none := by
  obtain ⟨n, e⟩ := List.mem_iff_getElem?.mp h
  exact (x.subn n a e).elim (fun z => .inl (List.mem_of_getElem? z)) fun z => .inr z.2
theorem Ext.trans (x : Ext M H M' H') (y : Ext M' H' M'' H'') : Ext M H M'' H'' where
  subn := fun n a h => (y.subn n a h).elim (x.subn n a) fun h => .inr ⟨Nat.le_trans x.len h.1, x.free a h.2⟩
  gs := fun a h => (y.gs a h).elim (x.gs a) fun h => .inr (x.free a h)
  gk := fun a h => y.gk a (x.gk a h)
  pos := fun n a h => (x.pos n a h).elim (y.pos n a) fun h => .inr (y.dead n h)
  dead := fun n h => y.dead n (x.dead n h)
  keep := fun a o h c => y.keep a o (x.keep a o h c) (c.elim (fun c => .inl fun z => (x.sub a z).elim c fun e => by rw [h] at e; cases e) .inr)
  free := fun a h => x.free a (y.free a h)
/-- back: what was in the making is left out -/
def Adr.ug (M' M : Adr) : Adr := ⟨M'.c, M.g⟩
theorem Ext.ungh (x : Ext M H M' H') : Ext M H (M'.ug M) H' := ⟨x.subn, fun _ h => .inl h, fun _ h => h, x.pos, x.dead, x.keep, x.free⟩
theorem Ext.ughmem (x : Ext M H M' H') {p : Addr} (hp : p ∈ M'.g) {a : Addr} (h : ((M'.ug M).gh p).mem a) : M'.mem a := by
  rcases h with h | h
  · exact .inl h
  · rcases List.mem_cons.mp h with h | h
    · rw [h]; exact .inr hp
    · exact .inr (x.gk a h)
theorem Ext.ugmem (x : Ext M H M' H') {a : Addr} (h : (M'.ug M).mem a) : M'.mem a := by
  rcases h with h | h
  · exact .inl h
  · exact .inr (x.gk a h)
theorem Ext.mem (x : Ext M H M' H') {a : Addr} (h : M'.mem a) : M.mem a ∨ H a = none := by
  rcases h with h | h
  · exact (x.sub a h).elim (fun z => .inl (.inl z)) .inr
  · exact (x.gs a h).elim (fun z => .inl (.inr z)) .inr
/-- a new list in the making -/
theorem Ext.ghost {p : Addr} {o : HO} (hp : H p = none) : Ext M H (M.gh p) (upd H p o) :=
  ⟨fun _ _ h => .inl h, fun a h => (List.mem_cons.mp h).elim (fun e => .inr (by rw [e]; exact hp)) .inl, fun _ h => List.mem_cons_of_mem _ h, fun _ _ h => .inl h, fun _ h => h, fun a u h _ => by rw [upd_ne (ne_of_none h hp)]; exact h, fun a h => by
    by_cases e : a = p
    · subst e; exact hp
    · rw [upd_ne e] at h; exact h⟩
theorem Ext.lsr (x : Ext M H M' H') {a : Addr} {vs : List V} (h : LsR K M H a vs) : LsR K M' H' a vs := by
  rcases h with ⟨h, n⟩ | h
  · have nc : some a ∉ M.c := fun z => n (.inl z)
    refine .inl ⟨?_, fun z => ?_⟩
    · rcases h with h | ⟨o, h⟩
      · exact .inl (x.keep a _ h (.inl nc))
      · exact .inr ⟨o, x.keep a _ h (.inl nc)⟩
    · rcases x.mem z with z | z
      · exact n z
      · rcases h with h | ⟨o, h⟩ <;> (rw [h] at z; cases z)
  · exact .inr h
theorem Ext.sqt (x : Ext M H M' H') {a : Addr} {vs : List V} (h : SqT K H a vs) : SqT K H' a vs := by
  rcases h with (h | ⟨o, h⟩) | h
  · exact .inl (.inl (x.keep a _ h (.inr fun _ z => nomatch z)))
  · exact .inl (.inr ⟨o, x.keep a _ h (.inr fun _ z => nomatch z)⟩)
  · exact .inr h
theorem Rl.mono (x : Ext M H M' H') {v : V} {d : D} (h : Rl K M H v d) : Rl K M' H' v d := Rl.move (fun _ _ => x.lsr) (fun _ _ => x.sqt) d v h
theorem RlA.mono (x : Ext M H M' H') {v : List V} {d : List D} (h : RlA K M H v d) : RlA K M' H' v d := RlA.move (fun _ _ => x.lsr) (fun _ _ => x.sqt) d v h
/-- less is kept: lists in the making may grow, too -/
structure ExtW (M : Adr) (H : Hp) (M' : Adr) (H' : Hp) : Prop where
  mem : ∀ a, M'.mem a → M.mem a ∨ H a = none
  keep : ∀ a o, H a = some o → (¬ M.mem a ∨ ∀ xs, o ≠ .lst xs) → H' a = some o
  free : ∀ a, H' a = none → H a = none
theorem Ext.w (x : Ext M H M' H') : ExtW M H M' H' := ⟨fun _ h => x.mem h, fun a o h c => x.keep a o h (c.elim (fun c => .inl fun z => c (.inl z)) .inr), x.free⟩
theorem ExtW.trans (x : ExtW M H M' H') (y : ExtW M' H' M'' H'') : ExtW M H M'' H'' :=
  ⟨fun a h => (y.mem a h).elim (x.mem a) fun h => .inr (x.free a h), fun a o h c => y.keep a o (x.keep a o h c) (c.elim (fun c => .inl fun z => (x.mem a z).elim c fun e => by rw [h] at e; cases e) .inr), fun a h => x.free a (y.free a h)⟩
theorem ExtW.grow {p : Addr} {us ws : List V} (hm : M.mem p) (hp : H p = some (.lst us)) : ExtW M H M (upd H p (.lst ws)) :=
  ⟨fun _ h => .inl h, fun a o h c => by
    have ne : a ≠ p := fun e => by
      subst e
      rw [hp] at h
      cases h
      exact c.elim (fun c => c hm) fun c => c us rfl
    rw [upd_ne ne]; exact h, fun a h => by
    by_cases e : a = p
    · subst e; rw [upd_same] at h; cases h
    · rw [upd_ne e] at h; exact h⟩
theorem ExtW.lsr (x : ExtW M H M' H') {a : Addr} {vs : List V} (h : LsR K M H a vs) : LsR K M' H' a vs := by
  rcases h with ⟨h, n⟩ | h
  · refine .inl ⟨?_, fun z => ?_⟩
    · rcases h with h | ⟨o, h⟩
      · exact .inl (x.keep a _ h (.inl n))
      · exact .inr ⟨o, x.keep a _ h (.inl n)⟩
    · rcases x.mem a z with z | z
      · exact n z
      · rcases h with h | ⟨o, h⟩ <;> (rw [h] at z; cases z)
  · exact .inr h
theorem ExtW.sqt (x : ExtW M H M' H') {a : Addr} {vs : List V} (h : SqT K H a vs) : SqT K H' a vs := by
  rcases h with (h | ⟨o, h⟩) | h
  · exact .inl (.inl (x.keep a _ h (.inr fun _ z => nomatch z)))
  · exact .inl (.inr ⟨o, x.keep a _ h (.inr fun _ z => nomatch z)⟩)
  · exact .inr h
theorem RlA.monoW (x : ExtW M H M' H') {v : List V} {d : List D} (h : RlA K M H v d) : RlA K M' H' v d := RlA.move (fun _ _ => x.lsr) (fun _ _ => x.sqt) d v h
theorem LsR.anti (hs : ∀ a, M'.mem a → M.mem a) {a : Addr} {vs : List V} (h : LsR K M H a vs) : LsR K M' H a vs := by
  rcases h with ⟨h, n⟩ | h
  · exact .inl ⟨h, fun z => n (hs a z)⟩
  · exact .inr h
theorem Rl.anti (hs : ∀ a, M'.mem a → M.mem a) {v : V} {d : D} (h : Rl K M H v d) : Rl K M' H v d := Rl.move (fun _ _ => LsR.anti hs) (fun _ _ z => z) d v h
theorem RlA.anti (hs : ∀ a, M'.mem a → M.mem a) {v : List V} {d : List D} (h : RlA K M H v d) : RlA K M' H v d := RlA.move (fun _ _ => LsR.anti hs) (fun _ _ z => z) d v h
theorem Adr.mem_gh {a p : Addr} (h : M.mem a) : (M.gh p).mem a := h.elim .inl fun h => .inr (List.mem_cons_of_mem _ h)
theorem Rl.ungh {p : Addr} {v : V} {d : D} (h : Rl K (M.gh p) H v d) : Rl K M H v d := h.anti fun _ => Adr.mem_gh
theorem RlA.ungh {p : Addr} {v : List V} {d : List D} (h : RlA K (M.gh p) H v d) : RlA K M H v d := h.anti fun _ => Adr.mem_gh
/-- something new at p -/
theorem Ext.new {p : Addr} {o : HO} (hp : H p = none) : Ext M H M (upd H p o) :=
  ⟨fun _ _ h => .inl h, fun _ h => .inl h, fun _ h => h, fun _ _ h => .inl h, fun _ h => h, fun a u h _ => by rw [upd_ne (ne_of_none h hp)]; exact h, fun a h => by
    by_cases e : a = p
    · subst e; exact hp
    · rw [upd_ne e] at h; exact h⟩
theorem Rl.fresh {p : Addr} {o : HO} (hp : H p = none) {v : V} {d : D} (h : Rl K M H v d) : Rl K (M.gh p) (upd H p o) v d :=
  Rl.move (fun a vs h => by
    rcases h with ⟨h, n⟩ | h
    · have ne : a ≠ p := by rcases h with h | ⟨u, h⟩ <;> exact ne_of_none h hp
      refine .inl ⟨?_, fun z => ?_⟩
      · rcases h with h | ⟨u, h⟩
        · exact .inl (by rw [upd_ne ne]; exact h)
        · exact .inr ⟨u, by rw [upd_ne ne]; exact h⟩
      · rcases z with z | z
        · exact n (.inl z)
        · rcases List.mem_cons.mp z with z | z
          · exact ne z
          · exact n (.inr z)
    · exact .inr h) (fun a vs h => (Ext.new (M := M) hp).sqt h) d v h
theorem RlA.fresh {p : Addr} {o : HO} (hp : H p = none) {v : List V} {d : List D} (h : RlA K M H v d) : RlA K (M.gh p) (upd H p o) v d := by
  induction d generalizing v with
  | nil => cases h; exact .nil
  | cons x ds ih => cases h with | cons h1 h2 => exact .cons (h1.fresh hp) (ih h2)
/-- a list in the making grows: nobody sees it -/
theorem Rl.grow {p : Addr} {vs ws : List V} (hg : M.mem p) (hp : H p = some (.lst vs)) {v : V} {d : D} (h : Rl K M H v d) : Rl K M (upd H p (.lst ws)) v d :=
  Rl.move (fun a vs h => by
    rcases h with ⟨h, n⟩ | h
    · have ne : a ≠ p := fun e => n (by rw [e]; exact hg)
      refine .inl ⟨?_, n⟩
      rcases h with h | ⟨u, h⟩
      · exact .inl (by rw [upd_ne ne]; exact h)
      · exact .inr ⟨u, by rw [upd_ne ne]; exact h⟩
    · exact .inr h) (fun a vs h => by
    rcases h with (h | ⟨o, h⟩) | h
    · exact .inl (.inl (by rw [upd_ne (ne_of h hp fun z => nomatch z)]; exact h))
    · exact .inl (.inr ⟨o, by rw [upd_ne (ne_of h hp fun z => nomatch z)]; exact h⟩)
    · exact .inr h) d v h
theorem RlA.grow {p : Addr} {us ws : List V} (hg : M.mem p) (hp : H p = some (.lst us)) {v : List V} {d : List D} (h : RlA K M H v d) : RlA K M (upd H p (.lst ws)) v d := by
  induction d generalizing v with
  | nil => cases h; exact .nil
  | cons x ds ih => cases h with | cons h1 h2 => exact .cons (h1.grow hg hp) (ih h2)

structure Ok (K : PySem.W.Frag) (M : Adr) (S : Sto) (H : Hp) : Prop where
  len : M.c.length = S.length
  inj : ∀ (i j : Nat) (a : Addr), M.c[i]? = some (some a) → M.c[j]? = some (some a) → i = j
  cell : ∀ (n : Nat) (xs : List D), S[n]? = some (some xs) → ∃ a vs, M.c[n]? = some (some a) ∧ H a = some (.lst vs) ∧ RlA K M H vs xs
  lst : ∀ a, M.mem a → ∃ vs, H a = some (.lst vs)
  dj : ∀ a, some a ∈ M.c → a ∉ M.g
theorem Ok.ext {S : Sto} (ok : Ok K M S H) (x : Ext M H M H') (hk : ∀ a, M.mem a → H' a = H a) : Ok K M S H' :=
  ⟨ok.len, ok.inj, fun n xs e => by
    obtain ⟨a, vs, e1, e2, e3⟩ := ok.cell n xs e
    exact ⟨a, vs, e1, by rw [hk a (.inl (List.mem_of_getElem? e1))]; exact e2, e3.mono x⟩, fun a h => by rw [hk a h]; exact ok.lst a h, ok.dj⟩
theorem Ok.new {S : Sto} (ok : Ok K M S H) {p : Addr} {o : HO} (hp : H p = none) : Ok K M S (upd H p o) :=
  ok.ext (Ext.new hp) fun a h => by
    obtain ⟨vs, e⟩ := ok.lst a h
    rw [upd_ne (ne_of_none e hp)]
theorem Ok.notin {S : Sto} (ok : Ok K M S H) {p : Addr} (hp : H p = none) : ¬ M.mem p := fun z => by
  obtain ⟨vs, e⟩ := ok.lst p z
  rw [e] at hp; cases hp
/-- a new list in the making -/
theorem Ok.ghost {S : Sto} (ok : Ok K M S H) {p : Addr} {vs : List V} (hp : H p = none) : Ok K (M.gh p) S (upd H p (.lst vs)) :=
  ⟨ok.len, ok.inj, fun n xs e => by
    obtain ⟨a, us, e1, e2, e3⟩ := ok.cell n xs e
    exact ⟨a, us, e1, by rw [upd_ne (ne_of_none e2 hp)]; exact e2, e3.fresh hp⟩, fun a h => by
    by_cases e : a = p
    · subst e; exact ⟨vs, upd_same⟩
    · rw [upd_ne e]
      refine ok.lst a ?_
      rcases h with h | h
      · exact .inl h
      · rcases List.mem_cons.mp h with h | h
        · exact absurd h e
        · exact .inr h, fun a h z => by
    rcases List.mem_cons.mp z with z | z
    · obtain ⟨us, e⟩ := ok.lst a (.inl h)
      rw [z, hp] at e; cases e
    · exact ok.dj a h z⟩
theorem Ok.ug {S : Sto} (ok : Ok K M' S H) {M : Adr} (hg : ∀ a, a ∈ M.g → a ∈ M'.g) : Ok K (M'.ug M) S H :=
  have hs : ∀ a, (M'.ug M).mem a → M'.mem a := fun a z => z.elim .inl fun z => .inr (hg a z)
  ⟨ok.len, ok.inj, fun n xs e => by
    obtain ⟨a, us, e1, e2, e3⟩ := ok.cell n xs e
    exact ⟨a, us, e1, e2, e3.anti hs⟩, fun a h => ok.lst a (hs a h), fun a h z => ok.dj a h (hg a z)⟩
theorem Ok.grow {S : Sto} {p : Addr} {vs ws : List V} (ok : Ok K M S H) (hg : M.mem p) (hp : H p = some (.lst vs)) (hc : some p ∉ M.c) : Ok K M S (upd H p (.lst ws)) :=
  ⟨ok.len, ok.inj, fun n xs e => by
    obtain ⟨a, us, e1, e2, e3⟩ := ok.cell n xs e
    have ne : a ≠ p := fun z => hc (by rw [← z]; exact List.mem_of_getElem? e1)
    exact ⟨a, us, e1, by rw [upd_ne ne]; exact e2, e3.grow hg hp⟩, fun a h => by
    by_cases e : a = p
    · subst e; exact ⟨ws, upd_same⟩
    · rw [upd_ne e]; exact ok.lst a h, ok.dj⟩

/-- a cell is written -/
theorem Ok.setc {S : Sto} (ok : Ok K M S H) {n : Nat} {a : Addr} {vs ws : List V} {xs : List D} (hm : M.c[n]? = some (some a)) (hp : H a = some (.lst vs)) (r : RlA K M H ws xs) : Ok K M (S.set n (some xs)) (upd H a (.lst ws)) :=
  have hmem : M.mem a := .inl (List.mem_of_getElem? hm)
  ⟨by rw [List.length_set]; exact ok.len, ok.inj, fun j ys e => by
    by_cases hj : n = j
    · subst hj
      have hl : n < S.length := by
        have := (List.getElem?_eq_some_iff.mp e).1
        rw [List.length_set] at this; exact this
      rw [List.getElem?_set_self hl] at e
      cases e
      exact ⟨a, ws, hm, upd_same, r.grow hmem hp⟩
    · rw [List.getElem?_set_ne hj] at e
      obtain ⟨c, us, e1, e2, e3⟩ := ok.cell j ys e
      have ne : c ≠ a := fun z => hj (ok.inj n j a hm (by rw [← z]; exact e1))
      exact ⟨c, us, e1, by rw [upd_ne ne]; exact e2, e3.grow hmem hp⟩, fun c h => by
    by_cases e : c = a
    · subst e; exact ⟨ws, upd_same⟩
    · rw [upd_ne e]; exact ok.lst c h, ok.dj⟩
theorem Ext.setc {a : Addr} {vs ws : List V} (hm : some a ∈ M.c) (hp : H a = some (.lst vs)) : Ext M H M (upd H a (.lst ws)) :=
  ⟨fun _ _ h => .inl h, fun _ h => .inl h, fun _ h => h, fun _ _ h => .inl h, fun _ h => h, fun c o h q => by
    by_cases e : c = a
    · subst e
      rw [hp] at h
      cases h
      rcases q with q | q
      · exact absurd hm q
      · exact absurd rfl (q vs)
    · rw [upd_ne e]; exact h, fun c h => by
    by_cases e : c = a
    · subst e; rw [upd_same] at h; cases h
    · rw [upd_ne e] at h; exact h⟩
/-- a new cell -/
def Adr.add (M : Adr) (a : Addr) : Adr := ⟨M.c ++ [some a], M.g⟩
theorem Adr.addmem {a p : Addr} (h : (M.add p).mem a) : (M.gh p).mem a := by
  rcases h with h | h
  · rcases List.mem_append.mp h with h | h
    · exact .inl h
    · have e : a = p := by simpa using h
      rw [e]; exact .inr List.mem_cons_self
  · exact .inr (List.mem_cons_of_mem _ h)
theorem Ext.add {a : Addr} (h0 : H a = none) (x : Ext M H M' H') : Ext M H (M'.add a) H' :=
  ⟨fun n c h => by
    by_cases hn : n < M'.c.length
    · exact x.subn n c (by rw [← List.getElem?_append_left hn]; exact h)
    · have hn : M'.c.length ≤ n := by omega
      have h : (M'.c ++ [some a])[n]? = some (some c) := h
      rw [List.getElem?_append_right hn] at h
      have e : n - M'.c.length = 0 := by
        have := (List.getElem?_eq_some_iff.mp h).1
        simp at this
        omega
      rw [e] at h
      cases h
      exact .inr ⟨Nat.le_trans x.len hn, h0⟩, x.gs, x.gk, fun n c h => by
    have hn : n < M'.c.length := by
      have := (List.getElem?_eq_some_iff.mp h).1
      exact Nat.lt_of_lt_of_le this x.len
    show (M'.c ++ [some a])[n]? = some (some c) ∨ (M'.c ++ [some a])[n]? = some none
    rw [List.getElem?_append_left hn]
    exact x.pos n c h, fun n h => by
    have hn : n < M'.c.length := by
      have := (List.getElem?_eq_some_iff.mp h).1
      exact Nat.lt_of_lt_of_le this x.len
    show (M'.c ++ [some a])[n]? = some none
    rw [List.getElem?_append_left hn]
    exact x.dead n h, x.keep, x.free⟩
theorem Ok.add {S : Sto} (ok : Ok K M S H) {a : Addr} {vs : List V} {xs : List D} (hp : H a = some (.lst vs)) (hn : ¬ M.mem a) (hr : ∀ (v : V) (d : D), Rl K M H v d → Rl K (M.add a) H v d ∨ True) (r : RlA K (M.gh a) H vs xs)
    (hc : ∀ (n : Nat) (ys : List D), S[n]? = some (some ys) → ∃ c us, M.c[n]? = some (some c) ∧ H c = some (.lst us) ∧ RlA K (M.gh a) H us ys) : Ok K (M.add a) (S ++ [some xs]) H :=
  ⟨by show (M.c ++ [some a]).length = _; rw [List.length_append, List.length_append, ok.len]; rfl, fun i j c h1 h2 => by
    have h1 : (M.c ++ [some a])[i]? = some (some c) := h1
    have h2 : (M.c ++ [some a])[j]? = some (some c) := h2
    have key : ∀ i, (M.c ++ [some a])[i]? = some (some c) → (M.c[i]? = some (some c)) ∨ (i = M.c.length ∧ c = a) := fun i h => by
      by_cases hi : i < M.c.length
      · rw [List.getElem?_append_left hi] at h; exact .inl h
      · rw [List.getElem?_append_right (by omega)] at h
        have e : i - M.c.length = 0 := by
          have := (List.getElem?_eq_some_iff.mp h).1
          simp at this
          omega
        rw [e] at h
        cases h
        exact .inr ⟨by omega, rfl⟩
    rcases key i h1 with k1 | ⟨k1, e1⟩
    · rcases key j h2 with k2 | ⟨k2, e2⟩
      · exact ok.inj i j c k1 k2
      · exact absurd (Or.inl (List.mem_of_getElem? (e2 ▸ k1))) hn
    · rcases key j h2 with k2 | ⟨k2, e2⟩
      · exact absurd (Or.inl (List.mem_of_getElem? (e1 ▸ k2))) hn
      · omega, fun n ys e => by
    by_cases hl : n < S.length
    · rw [List.getElem?_append_left hl] at e
      obtain ⟨c, us, e1, e2, e3⟩ := hc n ys e
      exact ⟨c, us, by show (M.c ++ [some a])[n]? = _; rw [List.getElem?_append_left (by rw [ok.len]; exact hl)]; exact e1, e2, e3.anti fun _ => Adr.addmem⟩
    · rw [List.getElem?_append_right (by omega)] at e
      have e0 : n - S.length = 0 := by
        have := (List.getElem?_eq_some_iff.mp e).1
        simp at this
        omega
      rw [e0] at e
      cases e
      refine ⟨a, vs, ?_, hp, r.anti fun _ => Adr.addmem⟩
      show (M.c ++ [some a])[n]? = _
      rw [List.getElem?_append_right (by rw [ok.len]; omega), ok.len, e0]
      rfl, fun c h => by
    rcases Adr.addmem h with h | h
    · exact ok.lst c (.inl h)
    · rcases List.mem_cons.mp h with h | h
      · rw [h]; exact ⟨vs, hp⟩
      · exact ok.lst c (.inr h), fun c h z => by
    rcases List.mem_append.mp h with h | h
    · exact ok.dj c h z
    · have e : c = a := by simpa using h
      rw [e] at z
      exact hn (.inr z)⟩
def RSl (K : PySem.W.Frag) (M : Adr) (H : Hp) (v : V) : Sl → Prop
  | .d x => Rl K M H v x
  | .loc n => ∃ a, v = .ref a ∧ (M.c[n]? = some (some a) ∨ M.c[n]? = some none)
theorem RSl.mono (x : Ext M H M' H') {v : V} : ∀ {s : Sl}, RSl K M H v s → RSl K M' H' v s
  | .d _, h => Rl.mono x h
  | .loc n, ⟨a, e, h⟩ => ⟨a, e, h.elim (fun h => x.pos n a h) fun h => .inr (x.dead n h)⟩
inductive RSlA (K : PySem.W.Frag) (M : Adr) (H : Hp) : List V → List Sl → Prop
  | nil : RSlA K M H [] []
  | cons {v : V} {vs : List V} {d : Sl} {ds : List Sl} : RSl K M H v d → RSlA K M H vs ds → RSlA K M H (v :: vs) (d :: ds)
theorem RSlA.mono (x : Ext M H M' H') {v : List V} {s : List Sl} (h : RSlA K M H v s) : RSlA K M' H' v s := by
  induction h with
  | nil => exact .nil
  | cons h1 _ ih => exact .cons (h1.mono x) ih
theorem RSlA.len {vs : List V} {ds : List Sl} (h : RSlA K M H vs ds) : vs.length = ds.length := by
  induction h with
  | nil => rfl
  | cons h1 _ ih => rw [List.length_cons, List.length_cons, ih]
theorem RSl.fresh {p : Addr} {o : HO} (hp : H p = none) {v : V} : ∀ {s : Sl}, RSl K M H v s → RSl K (M.gh p) (upd H p o) v s
  | .d _, h => Rl.fresh hp h
  | .loc n, h => h
theorem RSl.grow {p : Addr} {vs ws : List V} (hg : M.mem p) (hp : H p = some (.lst vs)) {v : V} : ∀ {s : Sl}, RSl K M H v s → RSl K M (upd H p (.lst ws)) v s
  | .d _, h => Rl.grow hg hp h
  | .loc n, h => h
theorem RSl.ungh {p : Addr} {v : V} : ∀ {s : Sl}, RSl K (M.gh p) H v s → RSl K M H v s
  | .d _, h => Rl.ungh h
  | .loc n, h => h
structure RSt (K : PySem.W.Frag) (M : Adr) (H : Hp) (σ : St) (ρ : Rho) : Prop where
  len : σ.length = ρ.length
  at_ : ∀ (i : Nat) (s : Sl), ρ[i]? = some (some s) → ∃ v, σ[i]? = some (some v) ∧ RSl K M H v s
theorem RSt.mono {σ : St} {ρ : Rho} (x : Ext M H M' H') (h : RSt K M H σ ρ) : RSt K M' H' σ ρ :=
  ⟨h.len, fun i s e => by obtain ⟨v, e1, e2⟩ := h.at_ i s e; exact ⟨v, e1, e2.mono x⟩⟩
theorem RSt.fresh {σ : St} {ρ : Rho} {p : Addr} {o : HO} (hp : H p = none) (h : RSt K M H σ ρ) : RSt K (M.gh p) (upd H p o) σ ρ :=
  ⟨h.len, fun i s e => by obtain ⟨v, e1, e2⟩ := h.at_ i s e; exact ⟨v, e1, e2.fresh hp⟩⟩
theorem RSt.grow {σ : St} {ρ : Rho} {p : Addr} {vs ws : List V} (hg : M.mem p) (hp : H p = some (.lst vs)) (h : RSt K M H σ ρ) : RSt K M (upd H p (.lst ws)) σ ρ :=
  ⟨h.len, fun i s e => by obtain ⟨v, e1, e2⟩ := h.at_ i s e; exact ⟨v, e1, e2.grow hg hp⟩⟩
theorem RSt.ungh {σ : St} {ρ : Rho} {p : Addr} (h : RSt K (M.gh p) H σ ρ) : RSt K M H σ ρ :=
  ⟨h.len, fun i s e => by obtain ⟨v, e1, e2⟩ := h.at_ i s e; exact ⟨v, e1, e2.ungh⟩⟩
theorem RSt.set {σ : St} {ρ : Rho} (h : RSt K M H σ ρ) {v : V} {s : Sl} (r : RSl K M H v s) (i : Nat) : RSt K M H (σ.set i (some v)) (ρ.set i (some s)) :=
  ⟨by rw [List.length_set, List.length_set, h.len], fun j t e => by
    by_cases hj : i = j
    · subst hj
      have hl : i < ρ.length := by
        have := (List.getElem?_eq_some_iff.mp e).1
        rw [List.length_set] at this; exact this
      rw [List.getElem?_set_self hl] at e
      cases e
      exact ⟨v, List.getElem?_set_self (by rw [h.len]; exact hl), r⟩
    · rw [List.getElem?_set_ne hj] at e ⊢
      exact h.at_ j t e⟩
end
end G
set_option Elab.async false
set_option linter.all false
set_option autoImplicit false
set_option maxRecDepth 100000
set_option maxHeartbeats 4000000
namespace G
open PySem L2

abbrev ME := Rho → Sto → Option (D × Sto)
abbrev MN := Rho → Sto → Option (List D × Sto)
abbrev MT := Rho → Sto → Option (Bool × Sto)
abbrev MA := Rho → Sto → Option (List Sl × Sto)
inductive Out where
  | nx | bk | ct
  | rt (r : Rt)
abbrev MS := Rho → Sto → Option (Out × Rho × Sto)
abbrev MG := D → Rho → Option Rho

section
variable (K : PySem.W.Frag)
def PE1 (M : Adr) (H : Hp) (S' : Sto) (d : D) (Q : VK) : Prop := ∀ v H' M', Ext M H M' H' → Ok K M' S' H' → Rl K M' H' v d → Q v H'
def ImE (t : TE) (m : ME) : Prop := ∀ (σ : St) (H : Hp) (M : Adr) (ρ : Rho) (S : Sto) (d : D) (S' : Sto), RSt K M H σ ρ → Ok K M S H → m ρ S = some (d, S') → ∀ Q : VK, PE1 K M H S' d Q → t σ H Q
/-- a list or a tuple to be read -/
def ImQ (t : TE) (m : MN) : Prop := ∀ (σ : St) (H : Hp) (M : Adr) (ρ : Rho) (S : Sto) (xs : List D) (S' : Sto), RSt K M H σ ρ → Ok K M S H → m ρ S = some (xs, S') → ∀ Q : VK,
  (∀ a vs H' M', Ext M H M' H' → Ok K M' S' H' → (SqL K H' a vs ∨ SqT K H' a vs) → RlA K M' H' vs xs → Q (.ref a) H') → t σ H Q
/-- a list to be read -/
def ImL (t : TE) (m : MN) : Prop := ∀ (σ : St) (H : Hp) (M : Adr) (ρ : Rho) (S : Sto) (xs : List D) (S' : Sto), RSt K M H σ ρ → Ok K M S H → m ρ S = some (xs, S') → ∀ Q : VK,
  (∀ a vs H' M', Ext M H M' H' → Ok K M' S' H' → SqL K H' a vs → RlA K M' H' vs xs → Q (.ref a) H') → t σ H Q
/-- a new list -/
def ImN (t : TE) (m : MN) : Prop := ∀ (σ : St) (H : Hp) (M : Adr) (ρ : Rho) (S : Sto) (xs : List D) (S' : Sto), RSt K M H σ ρ → Ok K M S H → m ρ S = some (xs, S') → ∀ Q : VK,
  (∀ a vs H' M', Ext M H M' H' → Ok K M' S' H' → H a = none → H' a = some (.lst vs) → a ∈ M'.g → RlA K M' H' vs xs → Q (.ref a) H') → t σ H Q
def ImT (t : TT) (m : MT) : Prop := ∀ (σ : St) (H : Hp) (M : Adr) (ρ : Rho) (S : Sto) (b : Bool) (S' : Sto), RSt K M H σ ρ → Ok K M S H → m ρ S = some (b, S') → ∀ Q : Bool → Hp → Prop,
  (∀ H' M', Ext M H M' H' → Ok K M' S' H' → Q b H') → t σ H Q
def ImA (t : TA) (m : MA) : Prop := ∀ (σ : St) (H : Hp) (M : Adr) (ρ : Rho) (S : Sto) (xs : List Sl) (S' : Sto), RSt K M H σ ρ → Ok K M S H → m ρ S = some (xs, S') → ∀ Q : List V → Hp → Prop,
  (∀ vs H' M', Ext M H M' H' → Ok K M' S' H' → RSlA K M' H' vs xs → Q vs H') → t σ H Q
def ImG (g : TG) (m : MG) : Prop := ∀ (σ : St) (H : Hp) (M : Adr) (ρ ρ' : Rho) (v : V) (d : D), RSt K M H σ ρ → Rl K M H v d → m d ρ = some ρ' → ∀ Q : St → Hp → Prop,
  (∀ σ', RSt K M H σ' ρ' → Q σ' H) → g v σ H Q
/-- two-place operations -/
def ImR (r : R2) (f : D → D → Option D) : Prop := ∀ (H : Hp) (M : Adr) (S : Sto) (x y : V) (dx dy dz : D), Ok K M S H → Rl K M H x dx → Rl K M H y dy → f dx dy = some dz → ∀ Q : VK,
  PE1 K M H S dz Q → r x y H Q
def ImU (r : V → Hp → VK → Prop) (f : D → Option D) : Prop := ∀ (H : Hp) (M : Adr) (S : Sto) (x : V) (dx dz : D), Ok K M S H → Rl K M H x dx → f dx = some dz → ∀ Q : VK,
  PE1 K M H S dz Q → r x H Q
/-- calls of builtins by data -/
def ImB (r : List V → Hp → VK → Prop) (f : List D → Option D) : Prop := ∀ (H : Hp) (M : Adr) (S : Sto) (xs : List V) (ds : List D) (dz : D), Ok K M S H → RlA K M H xs ds → f ds = some dz → ∀ Q : VK,
  PE1 K M H S dz Q → r xs H Q
end
section
variable {K : PySem.W.Frag} {M M' : Adr} {H H' : Hp} {S S' : Sto} {ta tb tc te : TE} {ma mb mc me : ME} {d : D}
theorem PE1.here {Q : VK} {v : V} (q : PE1 K M H S d Q) (ok : Ok K M S H) (r : Rl K M H v d) : Q v H := q v H M .refl ok r
theorem PE1.ext {Q : VK} (q : PE1 K M H S' d Q) (x : Ext M H M' H') : PE1 K M' H' S' d Q := fun v H2 M2 x2 ok r => q v H2 M2 (x.trans x2) ok r

/-! ### names, constants -/
def mVar (i : Nat) : ME := fun ρ S => match ρ[i]? with
  | some (some (.d x)) => some (x, S)
  | _ => none
theorem im_var (i : Nat) : ImE K (tVar i) (mVar i) := fun σ H M ρ S d S' hr ok h Q q => by
  unfold mVar at h
  split at h
  · rename_i x e
    cases h
    obtain ⟨v, e1, r⟩ := hr.at_ i _ e
    exact ⟨v, e1, q.here ok r⟩
  · cases h
def mC (d : D) : ME := fun _ S => some (d, S)
theorem im_c {v : V} (r : ∀ M H, Rl K M H v d) : ImE K (tC v) (mC d) := fun σ H M ρ S d' S' hr ok h Q q => by
  cases h
  exact q.here ok (r _ _)
theorem im_int (i : Int) : ImE K (tC (.int i)) (mC (.int i)) := im_c fun _ _ => .int i
theorem im_bl (b : Bool) : ImE K (tC (.bl b)) (mC (.bool b)) := im_c fun _ _ => .bl b
theorem im_non : ImE K (tC .non) (mC .none) := im_c fun _ _ => .non
theorem im_str (x : Str) : ImE K (tC (.str x)) (mC (.str x)) := im_c fun _ _ => .str x
def mQVar (i : Nat) : MN := fun ρ S => match ρ[i]? with
  | some (some (.d (.list xs))) => some (xs, S)
  | some (some (.d (.tuple xs))) => some (xs, S)
  | some (some (.loc n)) => (S[n]?.join).map fun xs => (xs, S)
  | _ => none
theorem im_qvar (i : Nat) : ImQ K (tVar i) (mQVar i) := fun σ H M ρ S d S' hr ok h Q q => by
  unfold mQVar at h
  split at h
  · rename_i xs e
    cases h
    obtain ⟨v, e1, r⟩ := hr.at_ i _ e
    cases r with
    | lst h1 h2 => exact ⟨_, e1, q _ _ H M .refl ok (.inl h1.sql) h2⟩
  · rename_i xs e
    cases h
    obtain ⟨v, e1, r⟩ := hr.at_ i _ e
    cases r with
    | tup h1 h2 => exact ⟨_, e1, q _ _ H M .refl ok (.inr h1) h2⟩
  · rename_i n e
    cases e2 : S[n]? with
    | none => rw [e2] at h; cases h
    | some c =>
      cases c with
      | none => rw [e2] at h; cases h
      | some xs =>
        rw [e2] at h
        cases h
        obtain ⟨v, e1, a, rfl, r⟩ := hr.at_ i _ e
        obtain ⟨a', vs, m1, m2, m3⟩ := ok.cell n _ e2
        have ea : a = a' := by rcases r with r | r <;> (rw [r] at m1; cases m1); rfl
        subst ea
        exact ⟨_, e1, q _ _ H M .refl ok (.inl (.inl (.inl m2))) m3⟩
  · cases h
def mLVar (i : Nat) : MN := fun ρ S => match ρ[i]? with
  | some (some (.d (.list xs))) => some (xs, S)
  | some (some (.loc n)) => (S[n]?.join).map fun xs => (xs, S)
  | _ => none
theorem im_lvar (i : Nat) : ImL K (tVar i) (mLVar i) := fun σ H M ρ S d S' hr ok h Q q => by
  unfold mLVar at h
  split at h
  · rename_i xs e
    cases h
    obtain ⟨v, e1, r⟩ := hr.at_ i _ e
    cases r with
    | lst h1 h2 => exact ⟨_, e1, q _ _ H M .refl ok h1.sql h2⟩
  · rename_i n e
    cases e2 : S[n]? with
    | none => rw [e2] at h; cases h
    | some c =>
      cases c with
      | none => rw [e2] at h; cases h
      | some xs =>
        rw [e2] at h
        cases h
        obtain ⟨v, e1, a, rfl, r⟩ := hr.at_ i _ e
        obtain ⟨a', vs, m1, m2, m3⟩ := ok.cell n _ e2
        have ea : a = a' := by rcases r with r | r <;> (rw [r] at m1; cases m1); rfl
        subst ea
        exact ⟨_, e1, q _ _ H M .refl ok (.inl (.inl m2)) m3⟩
  · cases h

/-! ### from one reading to another -/
def asL (d : D) : Option (List D) := match d with
  | .list xs => some xs
  | _ => none
def asQ (d : D) : Option (List D) := match d with
  | .list xs => some xs
  | .tuple xs => some xs
  | _ => none
def mQE (m : ME) : MN := fun ρ S => (m ρ S).bind fun p => (asQ p.1).map fun xs => (xs, p.2)
def mLE (m : ME) : MN := fun ρ S => (m ρ S).bind fun p => (asL p.1).map fun xs => (xs, p.2)
def mEN (m : MN) : ME := fun ρ S => (m ρ S).map fun p => (.list p.1, p.2)
theorem im_qe (h : ImE K te me) : ImQ K te (mQE me) := fun σ H M ρ S xs S' hr ok e Q q => by
  unfold mQE at e
  cases e1 : me ρ S with
  | none => rw [e1] at e; cases e
  | some p =>
    rw [e1] at e
    obtain ⟨d, S1⟩ := p
    refine h σ H M ρ S d S1 hr ok e1 Q fun v H' M' x ok' r => ?_
    cases d with
    | list ys => cases e; cases r with | lst h1 h2 => exact q _ _ _ _ x ok' (.inl h1.sql) h2
    | tuple ys => cases e; cases r with | tup h1 h2 => exact q _ _ _ _ x ok' (.inr h1) h2
    | _ => cases e
theorem im_le (h : ImE K te me) : ImL K te (mLE me) := fun σ H M ρ S xs S' hr ok e Q q => by
  unfold mLE at e
  cases e1 : me ρ S with
  | none => rw [e1] at e; cases e
  | some p =>
    rw [e1] at e
    obtain ⟨d, S1⟩ := p
    refine h σ H M ρ S d S1 hr ok e1 Q fun v H' M' x ok' r => ?_
    cases d with
    | list ys => cases e; cases r with | lst h1 h2 => exact q _ _ _ _ x ok' h1.sql h2
    | _ => cases e
theorem im_qn {m : MN} (h : ImN K te m) : ImQ K te m := fun σ H M ρ S xs S' hr ok e Q q =>
  h σ H M ρ S xs S' hr ok e Q fun a vs H' M' x ok' n0 n1 n2 r => q a vs H' M' x ok' (.inl (.inl (.inl n1))) r
theorem im_ln {m : MN} (h : ImN K te m) : ImL K te m := fun σ H M ρ S xs S' hr ok e Q q =>
  h σ H M ρ S xs S' hr ok e Q fun a vs H' M' x ok' n0 n1 n2 r => q a vs H' M' x ok' (.inl (.inl n1)) r
theorem im_ql {m : MN} (h : ImL K te m) : ImQ K te m := fun σ H M ρ S xs S' hr ok e Q q =>
  h σ H M ρ S xs S' hr ok e Q fun a vs H' M' x ok' n1 r => q a vs H' M' x ok' (.inl n1) r
theorem im_en {m : MN} (h : ImN K te m) : ImE K te (mEN m) := fun σ H M ρ S d S' hr ok e Q q => by
  unfold mEN at e
  cases e1 : m ρ S with
  | none => rw [e1] at e; cases e
  | some p =>
    rw [e1] at e
    cases e
    exact h σ H M ρ S p.1 p.2 hr ok e1 Q fun a vs H' M' x ok' n0 n1 n2 r => q _ _ (M'.ug M) x.ungh (ok'.ug x.gk) (.lst (.inl ⟨.inl n1, fun z => z.elim (fun z => ok'.dj a z n2) fun z => ok.notin n0 (.inr z)⟩) (r.anti fun _ z => x.ugmem z))

/-! ### operators -/
def mOp (f : D → D → Option D) (ma mb : ME) : ME := fun ρ S => (ma ρ S).bind fun p => (mb ρ p.2).bind fun q => (f p.1 q.1).map fun z => (z, q.2)
theorem im_op {r : R2} {f : D → D → Option D} (hr : ImR K r f) (ha : ImE K ta ma) (hb : ImE K tb mb) : ImE K (tOp r ta tb) (mOp f ma mb) := fun σ H M ρ S d S' hs ok e Q q => by
  unfold mOp at e
  cases e1 : ma ρ S with
  | none => rw [e1] at e; cases e
  | some p =>
    rw [e1] at e
    cases e2 : mb ρ p.2 with
    | none => rw [Option.bind_some, e2] at e; cases e
    | some p2 =>
      rw [Option.bind_some, e2, Option.bind_some] at e
      cases e3 : f p.1 p2.1 with
      | none => rw [e3] at e; cases e
      | some z =>
        rw [e3] at e
        cases e
        refine ha σ H M ρ S p.1 p.2 hs ok e1 _ fun x H1 M1 x1 ok1 r1 => ?_
        refine hb σ H1 M1 ρ p.2 p2.1 p2.2 (hs.mono x1) ok1 e2 _ fun y H2 M2 x2 ok2 r2 => ?_
        exact hr H2 M2 p2.2 x y p.1 p2.1 d ok2 (r1.mono x2) r2 e3 Q (q.ext (x1.trans x2))
def mUn (f : D → Option D) (ma : ME) : ME := fun ρ S => (ma ρ S).bind fun p => (f p.1).map fun z => (z, p.2)
theorem im_un {r : V → Hp → VK → Prop} {f : D → Option D} (hr : ImU K r f) (ha : ImE K ta ma) : ImE K (tUn r ta) (mUn f ma) := fun σ H M ρ S d S' hs ok e Q q => by
  unfold mUn at e
  cases e1 : ma ρ S with
  | none => rw [e1] at e; cases e
  | some p =>
    rw [e1, Option.bind_some] at e
    cases e3 : f p.1 with
    | none => rw [e3] at e; cases e
    | some z =>
      rw [e3] at e
      cases e
      refine ha σ H M ρ S p.1 p.2 hs ok e1 _ fun x H1 M1 x1 ok1 r1 => ?_
      exact hr H1 M1 p.2 x p.1 d ok1 r1 e3 Q (q.ext x1)
def fII (C : Int → Int → Bool) (g : Int → Int → D) : D → D → Option D := fun x y => match x, y with
  | .int i, .int j => if C i j then some (g i j) else none
  | _, _ => none
theorem imr_I {C : Int → Int → Prop} {Cb : Int → Int → Bool} {g : Int → Int → V} {gd : Int → Int → D} (hC : ∀ i j, Cb i j = true → C i j) (hg : ∀ i j M H, Rl K M H (g i j) (gd i j)) : ImR K (rI C g) (fII Cb gd) := fun H M S x y dx dy dz ok rx ry e Q q => by
  unfold fII at e
  split at e
  · cases rx
    cases ry
    split at e
    · cases e
      exact ⟨_, _, rfl, rfl, hC _ _ (by assumption), q.here ok (hg _ _ _ _)⟩
    · cases e
  · cases e
def fI0 (g : Int → Int → D) : D → D → Option D := fun x y => match x, y with
  | .int i, .int j => some (g i j)
  | _, _ => none
theorem imr_I0 {g : Int → Int → V} {gd : Int → Int → D} (hg : ∀ i j M H, Rl K M H (g i j) (gd i j)) : ImR K (rI0 g) (fI0 gd) := fun H M S x y dx dy dz ok rx ry e Q q => by
  unfold fI0 at e
  split at e
  · cases rx
    cases ry
    cases e
    exact ⟨_, _, rfl, rfl, q.here ok (hg _ _ _ _)⟩
  · cases e
theorem imr_or {r1 r2 : R2} {f1 f2 : D → D → Option D} (h1 : ImR K r1 f1) (h2 : ImR K r2 f2) : ImR K (fun x y H Q => r1 x y H Q ∨ r2 x y H Q) (fun x y => (f1 x y).or (f2 x y)) := fun H M S x y dx dy dz ok rx ry e Q q => by
  have e : (f1 dx dy).or (f2 dx dy) = some dz := e
  cases e1 : f1 dx dy with
  | some z => rw [e1] at e; cases e; exact .inl (h1 H M S x y dx dy _ ok rx ry e1 Q q)
  | none => rw [e1] at e; exact .inr (h2 H M S x y dx dy dz ok rx ry e Q q)
theorem OpR.or {X : Cx} {f : Value → Value → Sem Value} {r1 r2 : R2} (h1 : OpR X f r1) (h2 : OpR X f r2) : OpR X f (fun x y H Q => r1 x y H Q ∨ r2 x y H Q) := fun pins s σ H x y v u Q I rx ry h =>
  h.elim (h1 pins s σ H x y v u Q I rx ry) (h2 pins s σ H x y v u Q I rx ry)

def bMul (i j : Int) : Bool := decide (i.natAbs < 18446744073709551616) || decide (j.natAbs < 18446744073709551616)
def bDiv (_ j : Int) : Bool := decide (0 < j ∧ j < 1073741824)
def bMod (_ j : Int) : Bool := decide (0 < j)
def bPow (i j : Int) : Bool := decide (0 ≤ j ∧ j ≤ 1000 ∧ i.natAbs < 1000000)
theorem bMul_ok (i j : Int) (h : bMul i j = true) : CMul i j := by
  unfold bMul at h
  rw [Bool.or_eq_true, decide_eq_true_eq, decide_eq_true_eq] at h
  rcases h with h | h
  · exact .inl (by omega)
  · exact .inr (by omega)
theorem bDiv_ok (i j : Int) (h : bDiv i j = true) : CDiv i j := by
  have h : 0 < j ∧ j < 1073741824 := of_decide_eq_true h
  exact h
theorem bPow_ok (i j : Int) (h : bPow i j = true) : CPow i j := by
  have h := of_decide_eq_true h
  exact ⟨h.1, by omega, by omega⟩
/-- tuples -/
def fTT (x y : D) : Option D := match x, y with
  | .tuple xs, .tuple ys => if xs.length + ys.length ≤ 1000000 then some (.tuple (xs ++ ys)) else none
  | _, _ => none
theorem imr_tt : ImR K (rCatA K) fTT := fun H M S x y dx dy dz ok rx ry e Q q => by
  unfold fTT at e
  split at e
  · cases rx with
    | tup h1 h2 =>
      cases ry with
      | tup h3 h4 =>
        split at e
        · rename_i hz
          cases e
          have l1 := h2.len
          have l2 := h4.len
          refine ⟨_, _, _, _, rfl, rfl, h1, h3, Nat.le_trans (by omega) (show 1000000 ≤ sizeLine by decide), fun e => ?_, fun n e => ?_, fun n1 n2 p hp => ?_⟩
          · subst e
            cases h2
            exact q.here ok (.tup h3 h4)
          · subst e
            cases h4
            exact q.here ok (by rw [List.append_nil]; exact .tup h1 h2)
          · exact q _ _ M (Ext.new hp) (ok.new hp) (.tup (.inl (.inl upd_same)) ((h2.append h4).mono (Ext.new hp)))
        · cases e
  · cases e
theorem op_addX {X : Cx} : OpR X (binaryOp .Add) (fun x y H Q => rI0 (fun i j => .int (i + j)) x y H Q ∨ rCatA X.K x y H Q) := OpR.or op_add op_catA
def fAdd (x y : D) : Option D := (fI0 (fun i j => .int (i + j)) x y).or (fTT x y)
theorem imr_add : ImR K (fun x y H Q => rI0 (fun i j => .int (i + j)) x y H Q ∨ rCatA K x y H Q) fAdd := imr_or (imr_I0 fun _ _ _ _ => .int _) imr_tt
def fSub (x y : D) : Option D := fI0 (fun i j => .int (i - j)) x y
theorem imr_sub : ImR K (rI0 fun i j => .int (i - j)) fSub := imr_I0 fun _ _ _ _ => .int _
def fMul (x y : D) : Option D := fII bMul (fun i j => .int (i * j)) x y
theorem imr_mul : ImR K (rI CMul fun i j => .int (i * j)) fMul := imr_I bMul_ok fun _ _ _ _ => .int _
def fDiv (x y : D) : Option D := fII bDiv (fun i j => .int (i / j)) x y
theorem imr_div : ImR K (rI CDiv fun i j => .int (i / j)) fDiv := imr_I bDiv_ok fun _ _ _ _ => .int _
def fMod (x y : D) : Option D := fII bMod (fun i j => .int (i % j)) x y
theorem imr_mod : ImR K (rI (fun _ j => 0 < j) fun i j => .int (i % j)) fMod := imr_I (fun _ _ h => of_decide_eq_true h) fun _ _ _ _ => .int _
def fPow (x y : D) : Option D := fII bPow (fun i j => .int (i ^ j.toNat)) x y
theorem imr_pow : ImR K (rI CPow fun i j => .int (i ^ j.toNat)) fPow := imr_I bPow_ok fun _ _ _ _ => .int _
def fLt (x y : D) : Option D := fI0 (fun i j => .bool (decide (i < j))) x y
def fLe (x y : D) : Option D := fI0 (fun i j => .bool (decide (i ≤ j))) x y
def fGt (x y : D) : Option D := fI0 (fun i j => .bool (decide (j < i))) x y
def fGe (x y : D) : Option D := fI0 (fun i j => .bool (decide (j ≤ i))) x y
theorem imr_lt : ImR K (rI0 fun i j => .bl (decide (i < j))) fLt := imr_I0 fun _ _ _ _ => .bl _
theorem imr_le : ImR K (rI0 fun i j => .bl (decide (i ≤ j))) fLe := imr_I0 fun _ _ _ _ => .bl _
theorem imr_gt : ImR K (rI0 fun i j => .bl (decide (j < i))) fGt := imr_I0 fun _ _ _ _ => .bl _
theorem imr_ge : ImR K (rI0 fun i j => .bl (decide (j ≤ i))) fGe := imr_I0 fun _ _ _ _ => .bl _
def fEq (x y : D) : Option D := if SeqAt.shaped x && SeqAt.shaped y then some (.bool (PyData.eqv x y)) else none
def fNe (x y : D) : Option D := if SeqAt.shaped x && SeqAt.shaped y then some (.bool (!PyData.eqv x y)) else none
theorem imr_eq : ImR K (rEqD K) fEq := fun H M S x y dx dy dz ok rx ry e Q q => by
  unfold fEq at e
  split at e
  · rename_i h
    rw [Bool.and_eq_true] at h
    cases e
    exact ⟨dx, dy, rx.dp, ry.dp, h.1, h.2, q.here ok (.bl _)⟩
  · cases e
theorem imr_ne : ImR K (rNeD K) fNe := fun H M S x y dx dy dz ok rx ry e Q q => by
  unfold fNe at e
  split at e
  · rename_i h
    rw [Bool.and_eq_true] at h
    cases e
    exact ⟨dx, dy, rx.dp, ry.dp, h.1, h.2, q.here ok (.bl _)⟩
  · cases e
def isN (d : D) : Bool := match d with | .none => true | _ => false
theorem Rl.isN {v : V} (r : Rl K M H v d) : decide (v = .non) = isN d := by
  cases r <;> rfl
def fIsN (x y : D) : Option D := match y with
  | .none => some (.bool (isN x))
  | _ => none
def fNotN (x y : D) : Option D := match y with
  | .none => some (.bool (!isN x))
  | _ => none
theorem imr_isN : ImR K (fun x y H Q => y = .non ∧ Q (.bl (decide (x = .non))) H) fIsN := fun H M S x y dx dy dz ok rx ry e Q q => by
  cases ry <;> first | (cases e) | skip
  exact ⟨rfl, by rw [rx.isN]; exact q.here ok (.bl _)⟩
theorem imr_notN : ImR K (fun x y H Q => y = .non ∧ Q (.bl (!decide (x = .non))) H) fNotN := fun H M S x y dx dy dz ok rx ry e Q q => by
  cases ry <;> first | (cases e) | skip
  exact ⟨rfl, by rw [rx.isN]; exact q.here ok (.bl _)⟩
def fIsB (x y : D) : Option D := match x, y with
  | .bool a, .bool b => some (.bool (decide (a = b)))
  | _, _ => none
def fNotB (x y : D) : Option D := match x, y with
  | .bool a, .bool b => some (.bool (!decide (a = b)))
  | _, _ => none
theorem imr_isB : ImR K (fun x y H Q => ∃ a b, x = .bl a ∧ y = .bl b ∧ Q (.bl (decide (a = b))) H) fIsB := fun H M S x y dx dy dz ok rx ry e Q q => by
  cases rx <;> cases ry <;> first | (cases e; done) | skip
  cases e
  exact ⟨_, _, rfl, rfl, q.here ok (.bl _)⟩
theorem imr_notB : ImR K (fun x y H Q => ∃ a b, x = .bl a ∧ y = .bl b ∧ Q (.bl (!decide (a = b))) H) fNotB := fun H M S x y dx dy dz ok rx ry e Q q => by
  cases rx <;> cases ry <;> first | (cases e; done) | skip
  cases e
  exact ⟨_, _, rfl, rfl, q.here ok (.bl _)⟩
def fNeg (x : D) : Option D := match x with
  | .int i => some (.int (-i))
  | _ => none
theorem imu_neg : ImU K (rU fun i => .int (-i)) fNeg := fun H M S x dx dz ok rx e Q q => by
  cases rx <;> cases e
  exact ⟨_, rfl, q.here ok (.int _)⟩
end
end G
set_option Elab.async false
set_option linter.all false
set_option autoImplicit false
set_option maxRecDepth 100000
set_option maxHeartbeats 4000000
namespace G
open PySem L2
section
variable {K : PySem.W.Frag} {M M' : Adr} {H H' : Hp} {S S' : Sto} {ta tb tc te : TE} {ma mb mc me : ME} {d : D}

/-! ### subscripts -/
theorem RlA.atI {vs : List V} {ds : List D} (h : RlA K M H vs ds) {i : Int} {d : D} (e : atI ds i = some d) : ∃ v, atI vs i = some v ∧ Rl K M H v d := by
  unfold L2.atI at e ⊢
  rw [h.len]
  cases q : ixN ds.length i with
  | none => rw [q] at e; cases e
  | some j => rw [q] at e; exact h.get e
def fIx (x y : D) : Option D := match y with
  | .int i => (asQ x).bind fun xs => atI xs i
  | _ => none
theorem imr_ix : ImR K (rIx K) fIx := fun H M S x y dx dy dz ok rx ry e Q q => by
  cases ry <;> first | (cases e; done) | skip
  rename_i i
  cases dx with
  | list xs =>
    cases rx with
    | lst h1 h2 =>
      obtain ⟨v, e1, r⟩ := h2.atI (show L2.atI xs i = some dz from e)
      exact .inl ⟨_, _, _, v, rfl, rfl, h1.sql, e1, q.here ok r⟩
  | tuple xs =>
    cases rx with
    | tup h1 h2 =>
      obtain ⟨v, e1, r⟩ := h2.atI (show L2.atI xs i = some dz from e)
      exact .inr (.inl ⟨_, _, _, v, rfl, rfl, h1, e1, q.here ok r⟩)
  | _ => cases e
theorem qvar_at {σ : St} {ρ : Rho} {i : Nat} {xs : List D} (hr : RSt K M H σ ρ) (ok : Ok K M S H) (h : mQVar i ρ S = some (xs, S')) :
    S' = S ∧ ∃ a vs, σ[i]? = some (some (.ref a)) ∧ (SqL K H a vs ∨ SqT K H a vs) ∧ RlA K M H vs xs := by
  unfold mQVar at h
  split at h
  · rename_i xs e
    cases h
    obtain ⟨v, e1, r⟩ := hr.at_ i _ e
    cases r with
    | lst h1 h2 => exact ⟨rfl, _, _, e1, .inl h1.sql, h2⟩
  · rename_i xs e
    cases h
    obtain ⟨v, e1, r⟩ := hr.at_ i _ e
    cases r with
    | tup h1 h2 => exact ⟨rfl, _, _, e1, .inr h1, h2⟩
  · rename_i n e
    cases e2 : S[n]? with
    | none => rw [e2] at h; cases h
    | some c =>
      cases c with
      | none => rw [e2] at h; cases h
      | some xs =>
        rw [e2] at h
        cases h
        obtain ⟨v, e1, a, rfl, r⟩ := hr.at_ i _ e
        obtain ⟨a', vs, m1, m2, m3⟩ := ok.cell n _ e2
        have ea : a = a' := by rcases r with r | r <;> (rw [r] at m1; cases m1); rfl
        subst ea
        exact ⟨rfl, _, _, e1, .inl (.inl (.inl m2)), m3⟩
  · cases h
/-- x[e], x a name: a list that may change is read behind e -/
def mIxV (i : Nat) (m : ME) : ME := fun ρ S => (m ρ S).bind fun p => match p.1 with
  | .int k => (mQVar i ρ p.2).bind fun q => (atI q.1 k).map fun z => (z, p.2)
  | _ => none
theorem qvar_some {σ : St} {ρ : Rho} {i : Nat} {p : List D × Sto} (hr : RSt K M H σ ρ) (h : mQVar i ρ S = some p) : ∃ v, σ[i]? = some (some v) := by
  unfold mQVar at h
  split at h
  · rename_i e; obtain ⟨v, e1, _⟩ := hr.at_ i _ e; exact ⟨v, e1⟩
  · rename_i e; obtain ⟨v, e1, _⟩ := hr.at_ i _ e; exact ⟨v, e1⟩
  · rename_i e; obtain ⟨v, e1, _⟩ := hr.at_ i _ e; exact ⟨v, e1⟩
  · cases h
theorem im_ixV {i : Nat} (h : ImE K te me) : ImE K (tOp (rIx K) (tVar i) te) (mIxV i me) := fun σ H M ρ S d S' hs ok e Q q => by
  unfold mIxV at e
  cases e1 : me ρ S with
  | none => rw [e1] at e; cases e
  | some p =>
    rw [e1, Option.bind_some] at e
    obtain ⟨y, S1⟩ := p
    cases y <;> first | (cases e; done) | skip
    rename_i k
    cases e2 : mQVar i ρ S1 with
    | none => simp only [e2] at e; cases e
    | some p2 =>
      simp only [e2, Option.bind_some] at e
      cases e3 : atI p2.1 k with
      | none => rw [e3] at e; cases e
      | some z =>
        rw [e3] at e
        cases e
        obtain ⟨v, hv⟩ := qvar_some hs e2
        refine ⟨v, hv, ?_⟩
        refine h σ H M ρ S _ _ hs ok e1 _ fun y H1 M1 x1 ok1 r1 => ?_
        cases r1
        obtain ⟨_, a, vs, ha, sq, r⟩ := qvar_at (hs.mono x1) ok1 e2
        rw [hv] at ha
        cases ha
        obtain ⟨w, e4, r4⟩ := r.atI e3
        rcases sq with sq | sq
        · exact .inl ⟨_, _, _, w, rfl, rfl, sq, e4, q w H1 M1 x1 ok1 r4⟩
        · exact .inr (.inl ⟨_, _, _, w, rfl, rfl, sq, e4, q w H1 M1 x1 ok1 r4⟩)

/-! ### slices: of a tuple a tuple, of a list a new list -/
abbrev MO := Rho → Sto → Option (Option Int × Sto)
def ImO (K : PySem.W.Frag) (t : TO) (m : MO) : Prop := ∀ (σ : St) (H : Hp) (M : Adr) (ρ : Rho) (S : Sto) (o : Option Int) (S' : Sto), RSt K M H σ ρ → Ok K M S H → m ρ S = some (o, S') → ∀ Q : Option Int → Hp → Prop,
  (∀ H' M', Ext M H M' H' → Ok K M' S' H' → Q o H') → t σ H Q
def mO0 : MO := fun _ S => some (none, S)
def mO1 (m : ME) : MO := fun ρ S => (m ρ S).bind fun p => match p.1 with
  | .int i => some (some i, p.2)
  | _ => none
theorem im_o0 : ImO K tNoPart mO0 := fun σ H M ρ S o S' hs ok e Q q => by cases e; exact q H M .refl ok
theorem im_o1 (h : ImE K te me) : ImO K (tPart te) (mO1 me) := fun σ H M ρ S o S' hs ok e Q q => by
  unfold mO1 at e
  cases e1 : me ρ S with
  | none => rw [e1] at e; cases e
  | some p =>
    rw [e1, Option.bind_some] at e
    obtain ⟨y, S1⟩ := p
    cases y <;> cases e
    refine h σ H M ρ S _ _ hs ok e1 _ fun y H1 M1 x1 ok1 r1 => ?_
    cases r1
    exact ⟨_, rfl, q H1 M1 x1 ok1⟩
def cut {α : Type} (xs : List α) (lo hi : Option Int) : List α := (xs.drop (HT.sIx xs.length 0 lo)).take (HT.sIx xs.length xs.length hi - HT.sIx xs.length 0 lo)
theorem RlA.cut {vs : List V} {ds : List D} (h : RlA K M H vs ds) (lo hi : Option Int) : RlA K M H (cutV vs lo hi) (cut ds lo hi) := by
  unfold cutV G.cut
  rw [h.len]
  exact (h.drop _).take _
def mSlT (m : ME) (lo hi : MO) : ME := fun ρ S => (m ρ S).bind fun p => (lo ρ p.2).bind fun l => (hi ρ l.2).bind fun u => match p.1 with
  | .tuple xs => some (.tuple (cut xs l.1 u.1), u.2)
  | _ => none
theorem cut_all {α : Type} (xs : List α) (lo hi : Option Int) (h : HT.sIx xs.length 0 lo = 0 ∧ HT.sIx xs.length xs.length hi = xs.length) : cut xs lo hi = xs := by
  unfold cut
  rw [h.1, h.2, List.drop_zero, Nat.sub_zero, List.take_length]
theorem im_slT {tl th : TO} {ml mh : MO} (h : ImE K te me) (hl : ImO K tl ml) (hh : ImO K th mh) : ImE K (tSl (rSlA K) te tl th) (mSlT me ml mh) := fun σ H M ρ S d S' hs ok e Q q => by
  unfold mSlT at e
  cases e1 : me ρ S with
  | none => rw [e1] at e; cases e
  | some p =>
    rw [e1, Option.bind_some] at e
    cases e2 : ml ρ p.2 with
    | none => rw [e2] at e; cases e
    | some l =>
      rw [e2, Option.bind_some] at e
      cases e3 : mh ρ l.2 with
      | none => rw [e3] at e; cases e
      | some u =>
        rw [e3, Option.bind_some] at e
        obtain ⟨y, S1⟩ := p
        cases y <;> cases e
        rename_i xs
        refine h σ H M ρ S _ _ hs ok e1 _ fun y H1 M1 x1 ok1 r1 => ?_
        refine hl σ H1 M1 ρ _ l.1 l.2 (hs.mono x1) ok1 (by rw [e2]) _ fun H2 M2 x2 ok2 => ?_
        refine hh σ H2 M2 ρ _ u.1 u.2 (hs.mono (x1.trans x2)) ok2 (by rw [e3]) _ fun H3 M3 x3 ok3 => ?_
        have r3 := r1.mono (x2.trans x3)
        cases r3 with
        | tup h1 h2 =>
          rename_i a vs
          have hlen := h2.len
          refine ⟨_, _, rfl, h1, fun hw => ?_, fun hw p hp => ?_⟩
          · rw [cut_all xs _ _ (by rw [← hlen]; exact hw)] at q
            exact q _ H3 M3 (x1.trans (x2.trans x3)) ok3 (.tup h1 h2)
          · exact q _ _ M3 ((x1.trans (x2.trans x3)).trans (Ext.new hp)) (ok3.new hp) (.tup (.inl (.inl upd_same)) ((h2.cut _ _).mono (Ext.new hp)))
def mSlL (m : MN) (lo hi : MO) : MN := fun ρ S => (m ρ S).bind fun p => (lo ρ p.2).bind fun l => (hi ρ l.2).bind fun u => some (cut p.1 l.1 u.1, u.2)
/-- of a list that isn't changed by the bounds: a value -/
theorem im_slL {tl th : TO} {ml mh : MO} (h : ImE K te me) (hl : ImO K tl ml) (hh : ImO K th mh) : ImN K (tSl (rSlL K) te tl th) (mSlL (mLE me) ml mh) := fun σ H M ρ S d S' hs ok e Q q => by
  unfold mSlL mLE at e
  cases e1 : me ρ S with
  | none => rw [e1] at e; cases e
  | some p =>
    rw [e1, Option.bind_some] at e
    obtain ⟨y, S1⟩ := p
    cases y <;> first | (cases e; done) | skip
    rename_i xs
    have e : ((ml ρ S1).bind fun l => (mh ρ l.2).bind fun u => some (cut xs l.1 u.1, u.2)) = some (d, S') := e
    cases e2 : ml ρ S1 with
    | none => rw [e2] at e; cases e
    | some l =>
      rw [e2, Option.bind_some] at e
      cases e3 : mh ρ l.2 with
      | none => rw [e3] at e; cases e
      | some u =>
        rw [e3, Option.bind_some] at e
        cases e
        refine h σ H M ρ S _ _ hs ok e1 _ fun y H1 M1 x1 ok1 r1 => ?_
        refine hl σ H1 M1 ρ _ l.1 l.2 (hs.mono x1) ok1 (by rw [e2]) _ fun H2 M2 x2 ok2 => ?_
        refine hh σ H2 M2 ρ _ u.1 u.2 (hs.mono (x1.trans x2)) ok2 (by rw [e3]) _ fun H3 M3 x3 ok3 => ?_
        have r3 := r1.mono (x2.trans x3)
        have x := x1.trans (x2.trans x3)
        cases r3 with
        | lst h1 h2 => exact ⟨_, _, rfl, h1.sql, fun p hp => q p _ _ (M3.gh p) (x.trans (Ext.ghost hp)) (ok3.ghost hp) (x.free p hp) upd_same List.mem_cons_self ((h2.cut _ _).fresh hp)⟩

/-! ### argument lists, displays -/
def mA0 : MA := fun _ S => some ([], S)
def mA1 (m : ME) (r : MA) : MA := fun ρ S => (m ρ S).bind fun p => (r ρ p.2).map fun q => (.d p.1 :: q.1, q.2)
def mAV (i : Nat) (r : MA) : MA := fun ρ S => match ρ[i]? with
  | some (some s) => (r ρ S).map fun q => (s :: q.1, q.2)
  | _ => none
theorem im_a0 : ImA K tNil mA0 := fun σ H M ρ S o S' hs ok e Q q => by cases e; exact q [] H M .refl ok .nil
theorem im_a1 {t : TA} {m : MA} (h : ImE K te me) (ht : ImA K t m) : ImA K (tCons te t) (mA1 me m) := fun σ H M ρ S o S' hs ok e Q q => by
  unfold mA1 at e
  cases e1 : me ρ S with
  | none => rw [e1] at e; cases e
  | some p =>
    rw [e1, Option.bind_some] at e
    cases e2 : m ρ p.2 with
    | none => rw [e2] at e; cases e
    | some l =>
      rw [e2] at e
      cases e
      refine h σ H M ρ S p.1 p.2 hs ok e1 _ fun y H1 M1 x1 ok1 r1 => ?_
      refine ht σ H1 M1 ρ _ l.1 l.2 (hs.mono x1) ok1 e2 _ fun vs H2 M2 x2 ok2 r2 => ?_
      exact q _ H2 M2 (x1.trans x2) ok2 (.cons (show Rl K M2 H2 y p.1 from r1.mono x2) r2)
theorem im_av {i : Nat} {t : TA} {m : MA} (ht : ImA K t m) : ImA K (tCons (tVar i) t) (mAV i m) := fun σ H M ρ S o S' hs ok e Q q => by
  unfold mAV at e
  split at e <;> first | (cases e; done) | skip
  rename_i s e1
  cases e2 : m ρ S with
  | none => rw [e2] at e; cases e
  | some l =>
    rw [e2] at e
    cases e
    obtain ⟨v, hv, r⟩ := hs.at_ i s e1
    refine ⟨v, hv, ?_⟩
    refine ht σ H M ρ _ l.1 l.2 hs ok e2 _ fun vs H2 M2 x2 ok2 r2 => ?_
    exact q _ H2 M2 x2 ok2 (.cons (r.mono x2) r2)
/-- arguments that are data -/
def datas : List Sl → Option (List D)
  | [] => some []
  | .d x :: r => (datas r).map (x :: ·)
  | _ :: _ => none
theorem RSlA.datas {vs : List V} {ss : List Sl} {ds : List D} (h : RSlA K M H vs ss) (e : datas ss = some ds) : RlA K M H vs ds := by
  induction h generalizing ds with
  | nil => cases e; exact .nil
  | @cons v vs s ss h1 h2 ih =>
    cases s with
    | loc n => cases e
    | d x =>
      unfold G.datas at e
      cases e2 : G.datas ss with
      | none => rw [e2] at e; cases e
      | some es => rw [e2] at e; cases e; exact .cons h1 (ih e2)
def mDs (m : MA) : Rho → Sto → Option (List D × Sto) := fun ρ S => (m ρ S).bind fun p => (datas p.1).map fun ds => (ds, p.2)
def mTup (m : MA) : ME := fun ρ S => (mDs m ρ S).bind fun p => if p.1.length ≤ 1000000 then some (.tuple p.1, p.2) else none
def mLst (m : MA) : MN := fun ρ S => (mDs m ρ S).bind fun p => if p.1.length ≤ 1000000 then some (p.1, p.2) else none
theorem big : 1000000 ≤ sizeLine := by decide
theorem mDs_ok {t : TA} {m : MA} (ht : ImA K t m) {σ : St} {H : Hp} {M : Adr} {ρ : Rho} {S : Sto} {ds : List D} {S' : Sto} (hs : RSt K M H σ ρ) (ok : Ok K M S H) (e : mDs m ρ S = some (ds, S')) {Q : List V → Hp → Prop}
    (q : ∀ vs H' M', Ext M H M' H' → Ok K M' S' H' → RlA K M' H' vs ds → Q vs H') : t σ H Q := by
  unfold mDs at e
  cases e1 : m ρ S with
  | none => rw [e1] at e; cases e
  | some p =>
    rw [e1, Option.bind_some] at e
    cases e2 : datas p.1 with
    | none => rw [e2] at e; cases e
    | some es =>
      rw [e2] at e
      cases e
      exact ht σ H M ρ S p.1 p.2 hs ok e1 Q fun vs H' M' x ok' r => q vs H' M' x ok' (r.datas e2)
theorem im_tup {t : TA} {m : MA} (ht : ImA K t m) : ImE K (tTup t) (mTup m) := fun σ H M ρ S o S' hs ok e Q q => by
  unfold mTup at e
  cases e1 : mDs m ρ S with
  | none => rw [e1] at e; cases e
  | some p =>
    rw [e1, Option.bind_some] at e
    split at e <;> cases e
    rename_i hz
    refine mDs_ok ht hs ok e1 fun vs H1 M1 x1 ok1 r1 => ⟨Nat.le_trans (by rw [r1.len]; exact hz) big, fun p hp => ?_⟩
    exact q _ _ M1 (x1.trans (Ext.new hp)) (ok1.new hp) (.tup (.inl (.inl upd_same)) (r1.mono (Ext.new hp)))
theorem im_lst {t : TA} {m : MA} (ht : ImA K t m) : ImN K (tLst t) (mLst m) := fun σ H M ρ S o S' hs ok e Q q => by
  unfold mLst at e
  cases e1 : mDs m ρ S with
  | none => rw [e1] at e; cases e
  | some p =>
    rw [e1, Option.bind_some] at e
    split at e <;> cases e
    rename_i hz
    refine mDs_ok ht hs ok e1 fun vs H1 M1 x1 ok1 r1 => ⟨Nat.le_trans (by rw [r1.len]; exact hz) big, fun p hp => ?_⟩
    exact q _ _ _ (M1.gh p) (x1.trans (Ext.ghost hp)) (ok1.ghost hp) (x1.free p hp) upd_same List.mem_cons_self (r1.fresh hp)
/-- two lists joined -/
def mCat (ma mb : MN) : MN := fun ρ S => (ma ρ S).bind fun p => (mb ρ p.2).bind fun q => if p.1.length + q.1.length ≤ 1000000 then some (p.1 ++ q.1, q.2) else none
theorem im_catN {m1 m2 : MN} (h1 : ImN K ta m1) (h2 : ImN K tb m2) : ImN K (tOp rCat ta tb) (mCat m1 m2) := fun σ H M ρ S o S' hs ok e Q q => by
  unfold mCat at e
  cases e1 : m1 ρ S with
  | none => rw [e1] at e; cases e
  | some p =>
    rw [e1, Option.bind_some] at e
    cases e2 : m2 ρ p.2 with
    | none => rw [e2] at e; cases e
    | some p2 =>
      rw [e2, Option.bind_some] at e
      split at e <;> cases e
      rename_i hz
      refine h1 σ H M ρ S p.1 p.2 hs ok e1 _ fun a vs H1 M1 x1 ok1 n0 n1 n2 r1 => ?_
      refine h2 σ H1 M1 ρ _ p2.1 p2.2 (hs.mono x1) ok1 e2 _ fun b ws H2 M2 x2 ok2 k0 k1 k2 r2 => ?_
      have n3 := x2.keep a _ n1 (.inl fun z => ok1.dj a z n2)
      have r3 := r1.mono x2
      refine ⟨a, b, vs, ws, rfl, rfl, n3, k1, Nat.le_trans (by rw [r1.len, r2.len]; exact hz) big, fun p hp => ?_⟩
      have x := x1.trans x2
      exact q p _ _ (M2.gh p) (x.trans (Ext.ghost hp)) (ok2.ghost hp) (x.free p hp) upd_same List.mem_cons_self ((r3.append r2).fresh hp)

/-! ### tests -/
def mTB (m : ME) : MT := fun ρ S => (m ρ S).bind fun p => match p.1 with
  | .bool b => some (b, p.2)
  | _ => none
theorem im_tb (h : ImE K te me) : ImT K (tB te) (mTB me) := fun σ H M ρ S b S' hs ok e Q q => by
  unfold mTB at e
  cases e1 : me ρ S with
  | none => rw [e1] at e; cases e
  | some p =>
    rw [e1, Option.bind_some] at e
    obtain ⟨y, S1⟩ := p
    cases y <;> cases e
    refine h σ H M ρ S _ _ hs ok e1 _ fun y H1 M1 x1 ok1 r1 => ?_
    cases r1
    exact ⟨b, rfl, q H1 M1 x1 ok1⟩
theorem im_tt (h : ImE K te me) : ImT K (tTest te) (mTB me) := im_tb h
def tru (d : D) : Option Bool := match d with
  | .none => some false
  | .bool b => some b
  | .int i => some (i != 0)
  | .list xs => some (!xs.isEmpty)
  | .tuple xs => some (!xs.isEmpty)
  | _ => none
def mTru (m : ME) : MT := fun ρ S => (m ρ S).bind fun p => (tru p.1).map fun b => (b, p.2)
def mTruQ (m : MN) : MT := fun ρ S => (m ρ S).map fun p => (!p.1.isEmpty, p.2)
def tTru (K : PySem.W.Frag) (ta : TE) : TT := fun σ H Q => ta σ H fun x H' => ∃ k, TruV K x H' k ∧ Q k H'
theorem RlA.emp {vs : List V} {ds : List D} (h : RlA K M H vs ds) : (!vs.isEmpty) = !ds.isEmpty := by cases h <;> rfl
theorem im_tru (h : ImE K te me) : ImT K (tTru K te) (mTru me) := fun σ H M ρ S b S' hs ok e Q q => by
  unfold mTru at e
  cases e1 : me ρ S with
  | none => rw [e1] at e; cases e
  | some p =>
    rw [e1, Option.bind_some] at e
    obtain ⟨y, S1⟩ := p
    refine h σ H M ρ S _ _ hs ok e1 _ fun v H1 M1 x1 ok1 r1 => ?_
    cases r1 with
    | non => cases e; exact ⟨_, rfl, q H1 M1 x1 ok1⟩
    | bl c => cases e; exact ⟨_, rfl, q H1 M1 x1 ok1⟩
    | int i => cases e; exact ⟨_, rfl, q H1 M1 x1 ok1⟩
    | str s => cases e
    | lst h1 h2 => cases e; exact ⟨_, .inl ⟨_, h1.sql, h2.emp.symm⟩, q H1 M1 x1 ok1⟩
    | tup h1 h2 => cases e; exact ⟨_, .inr (.inl ⟨_, h1, h2.emp.symm⟩), q H1 M1 x1 ok1⟩
theorem im_truQ {m : MN} (h : ImQ K te m) : ImT K (tTru K te) (mTruQ m) := fun σ H M ρ S b S' hs ok e Q q => by
  unfold mTruQ at e
  cases e1 : m ρ S with
  | none => rw [e1] at e; cases e
  | some p =>
    rw [e1] at e
    cases e
    refine h σ H M ρ S _ _ hs ok e1 _ fun a vs H1 M1 x1 ok1 sq r => ?_
    rcases sq with sq | sq
    · exact ⟨_, .inl ⟨_, sq, r.emp.symm⟩, q H1 M1 x1 ok1⟩
    · exact ⟨_, .inr (.inl ⟨_, sq, r.emp.symm⟩), q H1 M1 x1 ok1⟩
def mAnd (a b : MT) : MT := fun ρ S => (a ρ S).bind fun p => if p.1 then b ρ p.2 else some (false, p.2)
def mOr (a b : MT) : MT := fun ρ S => (a ρ S).bind fun p => if p.1 then some (true, p.2) else b ρ p.2
def mNot (a : MT) : MT := fun ρ S => (a ρ S).map fun p => (!p.1, p.2)
theorem im_and {t u : TT} {a b : MT} (h1 : ImT K t a) (h2 : ImT K u b) : ImT K (tAnd t u) (mAnd a b) := fun σ H M ρ S c S' hs ok e Q q => by
  unfold mAnd at e
  cases e1 : a ρ S with
  | none => rw [e1] at e; cases e
  | some p =>
    rw [e1, Option.bind_some] at e
    obtain ⟨y, S1⟩ := p
    refine h1 σ H M ρ S _ _ hs ok e1 _ fun H1 M1 x1 ok1 => ?_
    cases y with
    | true =>
      show u σ H1 Q
      exact h2 σ H1 M1 ρ S1 c S' (hs.mono x1) ok1 e Q fun H2 M2 x2 ok2 => q H2 M2 (x1.trans x2) ok2
    | false => cases e; exact q H1 M1 x1 ok1
theorem im_or {t u : TT} {a b : MT} (h1 : ImT K t a) (h2 : ImT K u b) : ImT K (tOr t u) (mOr a b) := fun σ H M ρ S c S' hs ok e Q q => by
  unfold mOr at e
  cases e1 : a ρ S with
  | none => rw [e1] at e; cases e
  | some p =>
    rw [e1, Option.bind_some] at e
    obtain ⟨y, S1⟩ := p
    refine h1 σ H M ρ S _ _ hs ok e1 _ fun H1 M1 x1 ok1 => ?_
    cases y with
    | false =>
      show u σ H1 Q
      exact h2 σ H1 M1 ρ S1 c S' (hs.mono x1) ok1 e Q fun H2 M2 x2 ok2 => q H2 M2 (x1.trans x2) ok2
    | true => cases e; exact q H1 M1 x1 ok1
theorem im_not {t : TT} {a : MT} (h1 : ImT K t a) : ImT K (tNot t) (mNot a) := fun σ H M ρ S c S' hs ok e Q q => by
  unfold mNot at e
  cases e1 : a ρ S with
  | none => rw [e1] at e; cases e
  | some p =>
    rw [e1] at e
    cases e
    exact h1 σ H M ρ S _ _ hs ok e1 _ fun H1 M1 x1 ok1 => q H1 M1 x1 ok1
/-- as values -/
def mAndV (a b : ME) : ME := fun ρ S => (a ρ S).bind fun p => match p.1 with
  | .bool true => b ρ p.2
  | .bool false => some (.bool false, p.2)
  | _ => none
def mOrV (a b : ME) : ME := fun ρ S => (a ρ S).bind fun p => match p.1 with
  | .bool false => b ρ p.2
  | .bool true => some (.bool true, p.2)
  | _ => none
def mNotV (a : ME) : ME := fun ρ S => (a ρ S).bind fun p => match p.1 with
  | .bool b => some (.bool (!b), p.2)
  | _ => none
theorem im_andV (h1 : ImE K ta ma) (h2 : ImE K tb mb) : ImE K (tAndV ta tb) (mAndV ma mb) := fun σ H M ρ S c S' hs ok e Q q => by
  unfold mAndV at e
  cases e1 : ma ρ S with
  | none => rw [e1] at e; cases e
  | some p =>
    rw [e1, Option.bind_some] at e
    obtain ⟨y, S1⟩ := p
    refine h1 σ H M ρ S _ _ hs ok e1 _ fun v H1 M1 x1 ok1 r1 => ?_
    cases r1 <;> first | (cases e; done) | skip
    rename_i b
    cases b with
    | true => exact ⟨true, rfl, h2 σ H1 M1 ρ S1 c S' (hs.mono x1) ok1 e Q (q.ext x1)⟩
    | false => cases e; exact ⟨false, rfl, q _ H1 M1 x1 ok1 (.bl _)⟩
theorem im_orV (h1 : ImE K ta ma) (h2 : ImE K tb mb) : ImE K (tOrV ta tb) (mOrV ma mb) := fun σ H M ρ S c S' hs ok e Q q => by
  unfold mOrV at e
  cases e1 : ma ρ S with
  | none => rw [e1] at e; cases e
  | some p =>
    rw [e1, Option.bind_some] at e
    obtain ⟨y, S1⟩ := p
    refine h1 σ H M ρ S _ _ hs ok e1 _ fun v H1 M1 x1 ok1 r1 => ?_
    cases r1 <;> first | (cases e; done) | skip
    rename_i b
    cases b with
    | false => exact ⟨false, rfl, h2 σ H1 M1 ρ S1 c S' (hs.mono x1) ok1 e Q (q.ext x1)⟩
    | true => cases e; exact ⟨true, rfl, q _ H1 M1 x1 ok1 (.bl _)⟩
theorem im_notV (h1 : ImE K ta ma) : ImE K (tNotV ta) (mNotV ma) := fun σ H M ρ S c S' hs ok e Q q => by
  unfold mNotV at e
  cases e1 : ma ρ S with
  | none => rw [e1] at e; cases e
  | some p =>
    rw [e1, Option.bind_some] at e
    obtain ⟨y, S1⟩ := p
    refine h1 σ H M ρ S _ _ hs ok e1 _ fun v H1 M1 x1 ok1 r1 => ?_
    cases r1 <;> cases e
    exact ⟨_, rfl, q _ H1 M1 x1 ok1 (.bl _)⟩
def mIf (c : MT) (a b : ME) : ME := fun ρ S => (c ρ S).bind fun p => if p.1 then a ρ p.2 else b ρ p.2
theorem im_if {t : TT} {c : MT} (h : ImT K t c) (h1 : ImE K ta ma) (h2 : ImE K tb mb) : ImE K (tIf t ta tb) (mIf c ma mb) := fun σ H M ρ S d S' hs ok e Q q => by
  unfold mIf at e
  cases e1 : c ρ S with
  | none => rw [e1] at e; cases e
  | some p =>
    rw [e1, Option.bind_some] at e
    obtain ⟨y, S1⟩ := p
    refine h σ H M ρ S _ _ hs ok e1 _ fun H1 M1 x1 ok1 => ?_
    cases y with
    | true =>
      show ta σ H1 Q
      exact h1 σ H1 M1 ρ S1 d S' (hs.mono x1) ok1 e Q (q.ext x1)
    | false =>
      show tb σ H1 Q
      exact h2 σ H1 M1 ρ S1 d S' (hs.mono x1) ok1 e Q (q.ext x1)
/-- a op1 b op2 c -/
def mChain (f g : D → D → Option D) (ma mb mc : ME) : ME := fun ρ S => (ma ρ S).bind fun p => (mb ρ p.2).bind fun q => (f p.1 q.1).bind fun z => match z with
  | .bool true => (mc ρ q.2).bind fun u => (g q.1 u.1).map fun w => (w, u.2)
  | .bool false => some (.bool false, q.2)
  | _ => none
theorem im_chain {r r' : R2} {f g : D → D → Option D} (hf : ImR K r f) (hg : ImR K r' g) (ha : ImE K ta ma) (hb : ImE K tb mb) (hc : ImE K tc mc) : ImE K (tChain r r' ta tb tc) (mChain f g ma mb mc) := fun σ H M ρ S d S' hs ok e Q q => by
  unfold mChain at e
  cases e1 : ma ρ S with
  | none => rw [e1] at e; cases e
  | some p =>
    rw [e1, Option.bind_some] at e
    cases e2 : mb ρ p.2 with
    | none => rw [e2] at e; cases e
    | some p2 =>
      rw [e2, Option.bind_some] at e
      cases e3 : f p.1 p2.1 with
      | none => rw [e3] at e; cases e
      | some z =>
        rw [e3, Option.bind_some] at e
        refine ha σ H M ρ S p.1 p.2 hs ok e1 _ fun x H1 M1 x1 ok1 r1 => ?_
        refine hb σ H1 M1 ρ p.2 p2.1 p2.2 (hs.mono x1) ok1 e2 _ fun y H2 M2 x2 ok2 r2 => ?_
        refine hf H2 M2 p2.2 x y p.1 p2.1 z ok2 (r1.mono x2) r2 e3 _ fun v H3 M3 x3 ok3 r3 => ?_
        have x := x1.trans (x2.trans x3)
        cases r3 <;> first | (cases e; done) | skip
        rename_i b
        cases b with
        | false => cases e; exact ⟨false, rfl, q _ H3 M3 x ok3 (.bl _)⟩
        | true =>
          refine ⟨true, rfl, ?_⟩
          show tc σ H3 fun w' H4 => r' y w' H4 Q
          simp only at e
          cases e4 : mc ρ p2.2 with
          | none => rw [e4] at e; cases e
          | some u =>
            rw [e4, Option.bind_some] at e
            cases e5 : g p2.1 u.1 with
            | none => rw [e5] at e; cases e
            | some w =>
              rw [e5] at e
              cases e
              refine hc σ H3 M3 ρ p2.2 u.1 u.2 (hs.mono x) ok3 e4 _ fun w' H4 M4 x4 ok4 r4 => ?_
              exact hg H4 M4 u.2 y w' p2.1 u.1 d ok4 (r2.mono (x3.trans x4)) r4 e5 Q (q.ext (x.trans x4))
end
end G
set_option Elab.async false
set_option linter.all false
set_option autoImplicit false
set_option maxRecDepth 100000
set_option maxHeartbeats 4000000
namespace G
open PySem L2
section
variable {K : PySem.W.Frag} {M M' : Adr} {H H' : Hp} {S S' : Sto} {ta tb tc te : TE} {ma mb mc me : ME} {d : D}

/-! ### builtins -/
def mLen (m : MN) : ME := fun ρ S => (m ρ S).map fun p => (.int p.1.length, p.2)
theorem im_len {m : MN} (h : ImQ K te m) : ImE K (tCB (fun xs H Q => ∃ p ys, xs = [.ref p] ∧ (SqL K H p ys ∨ SqT K H p ys) ∧ Q (.int ys.length) H) (tCons te tNil)) (mLen m) := fun σ H M ρ S b S' hs ok e Q q => by
  unfold mLen at e
  cases e1 : m ρ S with
  | none => rw [e1] at e; cases e
  | some p =>
    rw [e1] at e
    cases e
    refine h σ H M ρ S _ _ hs ok e1 _ fun a vs H1 M1 x1 ok1 sq r => ?_
    exact ⟨a, vs, rfl, sq, q _ H1 M1 x1 ok1 (by rw [r.len]; exact .int _)⟩
def bools : List D → Option (List Bool)
  | [] => some []
  | .bool b :: r => (bools r).map (b :: ·)
  | _ :: _ => none
theorem RlA.bools {vs : List V} {ds : List D} {bs : List Bool} (h : RlA K M H vs ds) (e : bools ds = some bs) : vs = bs.map V.bl := by
  induction ds generalizing vs bs with
  | nil => cases h; cases e; rfl
  | cons d ds ih =>
    cases h with
    | cons h1 h2 =>
      cases h1 <;> first | (cases e; done) | skip
      rename_i b
      unfold G.bools at e
      cases e2 : G.bools ds with
      | none => rw [e2] at e; cases e
      | some es => rw [e2] at e; cases e; rw [ih h2 e2]; rfl
def mBools (g : List Bool → Bool) (m : MN) : ME := fun ρ S => (m ρ S).bind fun p => (bools p.1).map fun bs => (.bool (g bs), p.2)
theorem im_bools {g : List Bool → Bool} {m : MN} (h : ImL K te m) : ImE K (tCB (fun vs H Q => ∃ (a : Addr) (bs : List Bool), vs = [V.ref a] ∧ SqL K H a (bs.map V.bl) ∧ Q (.bl (g bs)) H) (tCons te tNil)) (mBools g m) := fun σ H M ρ S b S' hs ok e Q q => by
  unfold mBools at e
  cases e1 : m ρ S with
  | none => rw [e1] at e; cases e
  | some p =>
    rw [e1, Option.bind_some] at e
    cases e2 : bools p.1 with
    | none => rw [e2] at e; cases e
    | some bs =>
      rw [e2] at e
      cases e
      refine h σ H M ρ S _ _ hs ok e1 _ fun a vs H1 M1 x1 ok1 sq r => ?_
      exact ⟨a, bs, rfl, by rw [← r.bools e2]; exact sq, q _ H1 M1 x1 ok1 (.bl _)⟩
def mAll (m : MN) : ME := mBools (fun bs => bs.all id) m
def mAny (m : MN) : ME := mBools (fun bs => bs.any id) m
theorem im_all {m : MN} (h : ImL K te m) : ImE K (tCB (rAll K) (tCons te tNil)) (mAll m) := im_bools h
theorem im_any {m : MN} (h : ImL K te m) : ImE K (tCB (rAny K) (tCons te tNil)) (mAny m) := im_bools h
def intL : List D → Option (List Int)
  | [] => some []
  | .int b :: r => (intL r).map (b :: ·)
  | _ :: _ => none
theorem RlA.intL {vs : List V} {ds : List D} {bs : List Int} (h : RlA K M H vs ds) (e : intL ds = some bs) : vs = bs.map V.int := by
  induction ds generalizing vs bs with
  | nil => cases h; cases e; rfl
  | cons d ds ih =>
    cases h with
    | cons h1 h2 =>
      cases h1 <;> first | (cases e; done) | skip
      rename_i b
      unfold G.intL at e
      cases e2 : G.intL ds with
      | none => rw [e2] at e; cases e
      | some es => rw [e2] at e; cases e; rw [ih h2 e2]; rfl
def mSum (m : MN) : ME := fun ρ S => (m ρ S).bind fun p => (intL p.1).map fun ns => (.int ns.sum, p.2)
theorem im_sum {m : MN} (h : ImL K te m) : ImE K (tCB (rSum K) (tCons te tNil)) (mSum m) := fun σ H M ρ S b S' hs ok e Q q => by
  unfold mSum at e
  cases e1 : m ρ S with
  | none => rw [e1] at e; cases e
  | some p =>
    rw [e1, Option.bind_some] at e
    cases e2 : intL p.1 with
    | none => rw [e2] at e; cases e
    | some bs =>
      rw [e2] at e
      cases e
      refine h σ H M ρ S _ _ hs ok e1 _ fun a vs H1 M1 x1 ok1 sq r => ?_
      exact ⟨a, bs, rfl, by rw [← r.intL e2]; exact sq, q _ H1 M1 x1 ok1 (.int _)⟩
/-- list(x), tuple(x) -/
def mList (m : MN) : MN := m
theorem im_list {m : MN} (h : ImQ K te m) : ImN K (tCB (fun xs H Q => ∃ p ys, xs = [.ref p] ∧ (SqL K H p ys ∨ SqT K H p ys) ∧ ∀ l, H l = none → Q (.ref l) (upd H l (.lst ys))) (tCons te tNil)) (mList m) := fun σ H M ρ S b S' hs ok e Q q => by
  refine h σ H M ρ S _ _ hs ok e _ fun a vs H1 M1 x1 ok1 sq r => ?_
  exact ⟨a, vs, rfl, sq, fun p hp => q p _ _ (M1.gh p) (x1.trans (Ext.ghost hp)) (ok1.ghost hp) (x1.free p hp) upd_same List.mem_cons_self (r.fresh hp)⟩
def mTuple (m : MN) : ME := fun ρ S => (m ρ S).map fun p => (.tuple p.1, p.2)
theorem im_tuple {m : MN} (h : ImQ K te m) : ImE K (tCB (fun xs H Q => ∃ p ys, xs = [.ref p] ∧ ((SqL K H p ys ∧ ∀ l, H l = none → Q (.ref l) (upd H l (.tup ys))) ∨ (SqT K H p ys ∧ Q (.ref p) H))) (tCons te tNil)) (mTuple m) := fun σ H M ρ S b S' hs ok e Q q => by
  unfold mTuple at e
  cases e1 : m ρ S with
  | none => rw [e1] at e; cases e
  | some p =>
    rw [e1] at e
    cases e
    refine h σ H M ρ S _ _ hs ok e1 _ fun a vs H1 M1 x1 ok1 sq r => ?_
    rcases sq with sq | sq
    · exact ⟨a, vs, rfl, .inl ⟨sq, fun p hp => q _ _ M1 (x1.trans (Ext.new hp)) (ok1.new hp) (.tup (.inl (.inl upd_same)) (r.mono (Ext.new hp)))⟩⟩
    · exact ⟨a, vs, rfl, .inr ⟨sq, q _ H1 M1 x1 ok1 (.tup sq r)⟩⟩
/-- of data, by values -/
def mB (f : List D → Option D) (m : MA) : ME := fun ρ S => (mDs m ρ S).bind fun p => (f p.1).map fun z => (z, p.2)
theorem im_b {r : List V → Hp → VK → Prop} {f : List D → Option D} {t : TA} {m : MA} (hr : ImB K r f) (h : ImA K t m) : ImE K (tCB r t) (mB f m) := fun σ H M ρ S b S' hs ok e Q q => by
  unfold mB at e
  cases e1 : mDs m ρ S with
  | none => rw [e1] at e; cases e
  | some p =>
    rw [e1, Option.bind_some] at e
    cases e2 : f p.1 with
    | none => rw [e2] at e; cases e
    | some z =>
      rw [e2] at e
      cases e
      refine mDs_ok h hs ok e1 fun vs H1 M1 x1 ok1 r1 => ?_
      exact hr H1 M1 p.2 vs p.1 b ok1 r1 e2 Q (q.ext x1)
def fAbs : List D → Option D
  | [.int i] => some (.int (if i < 0 then -i else i))
  | _ => none
theorem imb_abs : ImB K (fun xs H Q => ∃ i, xs = [.int i] ∧ Q (.int (if i < 0 then -i else i)) H) fAbs := fun H M S xs ds dz ok r e Q q => by
  unfold fAbs at e
  split at e <;> cases e
  cases r with
  | cons r1 r2 =>
    cases r1
    cases r2
    exact ⟨_, rfl, q.here ok (.int _)⟩
def fInt : List D → Option D
  | [.int i] => some (.int i)
  | [.bool b] => some (.int (if b then 1 else 0))
  | _ => none
theorem imb_int : ImB K (fun xs H Q => (∃ i, xs = [.int i] ∧ Q (.int i) H) ∨ ∃ k, xs = [.bl k] ∧ Q (.int (if k then 1 else 0)) H) fInt := fun H M S xs ds dz ok r e Q q => by
  unfold fInt at e
  split at e <;> cases e
  · cases r with
    | cons r1 r2 =>
      cases r1
      cases r2
      exact .inl ⟨_, rfl, q.here ok (.int _)⟩
  · cases r with
    | cons r1 r2 =>
      cases r1
      cases r2
      exact .inr ⟨_, rfl, q.here ok (.int _)⟩
def fMax2 : List D → Option D
  | [.int i, .int j] => some (.int (if j > i then j else i))
  | _ => none
def fMin2 : List D → Option D
  | [.int i, .int j] => some (.int (if j < i then j else i))
  | _ => none
theorem imb_max2 : ImB K (fun xs H Q => ∃ i j, xs = [.int i, .int j] ∧ Q (.int (if j > i then j else i)) H) fMax2 := fun H M S xs ds dz ok r e Q q => by
  unfold fMax2 at e
  split at e <;> cases e
  cases r with
  | cons r1 r2 =>
    cases r1
    cases r2 with
    | cons r3 r4 =>
      cases r3
      cases r4
      exact ⟨_, _, rfl, q.here ok (.int _)⟩
theorem imb_min2 : ImB K (fun xs H Q => ∃ i j, xs = [.int i, .int j] ∧ Q (.int (if j < i then j else i)) H) fMin2 := fun H M S xs ds dz ok r e Q q => by
  unfold fMin2 at e
  split at e <;> cases e
  cases r with
  | cons r1 r2 =>
    cases r1
    cases r2 with
    | cons r3 r4 =>
      cases r3
      cases r4
      exact ⟨_, _, rfl, q.here ok (.int _)⟩
/-- isinstance(x, T) -/
def tyN (d : D) : Option String := match d with
  | .none => some "NoneType"
  | .bool _ => some "bool"
  | .int _ => some "int"
  | .str _ => some "str"
  | .list _ => some "list"
  | .tuple _ => some "tuple"
  | _ => none
theorem Rl.ty {v : V} {n : String} (r : Rl K M H v d) (e : tyN d = some n) : TyX K H v (.type n) := by
  cases r with
  | non => cases e; exact .base .non
  | bl b => cases e; exact .base (.bl b)
  | int b => cases e; exact .base (.int b)
  | str b => cases e; exact .base (.str b)
  | lst h1 h2 =>
    cases e
    rcases h1 with ⟨h | ⟨o, h⟩, _⟩ | h
    · exact .base (.lst h)
    · exact .base (.frz h)
    · rcases h with (h | ⟨_, h⟩) | ⟨o, its, n, h1, h2, _⟩
      · cases h
      · cases h
      · exact .kList h1 h2
  | tup h1 h2 =>
    cases e
    rcases h1 with (h | ⟨o, h⟩) | ⟨o, its, n, h1, h2, _⟩
    · exact .base (.tup h)
    · exact .fTuple h
    · exact .kTuple h1 h2
def fIsi (n : String) (d : D) : Option D := (tyN d).bind fun t => (kitB t n).map .bool
def mIsi (n : String) (m : ME) : ME := fun ρ S => (m ρ S).bind fun p => (fIsi n p.1).map fun z => (z, p.2)
theorem im_isi {n : String} (h : ImE K te me) : ImE K (tCB (rIsi K) (tCons te (tCons (tC (.ty n)) tNil))) (mIsi n me) := fun σ H M ρ S b S' hs ok e Q q => by
  unfold mIsi fIsi at e
  cases e1 : me ρ S with
  | none => rw [e1] at e; cases e
  | some p =>
    rw [e1, Option.bind_some] at e
    cases e2 : tyN p.1 with
    | none => rw [e2] at e; cases e
    | some t =>
      rw [e2, Option.bind_some] at e
      cases e3 : kitB t n with
      | none => rw [e3] at e; cases e
      | some k =>
        rw [e3] at e
        cases e
        refine h σ H M ρ S p.1 p.2 hs ok e1 _ fun v H1 M1 x1 ok1 r1 => ?_
        exact ⟨v, .ty n, .type t, .type n, k, rfl, .ty n, r1.ty e2, kit_ty e3, q _ H1 M1 x1 ok1 (.bl k)⟩

/-! ### targets -/
def mgN (i : Nat) : MG := fun d ρ => some (ρ.set i (some (.d d)))
theorem img_n (i : Nat) : ImG K (gName i) (mgN i) := fun σ H M ρ ρ' v d hs r e Q q => by
  cases e
  exact q _ (hs.set (s := .d d) r i)
abbrev MGs := List D → Rho → Option Rho
def ImGs (K : PySem.W.Frag) (g : TGs) (m : MGs) : Prop := ∀ (σ : St) (H : Hp) (M : Adr) (ρ ρ' : Rho) (v : List V) (d : List D), RSt K M H σ ρ → RlA K M H v d → m d ρ = some ρ' → ∀ Q : St → Hp → Prop,
  (∀ σ', RSt K M H σ' ρ' → Q σ' H) → g v σ H Q
def mg0 : MGs := fun ds ρ => match ds with
  | [] => some ρ
  | _ => none
def mg1 (g : MG) (gs : MGs) : MGs := fun ds ρ => match ds with
  | [] => none
  | d :: r => (g d ρ).bind fun ρ1 => gs r ρ1
theorem img_0 : ImGs K gNil mg0 := fun σ H M ρ ρ' v d hs r e Q q => by
  cases r <;> cases e
  exact ⟨rfl, q σ hs⟩
theorem img_1 {t : TG} {u : TGs} {g : MG} {gs : MGs} (h1 : ImG K t g) (h2 : ImGs K u gs) : ImGs K (gCons t u) (mg1 g gs) := fun σ H M ρ ρ' v d hs r e Q q => by
  cases r with
  | nil => cases e
  | @cons v vs d ds r1 r2 =>
    unfold mg1 at e
    simp only at e
    cases e1 : g d ρ with
    | none => rw [e1] at e; cases e
    | some ρ1 =>
      rw [e1, Option.bind_some] at e
      exact ⟨v, vs, rfl, h1 σ H M ρ ρ1 v d hs r1 e1 _ fun σ' hs' => h2 σ' H M ρ1 ρ' vs ds hs' r2 e Q q⟩
def mgT (n : Nat) (gs : MGs) : MG := fun d ρ => match d with
  | .tuple xs => if xs.length = n then gs xs ρ else none
  | _ => none
theorem img_t {n : Nat} {t : TGs} {gs : MGs} (h : ImGs K t gs) : ImG K (gTup K n t) (mgT n gs) := fun σ H M ρ ρ' v d hs r e Q q => by
  cases r <;> first | (cases e; done) | skip
  unfold mgT at e
  simp only at e
  split at e <;> first | (cases e; done) | skip
  rename_i h1 h2 hn
  exact ⟨_, _, rfl, h1, by rw [h2.len]; exact hn, h σ H M ρ ρ' _ _ hs h2 e Q q⟩

/-! ### what is walked -/
def ItOk (K : PySem.W.Frag) (J : It) (xs : List D) (M : Adr) (H : Hp) : Prop := ∀ (M1 : Adr) (H1 : Hp) (S1 : Sto), ExtW M H M1 H1 → Ok K M1 S1 H1 → ∀ i : Nat, (xs.length ≤ i → J.stop i H1) ∧ (i < xs.length → J.go i H1) ∧
  ∀ (x : V) (H2 : Hp) (d : D), xs[i]? = some d → J.yld i H1 x H2 → Ext M1 H1 M1 H2 ∧ Ok K M1 S1 H2 ∧ Rl K M1 H2 x d
def ImI (K : PySem.W.Frag) (wi : TI) (m : MN) : Prop := ∀ (σ : St) (H : Hp) (M : Adr) (ρ : Rho) (S : Sto) (xs : List D) (S' : Sto), RSt K M H σ ρ → Ok K M S H → m ρ S = some (xs, S') → ∀ R : It → Hp → Prop,
  (∀ J H' M', Ext M H M' H' → Ok K M' S' H' → ItOk K J xs M' H' → R J H') → wi σ H R
theorem ItOk.mono {J : It} {xs : List D} (h : ItOk K J xs M H) (x : Ext M H M' H') : ItOk K J xs M' H' := fun M1 H1 S1 x1 ok i => h M1 H1 S1 (x.w.trans x1) ok i
theorem pi_or {X : Cx} {tg it : Expr} {w1 w2 : TI} (h1 : PI X tg it w1) (h2 : PI X tg it w2) : PI X tg it (fun σ H R => w1 σ H R ∨ w2 σ H R) :=
  ⟨fun pins s σ H R I h => h.elim (h1.run pins s σ H R I) (h2.run pins s σ H R I)⟩
def iAny (K : PySem.W.Frag) (te : TE) : TI := fun σ H R => iList K te σ H R ∨ iTup K te σ H R
theorem pi_any {X : Cx} {tg it : Expr} (h : PE X it te) : PI X tg it (iAny X.K te) := pi_or (pi_list h) (pi_tup h)
theorem itok_l {a : Addr} {vs : List V} {xs : List D} (hl : LsR K M H a vs) (r : RlA K M H vs xs) : ItOk K (Itl K a) xs M H := fun M1 H1 S1 x ok i =>
  have hl1 := (x.lsr hl).sql
  have r1 := r.monoW x
  ⟨fun h => ⟨vs, hl1, by rw [r1.len]; exact h⟩, fun h => ⟨vs, vs[i]'(by rw [r1.len]; exact h), hl1, List.getElem?_eq_getElem _⟩, fun v H2 d e h => by
    obtain ⟨rfl, h⟩ := h
    obtain ⟨w, e1, r2⟩ := r1.get e
    have := h vs hl1
    rw [e1] at this
    cases this
    exact ⟨.refl, ok, r2⟩⟩
theorem itok_t {a : Addr} {vs : List V} {xs : List D} (hl : SqT K H a vs) (r : RlA K M H vs xs) : ItOk K (Itt K a) xs M H := fun M1 H1 S1 x ok i =>
  have hl1 := x.sqt hl
  have r1 := r.monoW x
  ⟨fun h => ⟨vs, hl1, by rw [r1.len]; exact h⟩, fun h => ⟨vs, vs[i]'(by rw [r1.len]; exact h), hl1, List.getElem?_eq_getElem _⟩, fun v H2 d e h => by
    obtain ⟨rfl, h⟩ := h
    obtain ⟨w, e1, r2⟩ := r1.get e
    have := h vs hl1
    rw [e1] at this
    cases this
    exact ⟨.refl, ok, r2⟩⟩
theorem im_i (h : ImE K te me) : ImI K (iAny K te) (mQE me) := fun σ H M ρ S xs S' hs ok e R q => by
  unfold mQE at e
  cases e1 : me ρ S with
  | none => rw [e1] at e; cases e
  | some p =>
    rw [e1, Option.bind_some] at e
    obtain ⟨d, S1⟩ := p
    cases d with
    | list ys =>
      cases e
      refine .inl (h σ H M ρ S _ _ hs ok e1 _ fun v H1 M1 x1 ok1 r1 => ?_)
      cases r1 with
      | lst h1 h2 => exact ⟨_, rfl, ⟨_, h1.sql⟩, q _ H1 M1 x1 ok1 (itok_l h1 h2)⟩
    | tuple ys =>
      cases e
      refine .inr (h σ H M ρ S _ _ hs ok e1 _ fun v H1 M1 x1 ok1 r1 => ?_)
      cases r1 with
      | tup h1 h2 => exact ⟨_, rfl, ⟨_, h1⟩, q _ H1 M1 x1 ok1 (itok_t h1 h2)⟩
    | _ => cases e
def rng (lo : Int) (n : Nat) : List D := (List.range n).map fun i => .int (lo + (i : Nat))
theorem rng_get {lo : Int} {n i : Nat} {d : D} (h : (rng lo n)[i]? = some d) : i < n ∧ d = .int (lo + i) := by
  unfold rng at h
  rw [List.getElem?_map] at h
  by_cases hi : i < n
  · rw [List.getElem?_range hi] at h
    cases h
    exact ⟨hi, rfl⟩
  · rw [List.getElem?_eq_none (by rw [List.length_range]; omega)] at h
    cases h
theorem rng_len {lo : Int} {n : Nat} : (rng lo n).length = n := by unfold rng; rw [List.length_map, List.length_range]
theorem itok_r {lo : Int} {n : Nat} : ItOk K (Itr lo n) (rng lo n) M H := fun M1 H1 S1 x ok i =>
  ⟨fun h => by rw [rng_len] at h; exact h, fun h => by rw [rng_len] at h; exact h, fun v H2 d e h => by
    obtain ⟨rfl, rfl⟩ := h
    obtain ⟨_, rfl⟩ := rng_get e
    exact ⟨.refl, ok, .int _⟩⟩
def bRng (i : Int) : Bool := decide (-1000000000000 ≤ i ∧ i ≤ 1000000000000)
def mR1 (m : ME) : MN := fun ρ S => (m ρ S).bind fun p => match p.1 with
  | .int j => if bRng j then some (rng 0 j.toNat, p.2) else none
  | _ => none
theorem im_r1 (h : ImE K te me) : ImI K (iRng1 (tCons te tNil)) (mR1 me) := fun σ H M ρ S xs S' hs ok e R q => by
  unfold mR1 at e
  cases e1 : me ρ S with
  | none => rw [e1] at e; cases e
  | some p =>
    rw [e1, Option.bind_some] at e
    obtain ⟨d, S1⟩ := p
    cases d <;> first | (cases e; done) | skip
    simp only at e
    split at e <;> cases e
    rename_i j hb
    have hb : -1000000000000 ≤ j ∧ j ≤ 1000000000000 := of_decide_eq_true hb
    refine h σ H M ρ S _ _ hs ok e1 _ fun v H1 M1 x1 ok1 r1 => ?_
    cases r1
    exact ⟨j, rfl, by omega, by omega, q _ H1 M1 x1 ok1 itok_r⟩
def mR2 (m1 m2 : ME) : MN := fun ρ S => (m1 ρ S).bind fun p => (m2 ρ p.2).bind fun p2 => match p.1, p2.1 with
  | .int i, .int j => if bRng i && bRng j then some (rng i (j - i).toNat, p2.2) else none
  | _, _ => none
theorem im_r2 (ha : ImE K ta ma) (hb : ImE K tb mb) : ImI K (iRng2 (tCons ta (tCons tb tNil))) (mR2 ma mb) := fun σ H M ρ S xs S' hs ok e R q => by
  unfold mR2 at e
  cases e1 : ma ρ S with
  | none => rw [e1] at e; cases e
  | some p =>
    rw [e1, Option.bind_some] at e
    cases e2 : mb ρ p.2 with
    | none => rw [e2] at e; cases e
    | some p2 =>
      rw [e2, Option.bind_some] at e
      split at e <;> first | (cases e; done) | skip
      rename_i i j q1 q2
      split at e <;> cases e
      rename_i hb'
      rw [Bool.and_eq_true] at hb'
      have hi : -1000000000000 ≤ i ∧ i ≤ 1000000000000 := of_decide_eq_true hb'.1
      have hj : -1000000000000 ≤ j ∧ j ≤ 1000000000000 := of_decide_eq_true hb'.2
      refine ha σ H M ρ S p.1 p.2 hs ok e1 _ fun x H1 M1 x1 ok1 r1 => ?_
      refine hb σ H1 M1 ρ p.2 p2.1 p2.2 (hs.mono x1) ok1 e2 _ fun y H2 M2 x2 ok2 r2 => ?_
      rw [q1] at r1
      rw [q2] at r2
      cases r1
      cases r2
      exact ⟨i, j, rfl, ⟨by omega, by omega, by omega, by omega⟩, q _ H2 M2 (x1.trans x2) ok2 itok_r⟩

/-! ### list comprehensions -/
def wipeR (ρ : Rho) : List Nat → Rho
  | [] => ρ
  | v :: vs => (wipeR ρ vs).set v none
theorem RSt.wipe {σ : St} {ρ : Rho} (h : RSt K M H σ ρ) : ∀ vs : List Nat, RSt K M H (L2.wipe σ vs) (wipeR ρ vs)
  | [] => h
  | v :: vs => by
    have ih := RSt.wipe h vs
    unfold L2.wipe wipeR
    refine ⟨by rw [List.length_set, List.length_set]; exact ih.len, fun i s e => ?_⟩
    by_cases hi : v = i
    · subst hi
      by_cases hv : v < (wipeR ρ vs).length
      · rw [List.getElem?_set_self hv] at e; cases e
      · rw [List.getElem?_eq_none (by rw [List.length_set]; omega)] at e; cases e
    · rw [List.getElem?_set_ne hi] at e ⊢
      exact ih.at_ i s e
/-- a target that writes the block's own names alone -/
def GOwn (g : TG) (vs : List Nat) : Prop := ∀ (σ τ : St) (v : V) (H : Hp) (Q : St → Hp → Prop), L2.wipe τ vs = L2.wipe σ vs → g v τ H Q → g v τ H fun σ' H' => L2.wipe σ' vs = L2.wipe σ vs ∧ Q σ' H'
theorem wipe_set {i : Nat} {x : Option V} : ∀ {vs : List Nat} {τ : St}, i ∈ vs → L2.wipe (τ.set i x) vs = L2.wipe τ vs
  | v :: vs, τ, h => by
    unfold L2.wipe
    by_cases hi : i ∈ vs
    · rw [wipe_set hi]
    · have e : v = i := (List.mem_cons.mp h).elim (fun e => e.symm) fun z => absurd z hi
      subst e
      have key : ∀ ws : List Nat, v ∉ ws → ∀ τ : St, L2.wipe (τ.set v x) ws = (L2.wipe τ ws).set v x := fun ws => by
        induction ws with
        | nil => intro _ τ; rfl
        | cons w ws ih =>
          intro hw τ
          rw [List.mem_cons, not_or] at hw
          unfold L2.wipe
          rw [ih hw.2, List.set_comm _ _ hw.1]
      rw [key vs hi, List.set_set]
theorem wipe_wipe (σ : St) : ∀ {vs ws : List Nat}, (∀ i ∈ vs, i ∈ ws) → L2.wipe (L2.wipe σ vs) ws = L2.wipe σ ws
  | [], ws, _ => rfl
  | v :: vs, ws, h => by
    show L2.wipe ((L2.wipe σ vs).set v none) ws = _
    rw [wipe_set (h v List.mem_cons_self), wipe_wipe σ fun i hi => h i (List.mem_cons_of_mem _ hi)]
theorem gown_n {i : Nat} {vs : List Nat} (h : i ∈ vs) : GOwn (gName i) vs := fun σ τ v H Q e q => ⟨by rw [wipe_set h]; exact e, q⟩
def GsOwn (g : TGs) (vs : List Nat) : Prop := ∀ (σ τ : St) (v : List V) (H : Hp) (Q : St → Hp → Prop), L2.wipe τ vs = L2.wipe σ vs → g v τ H Q → g v τ H fun σ' H' => L2.wipe σ' vs = L2.wipe σ vs ∧ Q σ' H'
theorem gown_0 {vs : List Nat} : GsOwn gNil vs := fun σ τ v H Q e q => ⟨q.1, e, q.2⟩
theorem gown_t {K : PySem.W.Frag} {n : Nat} {t : TGs} {vs : List Nat} (h : GsOwn t vs) : GOwn (gTup K n t) vs := fun σ τ v H Q e q => by
  obtain ⟨a, xs, e1, e2, e3, q⟩ := q
  exact ⟨a, xs, e1, e2, e3, h σ τ xs H Q e q⟩
theorem gown_1 {i : Nat} {u : TGs} {vs : List Nat} (h1 : i ∈ vs) (h2 : GsOwn u vs) : GsOwn (gCons (gName i) u) vs := fun σ τ v H Q e q => by
  obtain ⟨x, r, e1, q⟩ := q
  exact ⟨x, r, e1, h2 σ _ r H Q (by rw [wipe_set h1]; exact e) q⟩
def lcRun (mg : MG) (mt : MT) (me : ME) : List D → Rho → Sto → Option (List D × Sto)
  | [], _, S => some ([], S)
  | x :: xs, ρ, S => (mg x ρ).bind fun ρ1 => (mt ρ1 S).bind fun p => if p.1 then (me ρ1 p.2).bind fun q => (lcRun mg mt me xs ρ q.2).map fun r => (q.1 :: r.1, r.2) else lcRun mg mt me xs ρ p.2
def mLc (mi : MN) (mg : MG) (mt : MT) (me : ME) (vs : List Nat) : MN := fun ρ S => (mi ρ S).bind fun p => if p.1.length ≤ 1000000 then lcRun mg mt me p.1 (wipeR ρ vs) p.2 else none
def mYes : MT := fun _ S => some (true, S)
theorem im_yes : ImT K tYes mYes := fun σ H M ρ S b S' hs ok e Q q => by cases e; exact q H M .refl ok
theorem im_lc {wi : TI} {g : TG} {tt : TT} {mi : MN} {mg : MG} {mt : MT} {vs : List Nat} (hi : ImI K wi mi) (hg : ImG K g mg) (ho : GOwn g vs) (ht : ImT K tt mt) (he : ImE K te me) : ImN K (tLc wi g tt te vs) (mLc mi mg mt me vs) := fun σ H M ρ S ys S' hs ok e Q q => by
  unfold mLc at e
  cases e1 : mi ρ S with
  | none => rw [e1] at e; cases e
  | some p =>
    rw [e1, Option.bind_some] at e
    split at e <;> first | (cases e; done) | skip
    rename_i hz
    obtain ⟨xs, S1⟩ := p
    simp only at e hz
    refine hi σ H M ρ S xs S1 hs ok e1 _ fun J H1 M1 x1 ok1 it => ?_
    intro Dl hD
    have hs1 := (hs.mono x1).wipe vs
    refine ⟨fun i m Hi => m = xs.length - i ∧ i ≤ xs.length ∧ ∃ (Mi : Adr) (Si : Sto) (acc : List D) (av : List V) (zs : List D), Ext M1 H1 Mi Hi ∧ Dl ∈ Mi.g ∧ some Dl ∉ Mi.c ∧ Ok K Mi Si Hi ∧ RSt K Mi Hi (L2.wipe σ vs) (wipeR ρ vs) ∧ Hi Dl = some (.lst av) ∧ RlA K Mi Hi av acc ∧
      acc.length ≤ i ∧ lcRun mg mt me (xs.drop i) (wipeR ρ vs) Si = some (zs, S') ∧ acc ++ zs = ys,
      ⟨xs.length, by omega, Nat.zero_le _, M1.gh Dl, S1, [], [], ys, Ext.ghost hD, List.mem_cons_self, fun z => ok1.notin hD (.inl z), ok1.ghost hD, hs1.fresh hD, upd_same, .nil, Nat.zero_le _, e, rfl⟩, ?_⟩
    rintro i m Hi ⟨rfl, hle, Mi, Si, acc, av, zs, xi, hg1, hc1, oki, hsi, hd, ra, hacc, er, hy⟩
    have J1 := it Mi Hi Si xi.w oki i
    by_cases hlt : i < xs.length
    · refine .inr ⟨J1.2.1 hlt, fun Hn => ∃ (Mi : Adr) (Si : Sto) (acc : List D) (av : List V) (zs : List D), Ext M1 H1 Mi Hn ∧ Dl ∈ Mi.g ∧ some Dl ∉ Mi.c ∧ Ok K Mi Si Hn ∧ RSt K Mi Hn (L2.wipe σ vs) (wipeR ρ vs) ∧ Hn Dl = some (.lst av) ∧ RlA K Mi Hn av acc ∧
        acc.length ≤ i + 1 ∧ lcRun mg mt me (xs.drop (i + 1)) (wipeR ρ vs) Si = some (zs, S') ∧ acc ++ zs = ys, fun Hn hN => ⟨xs.length - (i + 1), by omega, rfl, by omega, hN⟩, fun x H2 hx => ?_⟩
      have ed : xs.drop i = xs[i] :: xs.drop (i + 1) := List.drop_eq_getElem_cons hlt
      rw [ed] at er
      unfold lcRun at er
      obtain ⟨x2, ok2, r2⟩ := J1.2.2 x H2 xs[i] (List.getElem?_eq_getElem hlt) hx
      cases e2 : mg xs[i] (wipeR ρ vs) with
      | none => rw [e2] at er; cases er
      | some ρ1 =>
        rw [e2, Option.bind_some] at er
        have hs2 := hsi.mono x2
        refine ho σ _ _ _ _ (wipe_wipe σ fun _ z => z) (hg _ H2 Mi (wipeR ρ vs) ρ1 x xs[i] hs2 r2 e2 _ fun σ' hs' => ?_)
        cases e3 : mt ρ1 Si with
        | none => rw [e3] at er; cases er
        | some p =>
          rw [e3, Option.bind_some] at er
          obtain ⟨b, S3⟩ := p
          refine ht σ' H2 Mi ρ1 Si b S3 hs' ok2 e3 _ fun H3 M3 x3 ok3 => ?_
          have hD3 : H3 Dl = some (.lst av) := x3.keep Dl _ (x2.keep Dl _ hd (.inl hc1)) (.inl hc1)
          have hc3 : some Dl ∉ M3.c := fun z => (x3.sub Dl z).elim hc1 fun z => by rw [x2.keep Dl _ hd (.inl hc1)] at z; cases z
          have hg3 : Dl ∈ M3.g := x3.gk Dl hg1
          have x23 := x2.trans x3
          cases b with
          | false =>
            rw [if_neg (show ¬ (false = true) from Bool.false_ne_true)]
            rw [if_neg (show ¬ (false = true) from Bool.false_ne_true)] at er
            exact ⟨M3, S3, acc, av, zs, xi.trans x23, hg3, hc3, ok3, hsi.mono x23, hD3, ra.mono x23, by omega, er, hy⟩
          | true =>
            rw [if_pos rfl]
            rw [if_pos rfl] at er
            cases e4 : me ρ1 S3 with
            | none => rw [e4] at er; cases er
            | some p4 =>
              rw [e4, Option.bind_some] at er
              cases e5 : lcRun mg mt me (xs.drop (i + 1)) (wipeR ρ vs) p4.2 with
              | none => rw [e5] at er; cases er
              | some p5 =>
                rw [e5] at er
                cases er
                refine he σ' H3 M3 ρ1 S3 p4.1 p4.2 (hs'.mono x3) ok3 e4 _ fun v H4 M4 x4 ok4 r4 => ?_
                have hD4 : H4 Dl = some (.lst av) := x4.keep Dl _ hD3 (.inl hc3)
                have hc4 : some Dl ∉ M4.c := fun z => (x4.sub Dl z).elim hc3 fun z => by rw [hD3] at z; cases z
                have hg4 : Dl ∈ M4.g := x4.gk Dl hg3
                have x24 := x23.trans x4
                have ra4 := ra.mono x24
                have xg : Ext M1 H1 M4 (upd H4 Dl (.lst (av ++ [v]))) := by
                  have y := (xi.trans x24)
                  exact ⟨y.subn, y.gs, y.gk, y.pos, y.dead, fun a o h c => by
                    rw [upd_ne (ne_of_none h hD)]; exact y.keep a o h c, fun a h => y.free a (by
                    by_cases ea : a = Dl
                    · subst ea; rw [upd_same] at h; cases h
                    · rw [upd_ne ea] at h; exact h)⟩
                refine ⟨av, hD4, Nat.lt_of_lt_of_le (show av.length < 1000001 by rw [ra.len]; omega) (by decide), M4, p4.2, acc ++ [p4.1], av ++ [v], p5.1, xg, hg4, hc4, ok4.grow (.inr hg4) hD4 hc4, (hsi.mono x24).grow (.inr hg4) hD4, upd_same,
                  (ra4.append (.one r4)).grow (.inr hg4) hD4, by rw [List.length_append, List.length_singleton]; omega, e5, by rw [List.append_assoc]; exact hy⟩
    · refine .inl ⟨J1.1 (by omega), ?_⟩
      have e0 : xs.drop i = [] := List.drop_eq_nil_of_le (by omega)
      rw [e0] at er
      cases er
      rw [List.append_nil] at hy
      subst hy
      have xf := x1.trans xi
      exact q Dl av Hi Mi xf oki (x1.free Dl hD) hd hg1 ra
end
end G
set_option Elab.async false
set_option linter.all false
set_option autoImplicit false
set_option maxRecDepth 100000
set_option maxHeartbeats 4000000
namespace G
open PySem L2
section
variable {K : PySem.W.Frag} {M M' : Adr} {H H' : Hp} {S S' : Sto} {ta tb tc te : TE} {ma mb mc me : ME} {d : D} {b : Nat}

def Adr.tk (b : Nat) (M : Adr) : Adr := ⟨M.c.take b, M.g⟩
theorem Adr.tkmem {a : Addr} (h : (M.tk b).mem a) : M.mem a := h.elim (fun z => .inl (List.mem_of_mem_take z)) .inr
/-- what a def hands back: data, or a list that is new -/
def PostR (K : PySem.W.Frag) (b : Nat) (H0 : Hp) (M' : Adr) (H' : Hp) (v : V) : Rt → Prop
  | .val d => Rl K (M'.tk b) H' v d
  | .new ds => ∃ a vs, v = .ref a ∧ H0 a = none ∧ H' a = some (.lst vs) ∧ M'.mem a ∧ some a ∉ M'.c.take b ∧ RlA K M' H' vs ds
def PostC (K : PySem.W.Frag) (b : Nat) (H0 : Hp) (M : Adr) (H : Hp) (D : Ends) (o : Out) (ρ' : Rho) (S' : Sto) : Prop :=
  match o with
  | .nx => ∀ σ' H' M', Ext M H M' H' → Ok K M' S' H' → RSt K M' H' σ' ρ' → D.nx σ' H'
  | .bk => ∀ σ' H' M', Ext M H M' H' → Ok K M' S' H' → RSt K M' H' σ' ρ' → D.bk σ' H'
  | .ct => ∀ σ' H' M', Ext M H M' H' → Ok K M' S' H' → RSt K M' H' σ' ρ' → D.ct σ' H'
  | .rt r => ∀ v H' M', Ext M H M' H' → Ok K M' S' H' → PostR K b H0 M' H' v r → D.rt v H'
def ImC (K : PySem.W.Frag) (b : Nat) (t : TS) (m : MS) : Prop := ∀ (M0 : Adr) (H0 : Hp) (σ : St) (H : Hp) (M : Adr) (ρ : Rho) (S : Sto) (o : Out) (ρ' : Rho) (S' : Sto), M0.c.length = b → (∀ a, M0.mem a → ∃ vs, H0 a = some (.lst vs)) → Ext M0 H0 M H → RSt K M H σ ρ → Ok K M S H → m ρ S = some (o, ρ', S') →
  ∀ D : Ends, PostC K b H0 M H D o ρ' S' → t D σ H
theorem PostC.ext {H0 : Hp} {D : Ends} {o : Out} {ρ' : Rho} (q : PostC K b H0 M H D o ρ' S') (x : Ext M H M' H') : PostC K b H0 M' H' D o ρ' S' := by
  cases o with
  | nx => exact fun σ' H2 M2 y ok r => q σ' H2 M2 (x.trans y) ok r
  | bk => exact fun σ' H2 M2 y ok r => q σ' H2 M2 (x.trans y) ok r
  | ct => exact fun σ' H2 M2 y ok r => q σ' H2 M2 (x.trans y) ok r
  | rt r => exact fun v H2 M2 y ok r => q v H2 M2 (x.trans y) ok r
def mNext : MS := fun ρ S => some (.nx, ρ, S)
theorem imc_next : ImC K b tNext mNext := fun M0 H0 σ H M ρ S o ρ' S' hb hl x0 hs ok e D q => by
  cases e
  exact q σ H M .refl ok hs
def mBrk : MS := fun ρ S => some (.bk, ρ, S)
def mCont : MS := fun ρ S => some (.ct, ρ, S)
theorem imc_brk : ImC K b tBreak mBrk := fun M0 H0 σ H M ρ S o ρ' S' hb hl x0 hs ok e D q => by
  cases e
  exact q σ H M .refl ok hs
theorem imc_cont : ImC K b tCont mCont := fun M0 H0 σ H M ρ S o ρ' S' hb hl x0 hs ok e D q => by
  cases e
  exact q σ H M .refl ok hs
def mNever : MS := fun _ _ => none
theorem imc_never : ImC K b tNever mNever := fun M0 H0 σ H M ρ S o ρ' S' hb hl x0 hs ok e D q => by cases e
def mSeq (m1 m2 : MS) : MS := fun ρ S => (m1 ρ S).bind fun p => match p.1 with
  | .nx => m2 p.2.1 p.2.2
  | o => some (o, p.2)
theorem imc_seq {t u : TS} {m1 m2 : MS} (h1 : ImC K b t m1) (h2 : ImC K b u m2) : ImC K b (tSeq t u) (mSeq m1 m2) := fun M0 H0 σ H M ρ S o ρ' S' hb hl x0 hs ok e D q => by
  unfold mSeq at e
  cases e1 : m1 ρ S with
  | none => rw [e1] at e; cases e
  | some p =>
    rw [e1, Option.bind_some] at e
    obtain ⟨o1, ρ1, S1⟩ := p
    refine h1 M0 H0 σ H M ρ S o1 ρ1 S1 hb hl x0 hs ok e1 { D with nx := u D } ?_
    cases o1 with
    | nx => exact fun σ' H1 M1 x1 ok1 hs1 => h2 M0 H0 σ' H1 M1 ρ1 S1 o ρ' S' hb hl (x0.trans x1) hs1 ok1 e D (q.ext x1)
    | bk => cases e; exact q
    | ct => cases e; exact q
    | rt r => cases e; exact q
def mDrop (m : ME) : MS := fun ρ S => (m ρ S).map fun p => (.nx, ρ, p.2)
theorem imc_drop (h : ImE K te me) : ImC K b (tDrop te) (mDrop me) := fun M0 H0 σ H M ρ S o ρ' S' hb hl x0 hs ok e D q => by
  unfold mDrop at e
  cases e1 : me ρ S with
  | none => rw [e1] at e; cases e
  | some p =>
    rw [e1] at e
    cases e
    exact h σ H M ρ S p.1 p.2 hs ok e1 _ fun v H1 M1 x1 ok1 r1 => q σ H1 M1 x1 ok1 (hs.mono x1)
def mRet (m : ME) : MS := fun ρ S => (m ρ S).map fun p => (.rt (.val p.1), ρ, p.2)
theorem imc_ret (h : ImE K te me) : ImC K b (tRet te) (mRet me) := fun M0 H0 σ H M ρ S o ρ' S' hb hl x0 hs ok e D q => by
  unfold mRet at e
  cases e1 : me ρ S with
  | none => rw [e1] at e; cases e
  | some p =>
    rw [e1] at e
    cases e
    exact h σ H M ρ S p.1 p.2 hs ok e1 _ fun v H1 M1 x1 ok1 r1 => q v H1 M1 x1 ok1 (r1.anti fun _ => Adr.tkmem)
def mRetL (m : MN) : MS := fun ρ S => (m ρ S).map fun p => (.rt (.new p.1), ρ, p.2)
theorem imc_retL {m : MN} (h : ImN K te m) : ImC K b (tRet te) (mRetL m) := fun M0 H0 σ H M ρ S o ρ' S' hb hl x0 hs ok e D q => by
  unfold mRetL at e
  cases e1 : m ρ S with
  | none => rw [e1] at e; cases e
  | some p =>
    rw [e1] at e
    cases e
    exact h σ H M ρ S p.1 p.2 hs ok e1 _ fun a vs H1 M1 x1 ok1 n0 n1 n2 r1 => q _ H1 M1 x1 ok1 ⟨a, vs, rfl, x0.free a n0, n1, .inr n2, fun z => ok1.dj a (List.mem_of_mem_take z) n2, r1⟩
def mRetN : MS := fun ρ S => some (.rt (.val .none), ρ, S)
theorem imc_retN : ImC K b tRetN mRetN := fun M0 H0 σ H M ρ S o ρ' S' hb hl x0 hs ok e D q => by
  cases e
  exact q _ H M .refl ok .non
/-- return x: a list of this def's own -/
def mRetV (b i : Nat) : MS := fun ρ S => match ρ[i]? with
  | some (some (.d x)) => some (.rt (.val x), ρ, S)
  | some (some (.loc n)) => if b ≤ n then (S[n]?.join).map fun xs => (.rt (.new xs), ρ, S) else none
  | _ => none
theorem imc_retV {i : Nat} : ImC K b (tRet (tVar i)) (mRetV b i) := fun M0 H0 σ H M ρ S o ρ' S' hb hl x0 hs ok e D q => by
  unfold mRetV at e
  split at e <;> first | (cases e; done) | skip
  · rename_i x e1
    cases e
    obtain ⟨v, e2, r⟩ := hs.at_ i _ e1
    exact ⟨v, e2, q v H M .refl ok (Rl.anti (fun _ => Adr.tkmem) r)⟩
  · rename_i n e1
    split at e <;> first | (cases e; done) | skip
    rename_i hn
    cases e2 : S[n]? with
    | none => rw [e2] at e; cases e
    | some c =>
      cases c with
      | none => rw [e2] at e; cases e
      | some xs =>
        rw [e2] at e
        cases e
        obtain ⟨v, e3, a, rfl, r⟩ := hs.at_ i _ e1
        obtain ⟨a', vs, m1, m2, m3⟩ := ok.cell n _ e2
        have ea : a = a' := by rcases r with r | r <;> (rw [r] at m1; cases m1); rfl
        subst ea
        have nb : ¬ some a ∈ M.c.take b := fun z => by
          obtain ⟨j, hj, ej⟩ := List.mem_take_iff_getElem.mp z
          have e4 : M.c[j]? = some (some a) := by rw [List.getElem?_eq_getElem (by omega), ej]
          have := ok.inj j n a e4 m1
          omega
        have h0 : H0 a = none := by
          rcases x0.subn n a m1 with z | z
          · have := (List.getElem?_eq_some_iff.mp z).1
            omega
          · exact z.2
        exact ⟨_, e3, q _ H M .refl ok ⟨a, vs, rfl, h0, m2, .inl (List.mem_of_getElem? m1), nb, m3⟩⟩
end
end G
set_option Elab.async false
set_option linter.all false
set_option autoImplicit false
set_option maxRecDepth 100000
set_option maxHeartbeats 4000000
namespace G
open PySem L2
section
variable {K : PySem.W.Frag} {M M' : Adr} {H H' : Hp} {S S' : Sto} {ta tb tc te : TE} {ma mb mc me : ME} {d : D} {b : Nat}
def mIfS (c : MT) (m1 m2 : MS) : MS := fun ρ S => (c ρ S).bind fun p => if p.1 then m1 ρ p.2 else m2 ρ p.2
theorem imc_if {t : TT} {c : MT} {t1 t2 : TS} {m1 m2 : MS} (h : ImT K t c) (h1 : ImC K b t1 m1) (h2 : ImC K b t2 m2) : ImC K b (tIfS t t1 t2) (mIfS c m1 m2) := fun M0 H0 σ H M ρ S o ρ' S' hb hl x0 hs ok e D q => by
  unfold mIfS at e
  cases e1 : c ρ S with
  | none => rw [e1] at e; cases e
  | some p =>
    rw [e1, Option.bind_some] at e
    obtain ⟨y, S1⟩ := p
    refine h σ H M ρ S _ _ hs ok e1 _ fun H1 M1 x1 ok1 => ?_
    cases y with
    | true => exact h1 M0 H0 σ H1 M1 ρ S1 o ρ' S' hb hl (x0.trans x1) (hs.mono x1) ok1 e D (q.ext x1)
    | false => exact h2 M0 H0 σ H1 M1 ρ S1 o ρ' S' hb hl (x0.trans x1) (hs.mono x1) ok1 e D (q.ext x1)
def mAsg (m : ME) (g : MG) : MS := fun ρ S => (m ρ S).bind fun p => (g p.1 ρ).map fun ρ1 => (.nx, ρ1, p.2)
theorem imc_asg {t : TG} {g : MG} (h : ImE K te me) (hg : ImG K t g) : ImC K b (tAsg te t) (mAsg me g) := fun M0 H0 σ H M ρ S o ρ' S' hb hl x0 hs ok e D q => by
  unfold mAsg at e
  cases e1 : me ρ S with
  | none => rw [e1] at e; cases e
  | some p =>
    rw [e1, Option.bind_some] at e
    cases e2 : g p.1 ρ with
    | none => rw [e2] at e; cases e
    | some ρ1 =>
      rw [e2] at e
      cases e
      refine h σ H M ρ S p.1 p.2 hs ok e1 _ fun v H1 M1 x1 ok1 r1 => ?_
      exact hg σ H1 M1 ρ ρ' v p.1 (hs.mono x1) r1 e2 _ fun σ' hs' => q σ' H1 M1 x1 ok1 hs'
/-- x = a new list that is to change -/
def mNew (i : Nat) (m : MN) : MS := fun ρ S => (m ρ S).map fun p => (.nx, ρ.set i (some (.loc p.2.length)), p.2 ++ [some p.1])
theorem imc_new {i : Nat} {m : MN} (h : ImN K te m) : ImC K b (tAsg te (gName i)) (mNew i m) := fun M0 H0 σ H M ρ S o ρ' S' hb hl x0 hs ok e D q => by
  unfold mNew at e
  cases e1 : m ρ S with
  | none => rw [e1] at e; cases e
  | some p =>
    rw [e1] at e
    cases e
    refine h σ H M ρ S p.1 p.2 hs ok e1 _ fun a vs H1 M1 x1 ok1 n0 n1 n2 r1 => ?_
    -- the list in the making becomes a cell
    have xu := x1.ungh
    have xa : Ext M H ((M1.ug M).add a) H1 := xu.add n0
    have nm : ∀ c, ((M1.ug M).add a).mem c → M1.mem c := fun c z => by
      rcases z with z | z
      · rcases List.mem_append.mp z with z | z
        · exact .inl z
        · have e : c = a := by simpa using z
          rw [e]; exact .inr n2
      · exact .inr (x1.gk c z)
    have na : ¬ (M1.ug M).mem a := fun z => z.elim (fun z => ok1.dj a z n2) fun z => ok.notin n0 (.inr z)
    have oku := ok1.ug (M := M) x1.gk
    have ok2 : Ok K ((M1.ug M).add a) (p.2 ++ [some p.1]) H1 := by
      refine oku.add n1 na (fun v d _ => .inr trivial) (r1.anti fun c z => ?_) fun n ys e => ?_
      · exact x1.ughmem n2 z
      · obtain ⟨c, us, c1, c2, c3⟩ := ok1.cell n ys e
        exact ⟨c, us, c1, c2, c3.anti fun c z => x1.ughmem n2 z⟩
    refine q _ H1 _ xa ok2 ((hs.mono xa).set (s := .loc p.2.length) ⟨a, rfl, .inl ?_⟩ i)
    show (M1.c ++ [some a])[p.2.length]? = _
    rw [← ok1.len, List.getElem?_append_right (Nat.le_refl _), Nat.sub_self]
    rfl
/-- x op= e -/
def mAug (i : Nat) (f : D → D → Option D) (m : ME) : MS := fun ρ S => (mVar i ρ S).bind fun p => (m ρ S).bind fun q => (f p.1 q.1).map fun z => (.nx, ρ.set i (some (.d z)), q.2)
theorem imc_aug {i : Nat} {ti : TIp} {f : D → D → Option D} (hf : ImR K ti f) (h : ImE K te me) : ImC K b (tAug i te ti) (mAug i f me) := fun M0 H0 σ H M ρ S o ρ' S' hb hl x0 hs ok e D q => by
  unfold mAug at e
  cases e0 : mVar i ρ S with
  | none => rw [e0] at e; cases e
  | some p0 =>
    rw [e0, Option.bind_some] at e
    cases e1 : me ρ S with
    | none => rw [e1] at e; cases e
    | some p =>
      rw [e1, Option.bind_some] at e
      cases e2 : f p0.1 p.1 with
      | none => rw [e2] at e; cases e
      | some z =>
        rw [e2] at e
        cases e
        have hv : ρ[i]? = some (some (.d p0.1)) := by
          unfold mVar at e0
          split at e0 <;> cases e0
          assumption
        obtain ⟨v, hv, r⟩ := hs.at_ i _ hv
        refine ⟨v, hv, ?_⟩
        refine h σ H M ρ S p.1 p.2 hs ok e1 _ fun y H1 M1 x1 ok1 r1 => ?_
        refine hf H1 M1 p.2 v y p0.1 p.1 z ok1 (Rl.mono x1 r) r1 e2 _ fun w H2 M2 x2 ok2 r2 => ?_
        have x := x1.trans x2
        exact q _ H2 M2 x ok2 ((hs.mono x).set (s := .d z) r2 i)
theorem imr_ipadd : ImR K (ipI fun i j => i + j) (fI0 fun i j => .int (i + j)) := fun H M S x y dx dy dz ok rx ry e Q q => by
  unfold fI0 at e
  split at e <;> cases e
  cases rx
  cases ry
  exact ⟨_, _, rfl, rfl, q.here ok (.int _)⟩
theorem imr_ipsub : ImR K (ipI fun i j => i - j) (fI0 fun i j => .int (i - j)) := fun H M S x y dx dy dz ok rx ry e Q q => by
  unfold fI0 at e
  split at e <;> cases e
  cases rx
  cases ry
  exact ⟨_, _, rfl, rfl, q.here ok (.int _)⟩
/-- the cell of a name -/
theorem cell_at {σ : St} {ρ : Rho} {i n : Nat} {xs : List D} (hr : RSt K M H σ ρ) (ok : Ok K M S H) (e : ρ[i]? = some (some (.loc n))) (e2 : S[n]? = some (some xs)) :
    ∃ a vs, σ[i]? = some (some (.ref a)) ∧ M.c[n]? = some (some a) ∧ H a = some (.lst vs) ∧ RlA K M H vs xs := by
  obtain ⟨v, e1, a, rfl, r⟩ := hr.at_ i _ e
  obtain ⟨a', vs, m1, m2, m3⟩ := ok.cell n _ e2
  have ea : a = a' := by rcases r with r | r <;> (rw [r] at m1; cases m1); rfl
  subst ea
  exact ⟨a, vs, e1, m1, m2, m3⟩
/-- x[e] = v -/
def mSub (i : Nat) (mi mv : ME) : MS := fun ρ S => (mv ρ S).bind fun p => (mi ρ p.2).bind fun q => match q.1, ρ[i]? with
  | .int k, some (some (.loc n)) => (q.2[n]?.join).bind fun xs => (ixN xs.length k).map fun j => (.nx, ρ, q.2.set n (some (xs.set j p.1)))
  | _, _ => none
theorem imc_sub {i : Nat} {ti tv : TE} {mi mv : ME} (hi : ImE K ti mi) (hv : ImE K tv mv) : ImC K b (tAsg tv (gSub (tVar i) ti rSetL)) (mSub i mi mv) := fun M0 H0 σ H M ρ S o ρ' S' hb hl x0 hs ok e D q => by
  unfold mSub at e
  cases e1 : mv ρ S with
  | none => rw [e1] at e; cases e
  | some p =>
    rw [e1, Option.bind_some] at e
    cases e2 : mi ρ p.2 with
    | none => rw [e2] at e; cases e
    | some p2 =>
      rw [e2, Option.bind_some] at e
      split at e <;> first | (cases e; done) | skip
      rename_i k n ek en
      cases e3 : p2.2[n]? with
      | none => rw [e3] at e; cases e
      | some c =>
        cases c with
        | none => rw [e3] at e; cases e
        | some xs =>
          rw [e3] at e
          have e : ((ixN xs.length k).map fun j => ((.nx : Out), ρ, p2.2.set n (some (xs.set j p.1)))) = some (o, ρ', S') := e
          cases e4 : ixN xs.length k with
          | none => rw [e4] at e; cases e
          | some j =>
            rw [e4] at e
            cases e
            refine hv σ H M ρ S p.1 p.2 hs ok e1 _ fun v H1 M1 x1 ok1 r1 => ?_
            obtain ⟨w, hw, _⟩ := hs.at_ i _ en
            refine ⟨w, hw, ?_⟩
            refine hi σ H1 M1 ρ p.2 p2.1 p2.2 (hs.mono x1) ok1 e2 _ fun y H2 M2 x2 ok2 r2 => ?_
            have x := x1.trans x2
            obtain ⟨a, vs, c1, c2, c3, c4⟩ := cell_at (hs.mono x) ok2 en e3
            rw [hw] at c1
            cases c1
            rw [ek] at r2
            cases r2
            refine ⟨a, vs, k, j, rfl, rfl, c3, by rw [c4.len]; exact e4, ?_⟩
            have xc : Ext M2 H2 M2 (upd H2 a (.lst (vs.set j v))) := Ext.setc (List.mem_of_getElem? c2) c3
            exact q σ _ M2 (x.trans xc) (ok2.setc c2 c3 (c4.set (r1.mono x2) j)) (hs.mono (x.trans xc))
/-- x.append(e) -/
def mApp (i : Nat) (m : ME) : ME := fun ρ S => match ρ[i]? with
  | some (some (.loc n)) => (S[n]?.join).bind fun _ => (m ρ S).bind fun p => (p.2[n]?.join).bind fun xs => if xs.length < 1000000 then some (.none, p.2.set n (some (xs ++ [p.1]))) else none
  | _ => none
theorem tyl {a : Addr} {xs : List V} (h : H a = some (.lst xs)) : tyV K "list" (.ref a) H := .inl ⟨rfl, xs, .inl (.inl h)⟩
theorem join_some {α : Type} {x : Option (Option α)} {y : α} (h : x.join = some y) : x = some (some y) := by
  cases x with
  | none => cases h
  | some c => cases c with
    | none => cases h
    | some z => cases h; rfl
theorem im_app {i : Nat} (h : ImE K te me) : ImE K (tBM K "list" rAppend (tVar i) (tCons te tNil)) (mApp i me) := fun σ H M ρ S d S' hs ok e Q q => by
  unfold mApp at e
  split at e <;> first | (cases e; done) | skip
  rename_i n en
  cases e0 : S[n]?.join with
  | none => rw [e0] at e; cases e
  | some xs0 =>
    rw [e0, Option.bind_some] at e
    cases e1 : me ρ S with
    | none => rw [e1] at e; cases e
    | some p =>
      rw [e1, Option.bind_some] at e
      cases e3 : p.2[n]?.join with
      | none => rw [e3] at e; cases e
      | some xs =>
        rw [e3, Option.bind_some] at e
        split at e <;> cases e
        rename_i hz
        obtain ⟨a, us, hw, _, hus, _⟩ := cell_at hs ok en (join_some e0)
        refine ⟨_, hw, tyl hus, ?_⟩
        refine h σ H M ρ S p.1 p.2 hs ok e1 _ fun v H1 M1 x1 ok1 r1 => ?_
        obtain ⟨a', vs, c1, c2, c3, c4⟩ := cell_at (hs.mono x1) ok1 en (join_some e3)
        rw [hw] at c1
        cases c1
        refine ⟨a, vs, v, rfl, rfl, c3, Nat.lt_of_lt_of_le (show vs.length < 1000000 by rw [c4.len]; exact hz) big, ?_⟩
        have xc : Ext M1 H1 M1 (upd H1 a (.lst (vs ++ [v]))) := Ext.setc (List.mem_of_getElem? c2) c3
        exact q _ _ M1 (x1.trans xc) (ok1.setc c2 c3 (c4.append (.one r1))) .non
/-- x.extend(a new list) -/
def mExtN (i : Nat) (m : MN) : ME := fun ρ S => match ρ[i]? with
  | some (some (.loc n)) => (S[n]?.join).bind fun _ => (m ρ S).bind fun p => (p.2[n]?.join).bind fun xs => if xs.length + p.1.length ≤ 1000000 then some (.none, p.2.set n (some (xs ++ p.1))) else none
  | _ => none
theorem im_extN {i : Nat} {m : MN} (h : ImN K te m) : ImE K (tBM K "list" rExtend (tVar i) (tCons te tNil)) (mExtN i m) := fun σ H M ρ S d S' hs ok e Q q => by
  unfold mExtN at e
  split at e <;> first | (cases e; done) | skip
  rename_i n en
  cases e0 : S[n]?.join with
  | none => rw [e0] at e; cases e
  | some xs0 =>
    rw [e0, Option.bind_some] at e
    cases e1 : m ρ S with
    | none => rw [e1] at e; cases e
    | some p =>
      rw [e1, Option.bind_some] at e
      cases e3 : p.2[n]?.join with
      | none => rw [e3] at e; cases e
      | some xs =>
        rw [e3, Option.bind_some] at e
        split at e <;> cases e
        rename_i hz
        obtain ⟨a, us, hw, _, hus, _⟩ := cell_at hs ok en (join_some e0)
        refine ⟨_, hw, tyl hus, ?_⟩
        refine h σ H M ρ S p.1 p.2 hs ok e1 _ fun l ws H1 M1 x1 ok1 n0 n1 n2 r1 => ?_
        obtain ⟨a', vs, c1, c2, c3, c4⟩ := cell_at (hs.mono x1) ok1 en (join_some e3)
        rw [hw] at c1
        cases c1
        refine ⟨a, l, vs, ws, rfl, rfl, c3, n1, Nat.le_trans (show vs.length + ws.length ≤ 1000000 by rw [c4.len, r1.len]; exact hz) big, ?_⟩
        have xc : Ext M1 H1 M1 (upd H1 a (.lst (vs ++ ws))) := Ext.setc (List.mem_of_getElem? c2) c3
        exact q _ _ M1 (x1.trans xc) (ok1.setc c2 c3 (c4.append r1)) .non
/-- x.pop() -/
def mPop (i : Nat) : ME := fun ρ S => match ρ[i]? with
  | some (some (.loc n)) => (S[n]?.join).bind fun xs => (xs[xs.length - 1]?).map fun y => (y, S.set n (some xs.dropLast))
  | _ => none
theorem RlA.dropLast {vs : List V} {ds : List D} (h : RlA K M H vs ds) : RlA K M H vs.dropLast ds.dropLast := by
  rw [List.dropLast_eq_take, List.dropLast_eq_take, h.len]
  exact h.take _
theorem im_pop {i : Nat} : ImE K (tBM0 K "list" rPop (tVar i)) (mPop i) := fun σ H M ρ S d S' hs ok e Q q => by
  unfold mPop at e
  split at e <;> first | (cases e; done) | skip
  rename_i n en
  cases e0 : S[n]?.join with
  | none => rw [e0] at e; cases e
  | some xs =>
    rw [e0, Option.bind_some] at e
    cases e1 : xs[xs.length - 1]? with
    | none => rw [e1] at e; cases e
    | some y =>
      rw [e1] at e
      cases e
      obtain ⟨a, vs, hw, c2, c3, c4⟩ := cell_at hs ok en (join_some e0)
      obtain ⟨v, e2, r⟩ := c4.get e1
      refine ⟨_, hw, tyl c3, ⟨a, vs, v, rfl, rfl, c3, by rw [c4.len]; exact e2, ?_⟩⟩
      have xc : Ext M H M (upd H a (.lst vs.dropLast)) := Ext.setc (List.mem_of_getElem? c2) c3
      exact q _ _ M xc (ok.setc c2 c3 c4.dropLast) (r.mono xc)
/-! ### loops -/
def forRun (mg : MG) (mb : MS) : List D → Rho → Sto → Option (Out × Rho × Sto)
  | [], ρ, S => some (.nx, ρ, S)
  | x :: xs, ρ, S => (mg x ρ).bind fun ρ1 => (mb ρ1 S).bind fun p => match p.1 with
    | .nx => forRun mg mb xs p.2.1 p.2.2
    | .ct => forRun mg mb xs p.2.1 p.2.2
    | .bk => some (.nx, p.2)
    | .rt r => some (.rt r, p.2)
def mFor (mi : MN) (mg : MG) (mb : MS) : MS := fun ρ S => (mi ρ S).bind fun p => forRun mg mb p.1 ρ p.2
theorem imc_for {wi : TI} {g : TG} {tb : TS} {mi : MN} {mg : MG} {mb : MS} (hi : ImI K wi mi) (hg : ImG K g mg) (h : ImC K b tb mb) : ImC K b (tFor wi g tb) (mFor mi mg mb) := fun M0 H0 σ H M ρ S o ρ' S' hb hl x0 hs ok e D q => by
  unfold mFor at e
  cases e1 : mi ρ S with
  | none => rw [e1] at e; cases e
  | some p =>
    rw [e1, Option.bind_some] at e
    obtain ⟨xs, S1⟩ := p
    simp only at e
    refine hi σ H M ρ S xs S1 hs ok e1 _ fun J H1 M1 x1 ok1 it => ?_
    refine ⟨fun i m σi Hi => m = xs.length - i ∧ i ≤ xs.length ∧ ∃ (Mi : Adr) (ρi : Rho) (Si : Sto), Ext M1 H1 Mi Hi ∧ Ok K Mi Si Hi ∧ RSt K Mi Hi σi ρi ∧ forRun mg mb (xs.drop i) ρi Si = some (o, ρ', S'),
      ⟨xs.length, by omega, Nat.zero_le _, M1, ρ, S1, .refl, ok1, hs.mono x1, e⟩, ?_⟩
    rintro i m σi Hi ⟨rfl, hle, Mi, ρi, Si, xi, oki, hsi, er⟩
    have J1 := it Mi Hi Si xi.w oki i
    by_cases hlt : i < xs.length
    · refine .inr ⟨J1.2.1 hlt, fun σn Hn => ∃ (Mi : Adr) (ρi : Rho) (Si : Sto), Ext M1 H1 Mi Hn ∧ Ok K Mi Si Hn ∧ RSt K Mi Hn σn ρi ∧ forRun mg mb (xs.drop (i + 1)) ρi Si = some (o, ρ', S'), fun σn Hn hN => ⟨xs.length - (i + 1), by omega, rfl, by omega, hN⟩, fun x H2 hx => ?_⟩
      have ed : xs.drop i = xs[i] :: xs.drop (i + 1) := List.drop_eq_getElem_cons hlt
      rw [ed] at er
      unfold forRun at er
      obtain ⟨x2, ok2, r2⟩ := J1.2.2 x H2 xs[i] (List.getElem?_eq_getElem hlt) hx
      cases e2 : mg xs[i] ρi with
      | none => rw [e2] at er; cases er
      | some ρ1 =>
        rw [e2, Option.bind_some] at er
        refine hg _ H2 Mi ρi ρ1 x xs[i] (hsi.mono x2) r2 e2 _ fun σ' hs' => ?_
        cases e3 : mb ρ1 Si with
        | none => rw [e3] at er; cases er
        | some p3 =>
          rw [e3, Option.bind_some] at er
          obtain ⟨o3, ρ3, S3⟩ := p3
          have xx := xi.trans x2
          refine h M0 H0 σ' H2 Mi ρ1 Si o3 ρ3 S3 hb hl ((x0.trans x1).trans xx) hs' ok2 e3 _ ?_
          cases o3 with
          | nx => exact fun σ4 H4 M4 x4 ok4 hs4 => ⟨M4, ρ3, S3, xx.trans x4, ok4, hs4, er⟩
          | ct => exact fun σ4 H4 M4 x4 ok4 hs4 => ⟨M4, ρ3, S3, xx.trans x4, ok4, hs4, er⟩
          | bk => cases er; exact fun σ4 H4 M4 x4 ok4 hs4 => q σ4 H4 M4 ((x1.trans xx).trans x4) ok4 hs4
          | rt r => cases er; exact fun v H4 M4 x4 ok4 hr => q v H4 M4 ((x1.trans xx).trans x4) ok4 hr
    · refine .inl ⟨J1.1 (by omega), ?_⟩
      have e0 : xs.drop i = [] := List.drop_eq_nil_of_le (by omega)
      rw [e0] at er
      cases er
      exact q σi Hi Mi (x1.trans xi) oki hsi
def whRun (c : MT) (mb : MS) : Nat → Rho → Sto → Option (Out × Rho × Sto)
  | 0, _, _ => none
  | n + 1, ρ, S => (c ρ S).bind fun p => if p.1 then (mb ρ p.2).bind fun q => match q.1 with
      | .nx => whRun c mb n q.2.1 q.2.2
      | .ct => whRun c mb n q.2.1 q.2.2
      | .bk => some (.nx, q.2)
      | .rt r => some (.rt r, q.2)
    else some (.nx, ρ, p.2)
theorem imc_while {t : TT} {tb : TS} {c : MT} {mb : MS} {n : Nat} (hc : ImT K t c) (h : ImC K b tb mb) : ImC K b (tWhile t tb) (whRun c mb n) := fun M0 H0 σ H M ρ S o ρ' S' hb hl x0 hs ok e D q => by
  refine ⟨fun m σi Hi => ∃ (Mi : Adr) (ρi : Rho) (Si : Sto), Ext M H Mi Hi ∧ Ok K Mi Si Hi ∧ RSt K Mi Hi σi ρi ∧ whRun c mb m ρi Si = some (o, ρ', S'), ⟨n, M, ρ, S, .refl, ok, hs, e⟩, ?_⟩
  rintro m σi Hi ⟨Mi, ρi, Si, xi, oki, hsi, er⟩
  cases m with
  | zero => cases er
  | succ m =>
    unfold whRun at er
    cases e1 : c ρi Si with
    | none => rw [e1] at er; cases er
    | some p =>
      rw [e1, Option.bind_some] at er
      obtain ⟨y, S1⟩ := p
      refine hc σi Hi Mi ρi Si y S1 hsi oki e1 _ fun H1 M1 x1 ok1 => ?_
      cases y with
      | false =>
        rw [if_neg Bool.false_ne_true]
        rw [if_neg Bool.false_ne_true] at er
        cases er
        exact q σi H1 M1 (xi.trans x1) ok1 (hsi.mono x1)
      | true =>
        rw [if_pos rfl]
        rw [if_pos rfl] at er
        cases e3 : mb ρi S1 with
        | none => rw [e3] at er; cases er
        | some p3 =>
          rw [e3, Option.bind_some] at er
          obtain ⟨o3, ρ3, S3⟩ := p3
          have xx := xi.trans x1
          refine ⟨fun σn Hn => ∃ (Mi : Adr) (ρi : Rho) (Si : Sto), Ext M H Mi Hn ∧ Ok K Mi Si Hn ∧ RSt K Mi Hn σn ρi ∧ whRun c mb m ρi Si = some (o, ρ', S'), fun σn Hn hN => ⟨m, Nat.lt_succ_self m, hN⟩, ?_⟩
          refine h M0 H0 σi H1 M1 ρi S1 o3 ρ3 S3 hb hl (x0.trans xx) (hsi.mono x1) ok1 e3 _ ?_
          cases o3 with
          | nx => exact fun σ4 H4 M4 x4 ok4 hs4 => ⟨M4, ρ3, S3, xx.trans x4, ok4, hs4, er⟩
          | ct => exact fun σ4 H4 M4 x4 ok4 hs4 => ⟨M4, ρ3, S3, xx.trans x4, ok4, hs4, er⟩
          | bk => cases er; exact fun σ4 H4 M4 x4 ok4 hs4 => q σ4 H4 M4 (xx.trans x4) ok4 hs4
          | rt r => cases er; exact fun v H4 M4 x4 ok4 hr => q v H4 M4 (xx.trans x4) ok4 hr

/-! ### defs and their calls -/
def mDef (np ns : Nat) (body : Nat → MS) : Fn := fun as S => if as.length = np then (body S.length (as.map some ++ List.replicate (ns - np) none) S).bind fun p => match p.1 with
    | .nx => some (.val .none, p.2.2.take S.length)
    | .rt r => some (r, p.2.2.take S.length)
    | _ => none
  else none
def PostF (K : PySem.W.Frag) (M : Adr) (H : Hp) (S' : Sto) (Q : VK) : Rt → Prop
  | .val d => ∀ v H' M', Ext M H M' H' → Ok K M' S' H' → Rl K M' H' v d → Q v H'
  | .new ds => ∀ a vs H' M', Ext M H M' H' → Ok K M' S' H' → H a = none → H' a = some (.lst vs) → a ∈ M'.g → RlA K M' H' vs ds → Q (.ref a) H'
def spD (K : PySem.W.Frag) (np : Nat) (g : Fn) : Sp := fun vs H Q _ => vs.length = np ∧ ∃ (M : Adr) (S : Sto) (as : List Sl) (r : Rt) (S' : Sto), Ok K M S H ∧ RSlA K M H vs as ∧ g as S = some (r, S') ∧ PostF K M H S' Q r
theorem RSlA.st {vs : List V} {as : List Sl} (h : RSlA K M H vs as) (k : Nat) : RSt K M H (vs.map some ++ List.replicate k none) (as.map some ++ List.replicate k none) := by
  induction h with
  | nil =>
    refine ⟨by simp, fun i s e => ?_⟩
    simp only [List.map_nil, List.nil_append] at e
    have := List.getElem?_eq_some_iff.mp e
    obtain ⟨h1, h2⟩ := this
    rw [List.getElem_replicate] at h2
    cases h2
  | @cons v vs s ss h1 h2 ih =>
    refine ⟨by simpa using ih.len, fun i t e => ?_⟩
    cases i with
    | zero => cases e; exact ⟨v, rfl, h1⟩
    | succ i => exact ih.at_ i t e
theorem start_eq {N : List Str} {vs : List V} {n : Nat} (h : vs.length = n) : L2.start N vs = vs.map some ++ List.replicate (N.length - n) none := by
  unfold L2.start
  rw [h]
theorem ok_take {S2 : Sto} {n : Nat} (ok : Ok K M' S2 H') (hn : n ≤ M'.c.length) : Ok K (M'.tk n) (S2.take n) H' :=
  ⟨by show (M'.c.take n).length = _; rw [List.length_take, List.length_take, ok.len], fun i j a h1 h2 => by
    have g : ∀ i, (M'.c.take n)[i]? = some (some a) → M'.c[i]? = some (some a) := fun i h => by
      have hi : i < n := by
        have := (List.getElem?_eq_some_iff.mp h).1
        rw [List.length_take] at this; omega
      rw [List.getElem?_take_of_lt hi] at h; exact h
    exact ok.inj i j a (g i h1) (g j h2), fun k xs e => by
    have hk : k < n := by
      have := (List.getElem?_eq_some_iff.mp e).1
      rw [List.length_take] at this; omega
    rw [List.getElem?_take_of_lt hk] at e
    obtain ⟨a, vs, c1, c2, c3⟩ := ok.cell k xs e
    exact ⟨a, vs, by show (M'.c.take n)[k]? = _; rw [List.getElem?_take_of_lt hk]; exact c1, c2, c3.anti fun _ => Adr.tkmem⟩, fun a h => ok.lst a (Adr.tkmem h), fun a h => ok.dj a (List.mem_of_mem_take h)⟩
theorem ok_takeg {S2 : Sto} {n : Nat} {a : Addr} (ok : Ok K M' S2 H') (hn : n ≤ M'.c.length) (ha : M'.mem a) (hc : some a ∉ M'.c.take n) : Ok K ((M'.tk n).gh a) (S2.take n) H' :=
  have o := ok_take ok hn
  have sub : ∀ c, ((M'.tk n).gh a).mem c → M'.mem c := fun c z => by
    rcases z with z | z
    · exact .inl (List.mem_of_mem_take z)
    · rcases List.mem_cons.mp z with z | z
      · rw [z]; exact ha
      · exact .inr z
  ⟨o.len, o.inj, fun k xs e => by
    have hk : k < n := by
      have := (List.getElem?_eq_some_iff.mp e).1
      rw [List.length_take] at this; omega
    rw [List.getElem?_take_of_lt hk] at e
    obtain ⟨c, vs, c1, c2, c3⟩ := ok.cell k xs e
    exact ⟨c, vs, by show (M'.c.take n)[k]? = _; rw [List.getElem?_take_of_lt hk]; exact c1, c2, c3.anti sub⟩, fun c h => ok.lst c (sub c h), fun c h z => by
    rcases List.mem_cons.mp z with z | z
    · rw [z] at h; exact hc h
    · exact o.dj c h z⟩
theorem ext_tk {n : Nat} (x : Ext M H M' H') (hn : M.c.length = n) : Ext M H (M'.tk n) H' :=
  ⟨fun i a h => by
    have h : (M'.c.take n)[i]? = some (some a) := h
    have hi : i < n := by
      have := (List.getElem?_eq_some_iff.mp h).1
      rw [List.length_take] at this; omega
    rw [List.getElem?_take_of_lt hi] at h
    exact x.subn i a h, x.gs, x.gk, fun i a h => by
    have hi : i < n := by rw [← hn]; exact (List.getElem?_eq_some_iff.mp h).1
    show (M'.c.take n)[i]? = _ ∨ (M'.c.take n)[i]? = _
    rw [List.getElem?_take_of_lt hi]
    exact x.pos i a h, fun i h => by
    have hi : i < n := by rw [← hn]; exact (List.getElem?_eq_some_iff.mp h).1
    show (M'.c.take n)[i]? = _
    rw [List.getElem?_take_of_lt hi]
    exact x.dead i h, x.keep, x.free⟩
theorem ext_gh {a : Addr} (x : Ext M H M' H') (h : H a = none) : Ext M H (M'.gh a) H' :=
  ⟨x.subn, fun c z => (List.mem_cons.mp z).elim (fun e => .inr (by rw [e]; exact h)) (x.gs c), fun c z => List.mem_cons_of_mem _ (x.gk c z), x.pos, x.dead, x.keep, x.free⟩
/-- THE RULE for a def -/
theorem def_ok {P : Program} {w : World} {mg : Str → Option Value} {base : Heap} {x qual : Str} {st : Stmt} {f : Addr} {fd : FuncData} {N ps : List Str} {k np ns : Nat} {body : Nat → MS} (F : Fun K x qual st f fd) (Sc : FnScope N ps (defScope st)) (hp : ps.length = np) (hN : N.length = ns)
    (h : ∀ (cdv : Value) (A : Around) (outer : List Env) (s : Shared) (H : Hp) (E : XK) (b : Nat), Room k (A.deeper (PyProof.Rows.envOfC qual (defScope st) s.heap.objs.size f cdv)) →
      ∃ t, PSs (cxOf CX0 P w K mg base N qual (defScope st) f cdv A outer s H E).nox (defBody st) t ∧ ImC K b t (body b)) : FnOk P w K mg base CX0 (k + 1) f fd ps (spD K np (mDef np ns body)) := by
  refine F.ok Sc (fun vs H Q E h => by rw [hp]; exact h.1) (fun cdv A outer s H vs Q E hr hsp => ?_)
  obtain ⟨hn, M, S, as, r, S', ok, ra, e, q⟩ := hsp
  obtain ⟨t, h1, h2⟩ := h cdv A outer s H E S.length hr
  refine ⟨t, h1, ?_⟩
  unfold mDef at e
  have ha : as.length = np := by rw [← ra.len]; exact hn
  rw [if_pos ha] at e
  rw [start_eq hn, hN]
  cases e1 : body S.length (as.map some ++ List.replicate (ns - np) none) S with
  | none => rw [e1] at e; cases e
  | some p =>
    rw [e1, Option.bind_some] at e
    obtain ⟨o, ρ', S2⟩ := p
    refine h2 M H _ H M _ S o ρ' S2 ok.len ok.lst .refl (ra.st _) ok e1 _ ?_
    cases o with
    | bk => cases e
    | ct => cases e
    | nx =>
      cases e
      exact fun σ' H' M' x' ok' _ => q _ _ _ (ext_tk x' ok.len) (ok_take ok' (by rw [← ok.len]; exact x'.len)) .non
    | rt r' =>
      cases e
      intro v H' M' x' ok' hr'
      cases r with
      | val d => exact q _ _ _ (ext_tk x' ok.len) (ok_take ok' (by rw [← ok.len]; exact x'.len)) hr'
      | new ds =>
        obtain ⟨a, vs', rfl, n0, n1, n2, n3, n4⟩ := hr'
        refine q a vs' H' ((M'.tk S.length).gh a) (ext_gh (ext_tk x' ok.len) n0) (ok_takeg ok' (by rw [← ok.len]; exact x'.len) n2 n3) n0 n1 List.mem_cons_self (n4.anti fun c z => ?_)
        rcases z with z | z
        · exact .inl (List.mem_of_mem_take z)
        · rcases List.mem_cons.mp z with z | z
          · rw [z]; exact n2
          · exact .inr z
/-- nothing is known of a call with no level left -/
theorem def_0 {P : Program} {w : World} {mg : Str → Option Value} {base : Heap} {f : Addr} {fd : FuncData} {ps : List Str} {k np : Nat} {g : Fn} (hg : ∀ as S, g as S = none) : FnOk P w K mg base CX0 k f fd ps (spD K np g) := by
  have no : ∀ vs H Q E, ¬ spD K np g vs H Q E := fun vs H Q E h => by
    obtain ⟨_, M, S, as, r, S', _, _, e, _⟩ := h
    rw [hg] at e
    cases e
  exact ⟨fun vs H Q E h => absurd h (no vs H Q E), fun A outer s H args us vs Q E _ _ _ _ h => absurd h (no vs H Q E)⟩
/-- a call: data, or a new list -/
def rtD : Rt → D
  | .val d => d
  | .new ds => .list ds
def rtN : Rt → Option (List D)
  | .new ds => some ds
  | _ => none
def mCall (np : Nat) (g : Fn) (m : MA) : ME := fun ρ S => (m ρ S).bind fun p => if p.1.length = np then (g p.1 p.2).map fun q => (rtD q.1, q.2) else none
def mCallN (np : Nat) (g : Fn) (m : MA) : MN := fun ρ S => (m ρ S).bind fun p => if p.1.length = np then (g p.1 p.2).bind fun q => (rtN q.1).map fun xs => (xs, q.2) else none
theorem im_callN {g : Fn} {np : Nat} {t : TA} {m : MA} {E : XK} (h : ImA K t m) : ImN K (tCall (spD K np g) [] E t) (mCallN np g m) := fun σ H M ρ S xs S' hs ok e Q q => by
  unfold mCallN at e
  cases e1 : m ρ S with
  | none => rw [e1] at e; cases e
  | some p =>
    rw [e1, Option.bind_some] at e
    split at e <;> first | (cases e; done) | skip
    rename_i hnp
    cases e2 : g p.1 p.2 with
    | none => rw [e2] at e; cases e
    | some p2 =>
      rw [e2, Option.bind_some] at e
      obtain ⟨r, S2⟩ := p2
      cases r <;> cases e
      refine h σ H M ρ S p.1 p.2 hs ok e1 _ fun vs H1 M1 x1 ok1 r1 => ?_
      show spD K np g (vs ++ []) H1 Q E
      rw [List.append_nil]
      exact ⟨by rw [r1.len]; exact hnp, M1, p.2, p.1, _, _, ok1, r1, e2, fun a ws H2 M2 x2 ok2 n0 n1 n2 r2 => q a ws H2 M2 (x1.trans x2) ok2 (x1.free a n0) n1 n2 r2⟩
theorem im_call {g : Fn} {np : Nat} {t : TA} {m : MA} {E : XK} (h : ImA K t m) : ImE K (tCall (spD K np g) [] E t) (mCall np g m) := fun σ H M ρ S d S' hs ok e Q q => by
  unfold mCall at e
  cases e1 : m ρ S with
  | none => rw [e1] at e; cases e
  | some p =>
    rw [e1, Option.bind_some] at e
    split at e <;> first | (cases e; done) | skip
    rename_i hnp
    cases e2 : g p.1 p.2 with
    | none => rw [e2] at e; cases e
    | some p2 =>
      rw [e2] at e
      obtain ⟨r, S2⟩ := p2
      cases e
      refine h σ H M ρ S p.1 p.2 hs ok e1 _ fun vs H1 M1 x1 ok1 r1 => ?_
      show spD K np g (vs ++ []) H1 Q E
      rw [List.append_nil]
      refine ⟨by rw [r1.len]; exact hnp, M1, p.2, p.1, r, _, ok1, r1, e2, ?_⟩
      cases r with
      | val d => exact fun v H2 M2 x2 ok2 r2 => q v H2 M2 (x1.trans x2) ok2 r2
      | new ds => exact fun a ws H2 M2 x2 ok2 n0 n1 n2 r2 => q _ H2 (M2.ug M1) (x1.trans x2.ungh) (ok2.ug x2.gk) (.lst (.inl ⟨.inl n1, fun z => z.elim (fun z => ok2.dj a z n2) fun z => ok1.notin n0 (.inr z)⟩) (r2.anti fun _ z => x2.ugmem z))
end
end G
set_option Elab.async false
set_option linter.all false
set_option autoImplicit false
set_option maxRecDepth 100000
set_option maxHeartbeats 4000000
namespace G
open PySem L2

/-- contexts that are alike: a def's body, a comprehension's block however it starts -/
structure Fam (ι : Type) where
  X : ι → Cx
  K : PySem.W.Frag
  k : Nat
  hK : ∀ i, (X i).K = K
  calm : ∀ i, (X i).calm = true
  room : ∀ i, Room k (X i).A
  nd : ∀ i, (X i).N.Nodup
abbrev BI := Shared × Hp × Addr × List (Str × Addr) × List Addr
def Fam.blk {ι : Type} (F : Fam ι) (scope : Scope) : Fam (ι × BI) where
  X := fun p => (F.X p.1).blk p.2.1 p.2.2.1 scope (compEnvC scope p.2.2.2.2.1 p.2.2.2.1 (F.X p.1).env) p.2.2.2.2.2
  K := F.K
  k := F.k
  hK := fun p => F.hK p.1
  calm := fun p => F.calm p.1
  room := fun p => F.room p.1
  nd := fun p => F.nd p.1
section
variable {ι : Type} (F : Fam ι)
def PDE (e : Expr) (m : ME) : Prop := ∃ t, (∀ i, PE (F.X i) e t) ∧ ImE F.K t m
def PDN (e : Expr) (m : MN) : Prop := ∃ t, (∀ i, PE (F.X i) e t) ∧ ImN F.K t m
def PDQ (e : Expr) (m : MN) : Prop := ∃ t, (∀ i, PE (F.X i) e t) ∧ ImQ F.K t m
def PDL (e : Expr) (m : MN) : Prop := ∃ t, (∀ i, PE (F.X i) e t) ∧ ImL F.K t m
def PDT (e : Expr) (m : MT) : Prop := ∃ t, (∀ i, PT (F.X i) e t) ∧ ImT F.K t m
def PDW (e : Expr) (m : MT) : Prop := ∃ t, (∀ i, PW (F.X i) e t) ∧ ImT F.K t m
def PDA (es : List Expr) (m : MA) : Prop := ∃ t, (∀ i, PA (F.X i) es t) ∧ ImA F.K t m
def PDO (e : Option Expr) (m : MO) : Prop := ∃ t, (∀ i, PO (F.X i) e t) ∧ ImO F.K t m
def PDG (e : Expr) (m : MG) : Prop := ∃ t, (∀ i, PG (F.X i) e t) ∧ ImG F.K t m
def PDGs (e : List Expr) (m : MGs) : Prop := ∃ t, (∀ i, PGs (F.X i) e t) ∧ ImGs F.K t m
def PDI (tg e : Expr) (m : MN) : Prop := ∃ t, (∀ i, PI (F.X i) tg e t) ∧ ImI F.K t m
def PDTs (e : List Expr) (m : MT) : Prop := ∃ t, (∀ i, PTs (F.X i) e t) ∧ ImT F.K t m
def PDS (b : Nat) (st : Stmt) (m : MS) : Prop := ∃ t, (∀ i, PS (F.X i) st t) ∧ ImC F.K b t m
def PDSs (b : Nat) (st : List Stmt) (m : MS) : Prop := ∃ t, (∀ i, PSs (F.X i) st t) ∧ ImC F.K b t m
end
section
variable {ι : Type} {F : Fam ι} {a e c : Expr} {es : List Expr} {ma mb mc me : ME} {mn mn2 : MN} {mt mt2 : MT} {m : MA} {pos : Pos} {b : Nat}
/-! ### names, constants -/
theorem d_var (j : Nat) {x : Str} (hN : ∀ i, (F.X i).N[j]? = some x := by exact fun _ => rfl) (hv : ∀ i, Vis (F.X i).env.scope x := by first | exact fun _ => Or.inl rfl | exact fun _ => Or.inr (Or.inl rfl) | exact fun _ => Or.inr (Or.inr rfl))
    (hd : (x == ("__debug__" : Str)) = false := by decide) (hcd : (x == ("__classdict__" : Str)) = false := by decide) : PDE F (.Name x pos) (mVar j) := ⟨_, fun i => pe_var (hN i) (hv i) hd hcd, im_var j⟩
theorem d_qvar (j : Nat) {x : Str} (hN : ∀ i, (F.X i).N[j]? = some x := by exact fun _ => rfl) (hv : ∀ i, Vis (F.X i).env.scope x := by first | exact fun _ => Or.inl rfl | exact fun _ => Or.inr (Or.inl rfl) | exact fun _ => Or.inr (Or.inr rfl))
    (hd : (x == ("__debug__" : Str)) = false := by decide) (hcd : (x == ("__classdict__" : Str)) = false := by decide) : PDQ F (.Name x pos) (mQVar j) := ⟨_, fun i => pe_var (hN i) (hv i) hd hcd, im_qvar j⟩
theorem d_lvar (j : Nat) {x : Str} (hN : ∀ i, (F.X i).N[j]? = some x := by exact fun _ => rfl) (hv : ∀ i, Vis (F.X i).env.scope x := by first | exact fun _ => Or.inl rfl | exact fun _ => Or.inr (Or.inl rfl) | exact fun _ => Or.inr (Or.inr rfl))
    (hd : (x == ("__debug__" : Str)) = false := by decide) (hcd : (x == ("__classdict__" : Str)) = false := by decide) : PDL F (.Name x pos) (mLVar j) := ⟨_, fun i => pe_var (hN i) (hv i) hd hcd, im_lvar j⟩
theorem d_int {n : Int} {j} : PDE F (.Constant (.int n) j pos) (mC (.int n)) := ⟨_, fun _ => pe_int, im_int n⟩
theorem d_bl {n : Bool} {j} : PDE F (.Constant (.bool n) j pos) (mC (.bool n)) := ⟨_, fun _ => pe_bl, im_bl n⟩
theorem d_str {n : Str} {j} : PDE F (.Constant (.str n) j pos) (mC (.str n)) := ⟨_, fun _ => pe_str, im_str n⟩
theorem d_non {j} : PDE F (.Constant .none j pos) (mC .none) := ⟨_, fun _ => pe_non, im_non⟩
/-- a module's int -/
theorem d_glob {n : Int} {t : Tok} {x : Str} (hm : ∀ i, (F.X i).mg x = some (.int n t)) (hg : ∀ i, Gl (F.X i) x := by exact fun _ => rfl) (hd : (x == ("__debug__" : Str)) = false := by decide) : PDE F (.Name x pos) (mC (.int n)) :=
  ⟨_, fun i => pe_glob (v := .int n) (hg i) (hm i) ⟨t, rfl⟩ hd, im_int n⟩
/-! ### kinds -/
theorem d_qe (h : PDE F e me) : PDQ F e (mQE me) := let ⟨t, h1, h2⟩ := h; ⟨t, h1, im_qe h2⟩
theorem d_le (h : PDE F e me) : PDL F e (mLE me) := let ⟨t, h1, h2⟩ := h; ⟨t, h1, im_le h2⟩
theorem d_qn (h : PDN F e mn) : PDQ F e mn := let ⟨t, h1, h2⟩ := h; ⟨t, h1, im_qn h2⟩
theorem d_ln (h : PDN F e mn) : PDL F e mn := let ⟨t, h1, h2⟩ := h; ⟨t, h1, im_ln h2⟩
theorem d_en (h : PDN F e mn) : PDE F e (mEN mn) := let ⟨t, h1, h2⟩ := h; ⟨t, h1, im_en h2⟩
/-! ### operators -/
theorem d_add (h1 : PDE F a ma) (h2 : PDE F e mb) : PDE F (.BinOp a .Add e pos) (mOp fAdd ma mb) := by
  obtain ⟨t1, p1, q1⟩ := h1
  obtain ⟨t2, p2, q2⟩ := h2
  exact ⟨_, fun i => pe_op (by have := op_addX (X := F.X i); rw [F.hK i] at this; exact this) (p1 i) (p2 i), im_op imr_add q1 q2⟩
theorem d_sub (h1 : PDE F a ma) (h2 : PDE F e mb) : PDE F (.BinOp a .Sub e pos) (mOp fSub ma mb) := by
  obtain ⟨t1, p1, q1⟩ := h1
  obtain ⟨t2, p2, q2⟩ := h2
  exact ⟨_, fun i => pe_op op_sub (p1 i) (p2 i), im_op imr_sub q1 q2⟩
theorem d_mul (h1 : PDE F a ma) (h2 : PDE F e mb) : PDE F (.BinOp a .Mult e pos) (mOp fMul ma mb) := by
  obtain ⟨t1, p1, q1⟩ := h1
  obtain ⟨t2, p2, q2⟩ := h2
  exact ⟨_, fun i => pe_op op_mul (p1 i) (p2 i), im_op imr_mul q1 q2⟩
theorem d_div (h1 : PDE F a ma) (h2 : PDE F e mb) : PDE F (.BinOp a .FloorDiv e pos) (mOp fDiv ma mb) := by
  obtain ⟨t1, p1, q1⟩ := h1
  obtain ⟨t2, p2, q2⟩ := h2
  exact ⟨_, fun i => pe_op op_fdiv (p1 i) (p2 i), im_op imr_div q1 q2⟩
theorem d_mod (h1 : PDE F a ma) (h2 : PDE F e mb) : PDE F (.BinOp a .Mod e pos) (mOp fMod ma mb) := by
  obtain ⟨t1, p1, q1⟩ := h1
  obtain ⟨t2, p2, q2⟩ := h2
  exact ⟨_, fun i => pe_op op_mod (p1 i) (p2 i), im_op imr_mod q1 q2⟩
theorem d_pow (h1 : PDE F a ma) (h2 : PDE F e mb) : PDE F (.BinOp a .Pow e pos) (mOp fPow ma mb) := by
  obtain ⟨t1, p1, q1⟩ := h1
  obtain ⟨t2, p2, q2⟩ := h2
  exact ⟨_, fun i => pe_op op_pow (p1 i) (p2 i), im_op imr_pow q1 q2⟩
theorem d_neg (h1 : PDE F a ma) : PDE F (.UnaryOp .USub a pos) (mUn fNeg ma) := by
  obtain ⟨t1, p1, q1⟩ := h1
  exact ⟨_, fun i => pe_un un_neg (p1 i), im_un imu_neg q1⟩
/-- [..] + [..] -/
theorem d_cat (h1 : PDN F a mn) (h2 : PDN F e mn2) : PDN F (.BinOp a .Add e pos) (mCat mn mn2) := by
  obtain ⟨t1, p1, q1⟩ := h1
  obtain ⟨t2, p2, q2⟩ := h2
  exact ⟨_, fun i => pe_op op_cat (p1 i) (p2 i), im_catN q1 q2⟩
/-! ### comparisons: the rule of a sign, by data -/
def CmpOk (F : Fam ι) (op : CmpOp) (f : D → D → Option D) : Prop := ∃ r, (∀ i, OpR (F.X i) (compareOp op) r) ∧ ImR F.K r f
theorem k_units (F : Fam ι) (i : ι) : (F.X i).A.units + 64 < cLine := by have := (F.room i).un; omega
theorem k_eq : CmpOk F .Eq fEq := ⟨_, fun i => by have := op_eqD (X := F.X i) (k_units F i); rw [F.hK i] at this; exact this, imr_eq⟩
theorem k_ne : CmpOk F .NotEq fNe := ⟨_, fun i => by have := op_neD (X := F.X i) (k_units F i); rw [F.hK i] at this; exact this, imr_ne⟩
theorem k_lt : CmpOk F .Lt fLt := ⟨_, fun _ => op_lt, imr_lt⟩
theorem k_le : CmpOk F .LtE fLe := ⟨_, fun _ => op_le, imr_le⟩
theorem k_gt : CmpOk F .Gt fGt := ⟨_, fun _ => op_gt, imr_gt⟩
theorem k_ge : CmpOk F .GtE fGe := ⟨_, fun _ => op_ge, imr_ge⟩
def fIs (x y : D) : Option D := (fIsB x y).or (fIsN x y)
def fIsNot (x y : D) : Option D := (fNotB x y).or (fNotN x y)
theorem k_is : CmpOk F .Is fIs := ⟨_, fun _ => OpR.or op_is_bl op_isN, imr_or imr_isB imr_isN⟩
theorem k_isnot : CmpOk F .IsNot fIsNot := ⟨_, fun _ => OpR.or op_isnot_bl op_notN, imr_or imr_notB imr_notN⟩
theorem d_cmp {op : CmpOp} {f : D → D → Option D} (k : CmpOk F op f) (h1 : PDE F a ma) (h2 : PDE F e mb) (hm : behindInMarks op e = false := by exact nomark _) : PDE F (.Compare a [op] [e] pos) (mOp f ma mb) := by
  obtain ⟨r, k1, k2⟩ := k
  obtain ⟨t1, p1, q1⟩ := h1
  obtain ⟨t2, p2, q2⟩ := h2
  exact ⟨_, fun i => pe_cmpR (k1 i) (p1 i) (p2 i) hm, im_op k2 q1 q2⟩
theorem d_cmpT {op : CmpOp} {f : D → D → Option D} (k : CmpOk F op f) (h1 : PDE F a ma) (h2 : PDE F e mb) (hm : behindInMarks op e = false := by exact nomark _) : PDT F (.Compare a [op] [e] pos) (mTB (mOp f ma mb)) := by
  obtain ⟨r, k1, k2⟩ := k
  obtain ⟨t1, p1, q1⟩ := h1
  obtain ⟨t2, p2, q2⟩ := h2
  exact ⟨_, fun i => pt_cmpR (k1 i) (p1 i) (p2 i) hm, im_tt (im_op k2 q1 q2)⟩
theorem d_chain {op op' : CmpOp} {f g : D → D → Option D} (k : CmpOk F op f) (k' : CmpOk F op' g) (h1 : PDE F a ma) (h2 : PDE F e mb) (h3 : PDE F c mc) (hm : lastMarks [op, op'] [e, c] = false := by with_unfolding_all rfl) :
    PDE F (.Compare a [op, op'] [e, c] pos) (mChain f g ma mb mc) := by
  obtain ⟨r, k1, k2⟩ := k
  obtain ⟨r', k1', k2'⟩ := k'
  obtain ⟨t1, p1, q1⟩ := h1
  obtain ⟨t2, p2, q2⟩ := h2
  obtain ⟨t3, p3, q3⟩ := h3
  exact ⟨_, fun i => pe_chain (k1 i) (k1' i) (p1 i) (p2 i) (p3 i) hm, im_chain k2 k2' q1 q2 q3⟩
theorem d_chainT {op op' : CmpOp} {f g : D → D → Option D} (k : CmpOk F op f) (k' : CmpOk F op' g) (h1 : PDE F a ma) (h2 : PDE F e mb) (h3 : PDE F c mc) (hm : lastMarks [op, op'] [e, c] = false := by with_unfolding_all rfl) :
    PDT F (.Compare a [op, op'] [e, c] pos) (mTB (mChain f g ma mb mc)) := by
  obtain ⟨r, k1, k2⟩ := k
  obtain ⟨r', k1', k2'⟩ := k'
  obtain ⟨t1, p1, q1⟩ := h1
  obtain ⟨t2, p2, q2⟩ := h2
  obtain ⟨t3, p3, q3⟩ := h3
  exact ⟨_, fun i => pt_chain (k1 i) (k1' i) (p1 i) (p2 i) (p3 i) hm, im_tt (im_chain k2 k2' q1 q2 q3)⟩
/-! ### tests -/
theorem d_tv (h : PDE F e me) (he : ∀ i whole, isTrue e (F.X i).env whole = (do let v ← whole; standAt e.pos; holding [v] (truthy v)) := by intro _ _; rfl) : PDT F e (mTru me) := by
  obtain ⟨t, p, q⟩ := h
  exact ⟨_, fun i => by have := pt_truth (p i) (he i); rw [F.hK i] at this; exact this, im_tru q⟩
theorem d_tq (h : PDQ F e mn) (he : ∀ i whole, isTrue e (F.X i).env whole = (do let v ← whole; standAt e.pos; holding [v] (truthy v)) := by intro _ _; rfl) : PDT F e (mTruQ mn) := by
  obtain ⟨t, p, q⟩ := h
  exact ⟨_, fun i => by have := pt_truth (p i) (he i); rw [F.hK i] at this; exact this, im_truQ q⟩
theorem d_not (h : PDT F e mt) : PDT F (.UnaryOp .Not e pos) (mNot mt) := let ⟨t, p, q⟩ := h; ⟨_, fun i => pt_not (p i), im_not q⟩
theorem d_w (h : PDW F e mt) : PDT F e mt := let ⟨t, p, q⟩ := h; ⟨_, fun i => (p i).pt, q⟩
theorem d_and1 (h : PDT F e mt) : PDW F (.BoolOp .And [e] pos) mt := let ⟨t, p, q⟩ := h; ⟨_, fun i => pw_and1 (p i), q⟩
theorem d_or1 (h : PDT F e mt) : PDW F (.BoolOp .Or [e] pos) mt := let ⟨t, p, q⟩ := h; ⟨_, fun i => pw_or1 (p i), q⟩
theorem d_and (h : PDT F a mt) (h2 : PDW F (.BoolOp .And (e :: es) pos) mt2) : PDW F (.BoolOp .And (a :: e :: es) pos) (mAnd mt mt2) := by
  obtain ⟨t, p, q⟩ := h
  obtain ⟨t2, p2, q2⟩ := h2
  exact ⟨_, fun i => pw_and (p i) (p2 i), im_and q q2⟩
theorem d_or (h : PDT F a mt) (h2 : PDW F (.BoolOp .Or (e :: es) pos) mt2) : PDW F (.BoolOp .Or (a :: e :: es) pos) (mOr mt mt2) := by
  obtain ⟨t, p, q⟩ := h
  obtain ⟨t2, p2, q2⟩ := h2
  exact ⟨_, fun i => pw_or (p i) (p2 i), im_or q q2⟩
theorem d_one {op} (h : PDE F e me) : PDE F (.BoolOp op [e] pos) me := let ⟨t, p, q⟩ := h; ⟨_, fun i => pe_one (p i), q⟩
theorem d_andV (h : PDE F a ma) (h2 : PDE F (.BoolOp .And (e :: es) pos) mb) : PDE F (.BoolOp .And (a :: e :: es) pos) (mAndV ma mb) := by
  obtain ⟨t, p, q⟩ := h
  obtain ⟨t2, p2, q2⟩ := h2
  exact ⟨_, fun i => pe_and (p i) (p2 i), im_andV q q2⟩
theorem d_orV (h : PDE F a ma) (h2 : PDE F (.BoolOp .Or (e :: es) pos) mb) : PDE F (.BoolOp .Or (a :: e :: es) pos) (mOrV ma mb) := by
  obtain ⟨t, p, q⟩ := h
  obtain ⟨t2, p2, q2⟩ := h2
  exact ⟨_, fun i => pe_or (p i) (p2 i), im_orV q q2⟩
theorem d_notV (h : PDE F e me) : PDE F (.UnaryOp .Not e pos) (mNotV me) := let ⟨t, p, q⟩ := h; ⟨_, fun i => pe_not (p i), im_notV q⟩
theorem d_ifE (h : PDT F c mt) (h1 : PDE F a ma) (h2 : PDE F e mb) : PDE F (.IfExp c a e pos) (mIf mt ma mb) := by
  obtain ⟨t, p, q⟩ := h
  obtain ⟨t1, p1, q1⟩ := h1
  obtain ⟨t2, p2, q2⟩ := h2
  exact ⟨_, fun i => pe_ifExp (p i) (p1 i) (p2 i), im_if q q1 q2⟩
/-! ### subscripts, displays -/
theorem d_ix (h1 : PDE F a ma) (h2 : PDE F e mb) (hs : PlainIx e := by exact fun _ _ => rfl) : PDE F (.Subscript a e pos) (mOp fIx ma mb) := by
  obtain ⟨t1, p1, q1⟩ := h1
  obtain ⟨t2, p2, q2⟩ := h2
  exact ⟨_, fun i => pe_ix (by have := ix_seq (X := F.X i); rw [F.hK i] at this; exact this) (p1 i) (p2 i) hs, im_op imr_ix q1 q2⟩
theorem d_ixV (j : Nat) {x : Str} {px : Pos} (h2 : PDE F e mb) (hN : ∀ i, (F.X i).N[j]? = some x := by exact fun _ => rfl) (hv : ∀ i, Vis (F.X i).env.scope x := by first | exact fun _ => Or.inl rfl | exact fun _ => Or.inr (Or.inl rfl) | exact fun _ => Or.inr (Or.inr rfl))
    (hd : (x == ("__debug__" : Str)) = false := by decide) (hcd : (x == ("__classdict__" : Str)) = false := by decide) (hs : PlainIx e := by exact fun _ _ => rfl) : PDE F (.Subscript (.Name x px) e pos) (mIxV j mb) := by
  obtain ⟨t2, p2, q2⟩ := h2
  exact ⟨_, fun i => pe_ix (by have := ix_seq (X := F.X i); rw [F.hK i] at this; exact this) (pe_var (hN i) (hv i) hd hcd) (p2 i) hs, im_ixV q2⟩
theorem d_o0 : PDO F none mO0 := ⟨_, fun _ => po_none, im_o0⟩
theorem d_o1 (h : PDE F e me) : PDO F (some e) (mO1 me) := let ⟨t, p, q⟩ := h; ⟨_, fun i => po_some (p i), im_o1 q⟩
theorem d_slT {lo hi : Option Expr} {ml mh : MO} {p2 : Pos} (h : PDE F e me) (hl : PDO F lo ml) (hh : PDO F hi mh) : PDE F (.Subscript e (.Slice lo hi none p2) pos) (mSlT me ml mh) := by
  obtain ⟨t, p, q⟩ := h
  obtain ⟨t1, p1, q1⟩ := hl
  obtain ⟨t2, p2, q2⟩ := hh
  exact ⟨_, fun i => pe_slice (by have := sl_tupA (X := F.X i); rw [F.hK i] at this; exact this) (p i) (p1 i) (p2 i), im_slT q q1 q2⟩
theorem d_slL {lo hi : Option Expr} {ml mh : MO} {p2 : Pos} (h : PDE F e me) (hl : PDO F lo ml) (hh : PDO F hi mh) : PDN F (.Subscript e (.Slice lo hi none p2) pos) (mSlL (mLE me) ml mh) := by
  obtain ⟨t, p, q⟩ := h
  obtain ⟨t1, p1, q1⟩ := hl
  obtain ⟨t2, p2, q2⟩ := hh
  exact ⟨_, fun i => pe_slice (by have := sl_list (X := F.X i); rw [F.hK i] at this; exact this) (p i) (p1 i) (p2 i), im_slL q q1 q2⟩
theorem d_a0 : PDA F [] mA0 := ⟨_, fun _ => pa_nil, im_a0⟩
theorem d_a1 (h : PDE F e me) (hr : PDA F es m) (hs : ∀ i, starEach (e :: es) (F.X i).env = (false, eval e (F.X i).env) :: starEach es (F.X i).env := by intro _; rfl) : PDA F (e :: es) (mA1 me m) := by
  obtain ⟨t, p, q⟩ := h
  obtain ⟨t1, p1, q1⟩ := hr
  exact ⟨_, fun i => pa_cons (p i) (p1 i) (hs i), im_a1 q q1⟩
theorem d_av (j : Nat) {x : Str} {px : Pos} (hr : PDA F es m) (hN : ∀ i, (F.X i).N[j]? = some x := by exact fun _ => rfl) (hv : ∀ i, Vis (F.X i).env.scope x := by first | exact fun _ => Or.inl rfl | exact fun _ => Or.inr (Or.inl rfl) | exact fun _ => Or.inr (Or.inr rfl))
    (hd : (x == ("__debug__" : Str)) = false := by decide) (hcd : (x == ("__classdict__" : Str)) = false := by decide)
    (hs : ∀ i, starEach (.Name x px :: es) (F.X i).env = (false, eval (.Name x px) (F.X i).env) :: starEach es (F.X i).env := by intro _; rfl) : PDA F (.Name x px :: es) (mAV j m) := by
  obtain ⟨t1, p1, q1⟩ := hr
  exact ⟨_, fun i => pa_cons (pe_var (hN i) (hv i) hd hcd) (p1 i) (hs i), im_av q1⟩
theorem d_tup {x1} (h : PDA F es m) : PDE F (.Tuple es x1 pos) (mTup m) := let ⟨t, p, q⟩ := h; ⟨_, fun i => pe_tup (p i), im_tup q⟩
theorem d_lst (h : PDA F es m) : PDN F (.List es pos) (mLst m) := let ⟨t, p, q⟩ := h; ⟨_, fun i => pe_lst (p i), im_lst q⟩
/-! ### calls of builtins -/
section
variable {x : Str} {px : Pos} {id : String}
/-- a call of a builtin whose one argument's reading is known -/
theorem call1 {r : List V → Hp → VK → Prop} {te : TE} {i : ι} (hc : CallR (F.X i) (.builtin id) r) (hg : Gl (F.X i) x) (hm : (F.X i).mg x = none) (hv : bootBuiltins x = some (.builtin id)) (p : PE (F.X i) e te) (hn : x ≠ "__name__") (hdb : (x == ("__debug__" : Str)) = false)
    (hs : starEach [e] (F.X i).env = (false, eval e (F.X i).env) :: starEach [] (F.X i).env) : PE (F.X i) (.Call (.Name x px) [e] [] pos) (tCB r (tCons te tNil)) :=
  pe_callB hc hg hm hv (pa_cons p pa_nil hs) hn hdb hs rfl
theorem call1t {r : List V → Hp → VK → Prop} {te : TE} {i : ι} (hc : CallR (F.X i) (.type id) r) (hg : Gl (F.X i) x) (hm : (F.X i).mg x = none) (hv : bootBuiltins x = some (.type id)) (p : PE (F.X i) e te) (hn : x ≠ "__name__") (hdb : (x == ("__debug__" : Str)) = false)
    (hs : starEach [e] (F.X i).env = (false, eval e (F.X i).env) :: starEach [] (F.X i).env) : PE (F.X i) (.Call (.Name x px) [e] [] pos) (tCB r (tCons te tNil)) :=
  pe_callTy hc hg hm hv (pa_cons p pa_nil hs) hn hdb hs rfl
end
section
variable {px : Pos}
theorem d_len (hm : ∀ i, (F.X i).mg "len" = none) (h : PDQ F e mn) (hg : ∀ i, Gl (F.X i) "len" := by exact fun _ => rfl) (hs : ∀ i, starEach [e] (F.X i).env = (false, eval e (F.X i).env) :: starEach [] (F.X i).env := by intro _; rfl) :
    PDE F (.Call (.Name "len" px) [e] [] pos) (mLen mn) := by
  obtain ⟨t, p, q⟩ := h
  exact ⟨_, fun i => call1 (by have := call_len_seq (X := F.X i); rw [F.hK i] at this; exact this) (hg i) (hm i) PySem.boot_len (p i) (by decide) (by decide) (hs i), im_len q⟩
theorem d_all (hm : ∀ i, (F.X i).mg "all" = none) (h : PDL F e mn) (hg : ∀ i, Gl (F.X i) "all" := by exact fun _ => rfl) (hs : ∀ i, starEach [e] (F.X i).env = (false, eval e (F.X i).env) :: starEach [] (F.X i).env := by intro _; rfl) :
    PDE F (.Call (.Name "all" px) [e] [] pos) (mAll mn) := by
  obtain ⟨t, p, q⟩ := h
  exact ⟨_, fun i => call1 (by have := cr_all (X := F.X i) (F.calm i); rw [F.hK i] at this; exact this) (hg i) (hm i) (by decide +kernel) (p i) (by decide) (by decide) (hs i), im_all q⟩
theorem d_any (hm : ∀ i, (F.X i).mg "any" = none) (h : PDL F e mn) (hg : ∀ i, Gl (F.X i) "any" := by exact fun _ => rfl) (hs : ∀ i, starEach [e] (F.X i).env = (false, eval e (F.X i).env) :: starEach [] (F.X i).env := by intro _; rfl) :
    PDE F (.Call (.Name "any" px) [e] [] pos) (mAny mn) := by
  obtain ⟨t, p, q⟩ := h
  exact ⟨_, fun i => call1 (by have := cr_any (X := F.X i) (F.calm i); rw [F.hK i] at this; exact this) (hg i) (hm i) (by decide +kernel) (p i) (by decide) (by decide) (hs i), im_any q⟩
theorem d_sum (hm : ∀ i, (F.X i).mg "sum" = none) (h : PDL F e mn) (hg : ∀ i, Gl (F.X i) "sum" := by exact fun _ => rfl) (hs : ∀ i, starEach [e] (F.X i).env = (false, eval e (F.X i).env) :: starEach [] (F.X i).env := by intro _; rfl) :
    PDE F (.Call (.Name "sum" px) [e] [] pos) (mSum mn) := by
  obtain ⟨t, p, q⟩ := h
  exact ⟨_, fun i => call1 (by have := cr_sum (X := F.X i) (F.calm i); rw [F.hK i] at this; exact this) (hg i) (hm i) (by decide +kernel) (p i) (by decide) (by decide) (hs i), im_sum q⟩
theorem d_abs (hm : ∀ i, (F.X i).mg "abs" = none) (h : PDE F e me) (hg : ∀ i, Gl (F.X i) "abs" := by exact fun _ => rfl) (hs : ∀ i, starEach [e] (F.X i).env = (false, eval e (F.X i).env) :: starEach [] (F.X i).env := by intro _; rfl) :
    PDE F (.Call (.Name "abs" px) [e] [] pos) (mB fAbs (mA1 me mA0)) := by
  obtain ⟨t, p, q⟩ := h
  exact ⟨_, fun i => call1 call_abs (hg i) (hm i) (by decide +kernel) (p i) (by decide) (by decide) (hs i), im_b imb_abs (im_a1 q im_a0)⟩
theorem d_int1 (hm : ∀ i, (F.X i).mg "int" = none) (h : PDE F e me) (hg : ∀ i, Gl (F.X i) "int" := by exact fun _ => rfl) (hs : ∀ i, starEach [e] (F.X i).env = (false, eval e (F.X i).env) :: starEach [] (F.X i).env := by intro _; rfl) :
    PDE F (.Call (.Name "int" px) [e] [] pos) (mB fInt (mA1 me mA0)) := by
  obtain ⟨t, p, q⟩ := h
  exact ⟨_, fun i => call1t call_int1 (hg i) (hm i) (by decide +kernel) (p i) (by decide) (by decide) (hs i), im_b imb_int (im_a1 q im_a0)⟩
theorem d_list1 (hm : ∀ i, (F.X i).mg "list" = none) (h : PDQ F e mn) (hg : ∀ i, Gl (F.X i) "list" := by exact fun _ => rfl) (hs : ∀ i, starEach [e] (F.X i).env = (false, eval e (F.X i).env) :: starEach [] (F.X i).env := by intro _; rfl) :
    PDN F (.Call (.Name "list" px) [e] [] pos) (mList mn) := by
  obtain ⟨t, p, q⟩ := h
  exact ⟨_, fun i => call1t (by have := call_list_of (X := F.X i); rw [F.hK i] at this; exact this) (hg i) (hm i) (by decide +kernel) (p i) (by decide) (by decide) (hs i), im_list q⟩
theorem d_tuple1 (hm : ∀ i, (F.X i).mg "tuple" = none) (h : PDQ F e mn) (hg : ∀ i, Gl (F.X i) "tuple" := by exact fun _ => rfl) (hs : ∀ i, starEach [e] (F.X i).env = (false, eval e (F.X i).env) :: starEach [] (F.X i).env := by intro _; rfl) :
    PDE F (.Call (.Name "tuple" px) [e] [] pos) (mTuple mn) := by
  obtain ⟨t, p, q⟩ := h
  exact ⟨_, fun i => call1t (by have := call_tuple_of (X := F.X i); rw [F.hK i] at this; exact this) (hg i) (hm i) (by decide +kernel) (p i) (by decide) (by decide) (hs i), im_tuple q⟩
/-- isinstance(x, T), T the name of a built-in type -/
theorem d_isi {T : Str} {n : String} {pT : Pos} (hv : bootBuiltins T = some (.type n)) (hm : ∀ i, (F.X i).mg "isinstance" = none) (hmT : ∀ i, (F.X i).mg T = none) (h : PDE F e me) (hg : ∀ i, Gl (F.X i) "isinstance" := by exact fun _ => rfl) (hgT : ∀ i, Gl (F.X i) T := by exact fun _ => rfl)
    (hn : T ≠ "__name__" := by decide) (hd : (T == ("__debug__" : Str)) = false := by decide)
    (hs : ∀ i, starEach [e, .Name T pT] (F.X i).env = (false, eval e (F.X i).env) :: starEach [.Name T pT] (F.X i).env := by intro _; rfl) (hs2 : ∀ i, starEach [.Name T pT] (F.X i).env = (false, eval (.Name T pT) (F.X i).env) :: starEach [] (F.X i).env := by intro _; rfl)
    (hpl : ∀ i, (backTo pos (starEach [.Name T pT] (F.X i).env)).any (·.1) = false := by intro _; rfl) :
    PDE F (.Call (.Name "isinstance" px) [e, .Name T pT] [] pos) (mIsi n me) := by
  obtain ⟨t, p, q⟩ := h
  exact ⟨_, fun i => pe_callB (by have := call_isi (X := F.X i); rw [F.hK i] at this; exact this) (hg i) (hm i) (by decide +kernel) (pa_cons (p i) (pa_cons (pe_bltn (v := .ty n) (hgT i) (hmT i) hv rfl hn hd) pa_nil (hs2 i)) (hs i)) (by decide) (by decide) (hs i) (hpl i), im_isi q⟩
/-- max(a, b), min(a, b) -/
theorem d_max2 (hm : ∀ i, (F.X i).mg "max" = none) (h : PDE F a ma) (h2 : PDE F e mb) (hg : ∀ i, Gl (F.X i) "max" := by exact fun _ => rfl)
    (hs : ∀ i, starEach [a, e] (F.X i).env = (false, eval a (F.X i).env) :: starEach [e] (F.X i).env := by intro _; rfl) (hs2 : ∀ i, starEach [e] (F.X i).env = (false, eval e (F.X i).env) :: starEach [] (F.X i).env := by intro _; rfl)
    (hpl : ∀ i, (backTo pos (starEach [e] (F.X i).env)).any (·.1) = false := by intro _; rfl) : PDE F (.Call (.Name "max" px) [a, e] [] pos) (mB fMax2 (mA1 ma (mA1 mb mA0))) := by
  obtain ⟨t, p, q⟩ := h
  obtain ⟨t2, p2, q2⟩ := h2
  exact ⟨_, fun i => pe_callB (call_max2 (F.calm i)) (hg i) (hm i) (by decide +kernel) (pa_cons (p i) (pa_cons (p2 i) pa_nil (hs2 i)) (hs i)) (by decide) (by decide) (hs i) (hpl i), im_b imb_max2 (im_a1 q (im_a1 q2 im_a0))⟩
theorem d_min2 (hm : ∀ i, (F.X i).mg "min" = none) (h : PDE F a ma) (h2 : PDE F e mb) (hg : ∀ i, Gl (F.X i) "min" := by exact fun _ => rfl)
    (hs : ∀ i, starEach [a, e] (F.X i).env = (false, eval a (F.X i).env) :: starEach [e] (F.X i).env := by intro _; rfl) (hs2 : ∀ i, starEach [e] (F.X i).env = (false, eval e (F.X i).env) :: starEach [] (F.X i).env := by intro _; rfl)
    (hpl : ∀ i, (backTo pos (starEach [e] (F.X i).env)).any (·.1) = false := by intro _; rfl) : PDE F (.Call (.Name "min" px) [a, e] [] pos) (mB fMin2 (mA1 ma (mA1 mb mA0))) := by
  obtain ⟨t, p, q⟩ := h
  obtain ⟨t2, p2, q2⟩ := h2
  exact ⟨_, fun i => pe_callB (call_min2 (F.calm i)) (hg i) (hm i) (by decide +kernel) (pa_cons (p i) (pa_cons (p2 i) pa_nil (hs2 i)) (hs i)) (by decide) (by decide) (hs i) (hpl i), im_b imb_min2 (im_a1 q (im_a1 q2 im_a0))⟩
end
/-! ### calls of defs -/
theorem d_call {x : Str} {px : Pos} {f : Addr} {fd : FuncData} {ps : List Str} {np : Nat} {g : Fn} (hG : ∀ i, FnOk (F.X i).prog (F.X i).w (F.X i).K (F.X i).mg (F.X i).base CX0 F.k f fd ps (spD F.K np g)) (hm : ∀ i, (F.X i).mg x = some (.ref f)) (hk : PySem.W.keepIn F.K (.ref f) = true) (hb : Binds F.K fd ps [])
    (ha : PDA F (e :: es) m) (hg : ∀ i, Gl (F.X i) x := by exact fun _ => rfl) (hdb : (x == ("__debug__" : Str)) = false := by decide) (he : ∀ i, starEach (e :: es) (F.X i).env = (false, eval e (F.X i).env) :: starEach es (F.X i).env := by intro _; rfl)
    (hpl : ∀ i, (backTo pos (starEach es (F.X i).env)).any (·.1) = false := by intro _; rfl) : PDE F (.Call (.Name x px) (e :: es) [] pos) (mCall np g m) := by
  obtain ⟨t, p, q⟩ := ha
  exact ⟨_, fun i => pe_call (hG i) (F.room i) (hg i) (hm i) (by rw [F.hK i]; exact hk) (by rw [F.hK i]; exact hb) .nil pass0 (p i) hdb (he i) (hpl i), im_call q⟩
theorem d_callN {x : Str} {px : Pos} {f : Addr} {fd : FuncData} {ps : List Str} {np : Nat} {g : Fn} (hG : ∀ i, FnOk (F.X i).prog (F.X i).w (F.X i).K (F.X i).mg (F.X i).base CX0 F.k f fd ps (spD F.K np g)) (hm : ∀ i, (F.X i).mg x = some (.ref f)) (hk : PySem.W.keepIn F.K (.ref f) = true) (hb : Binds F.K fd ps [])
    (ha : PDA F (e :: es) m) (hg : ∀ i, Gl (F.X i) x := by exact fun _ => rfl) (hdb : (x == ("__debug__" : Str)) = false := by decide) (he : ∀ i, starEach (e :: es) (F.X i).env = (false, eval e (F.X i).env) :: starEach es (F.X i).env := by intro _; rfl)
    (hpl : ∀ i, (backTo pos (starEach es (F.X i).env)).any (·.1) = false := by intro _; rfl) : PDN F (.Call (.Name x px) (e :: es) [] pos) (mCallN np g m) := by
  obtain ⟨t, p, q⟩ := ha
  exact ⟨_, fun i => pe_call (hG i) (F.room i) (hg i) (hm i) (by rw [F.hK i]; exact hk) (by rw [F.hK i]; exact hb) .nil pass0 (p i) hdb (he i) (hpl i), im_callN q⟩
/-! ### targets, what is walked -/
theorem d_gn (j : Nat) {x : Str} (hi : ∀ i, (F.X i).N[j]? = some x := by exact fun _ => rfl) (hx : ∀ i, Loc (F.X i).env.scope x := by first | exact fun _ => Or.inl rfl | exact fun _ => Or.inr rfl) (hf : ∀ i, (F.X i).fn x = true ∨ (F.X i).env.scope.names.lookup x = some .local := by first | exact fun _ => .inl rfl | exact fun _ => .inr rfl) :
    PDG F (.Name x pos) (mgN j) := ⟨_, fun i => pg_name (F.nd i) (hi i) (hx i) (hf i), img_n j⟩
theorem d_g0 : PDGs F [] mg0 := ⟨_, fun _ => pgs_nil, img_0⟩
theorem d_g1 {g : MG} {gs : MGs} (h : PDG F e g) (h2 : PDGs F es gs) (hs : ∀ i, (assignEach (e :: es) (F.X i).env).map (·.2) = assign e (F.X i).env :: (assignEach es (F.X i).env).map (·.2) := by intro _; rfl) : PDGs F (e :: es) (mg1 g gs) := by
  obtain ⟨t, p, q⟩ := h
  obtain ⟨t2, p2, q2⟩ := h2
  exact ⟨_, fun i => pgs_cons (p i) (p2 i) (hs i), img_1 q q2⟩
theorem d_gt (n : Nat) {k : Nat} {gs : MGs} (h : PDGs F es gs) (hn : ∀ i, (assignEach es (F.X i).env).length = n := by intro _; rfl) (hst : ∀ i, (assignEach es (F.X i).env).findIdx? (·.1) = none := by intro _; rfl) : PDG F (.Tuple es k pos) (mgT n gs) := by
  obtain ⟨t, p, q⟩ := h
  exact ⟨_, fun i => by have := pg_tup (pos := pos) (k := k) (F.calm i) (p i) (hn i) (hst i); rw [F.hK i] at this; exact this, img_t q⟩
theorem d_i {tg : Expr} (h : PDE F e me) : PDI F tg e (mQE me) := by
  obtain ⟨t, p, q⟩ := h
  exact ⟨_, fun i => by have := pi_any (tg := tg) (p i); rw [F.hK i] at this; exact this, im_i q⟩
theorem d_r1 {tg : Expr} {px : Pos} (hm : ∀ i, (F.X i).mg "range" = none) (h : PDE F e me) (hg : ∀ i, Gl (F.X i) "range" := by exact fun _ => rfl) (hs : ∀ i, starEach [e] (F.X i).env = [(false, eval e (F.X i).env)] := by intro _; rfl)
    (hs2 : ∀ i, starEach [e] (F.X i).env = (false, eval e (F.X i).env) :: starEach [] (F.X i).env := by intro _; rfl) : PDI F tg (.Call (.Name "range" px) [e] [] pos) (mR1 me) := by
  obtain ⟨t, p, q⟩ := h
  exact ⟨_, fun i => pi_range1 (hg i) (hm i) (pa_cons (p i) pa_nil (hs2 i)) (hs i), im_r1 q⟩
theorem d_r2 {tg : Expr} {px : Pos} (hm : ∀ i, (F.X i).mg "range" = none) (h : PDE F a ma) (h2 : PDE F e mb) (hg : ∀ i, Gl (F.X i) "range" := by exact fun _ => rfl) (hs : ∀ i, starEach [a, e] (F.X i).env = [(false, eval a (F.X i).env), (false, eval e (F.X i).env)] := by intro _; rfl)
    (hs2 : ∀ i, starEach [e] (F.X i).env = [(false, eval e (F.X i).env)] := by intro _; rfl) (hs3 : ∀ i, starEach [a, e] (F.X i).env = (false, eval a (F.X i).env) :: starEach [e] (F.X i).env := by intro _; rfl) (hs4 : ∀ i, starEach [e] (F.X i).env = (false, eval e (F.X i).env) :: starEach [] (F.X i).env := by intro _; rfl) :
    PDI F tg (.Call (.Name "range" px) [a, e] [] pos) (mR2 ma mb) := by
  obtain ⟨t, p, q⟩ := h
  obtain ⟨t2, p2, q2⟩ := h2
  exact ⟨_, fun i => pi_range2 (hg i) (hm i) (pa_cons (p i) (pa_cons (p2 i) pa_nil (hs4 i)) (hs3 i)) (hs i) (hs2 i), im_r2 q q2⟩
/-! ### comprehensions -/
theorem d_ts0 : PDTs F [] mYes := ⟨_, fun _ => pts_nil, im_yes⟩
theorem d_ts1 (h : PDT F e mt) : PDTs F [e] mt := by
  obtain ⟨t, p, q⟩ := h
  exact ⟨_, fun i => pts_one (p i), q⟩
/-- the target writes the block's own names alone -/
inductive GNames : Expr → List Nat → (ι : Type) → Fam ι → MG → Prop
theorem d_lc {tg elt : Expr} {ifs : List Expr} {scope : Scope} {own : List (Str × Nat)} {mi : MN} {mg : MG} {g : TG} (hi : PDI F tg e mi) (ok : ∀ i, BlkOk (F.X i).N (F.X i).env.scope scope own)
    (hg : ∀ p, PG ((F.blk scope).X p) tg g) (hgi : ImG F.K g mg) (ho : GOwn g (own.map (·.2))) (ht : PDTs (F.blk scope) ifs mt) (he : PDE (F.blk scope) elt me) (hs : ∀ i x, foldedSetIterable e (F.X i).env x = pure x := by intro _ _; rfl) :
    PDN F (.ListComp elt [⟨tg, e, ifs, 0⟩] scope pos) (mLc mi mg mt me (own.map (·.2))) := by
  obtain ⟨ti, pi, qi⟩ := hi
  obtain ⟨tt, pt, qt⟩ := ht
  obtain ⟨te, pe, qe⟩ := he
  exact ⟨_, fun i => pe_lc (F.calm i) (F.nd i) (pi i) (ok i) (fun s H C cl fp => hg (i, s, H, C, cl, fp)) (fun s H C cl fp => pt (i, s, H, C, cl, fp)) (fun s H C cl fp => pe (i, s, H, C, cl, fp)) (hs i), im_lc qi hgi ho qt qe⟩
/-! ### statements -/
theorem d_nil : PDSs F b [] mNext := ⟨_, fun _ => pss_nil, imc_next⟩
variable {st : Stmt} {sts : List Stmt} {s1 s2 : MS}
theorem d_cons (h : PDS F b st s1) (h2 : PDSs F b sts s2) : PDSs F b (st :: sts) (mSeq s1 s2) := by
  obtain ⟨t, p, q⟩ := h
  obtain ⟨t2, p2, q2⟩ := h2
  exact ⟨_, fun i => pss_cons (p i) (p2 i), imc_seq q q2⟩
theorem d_st (h : PDS F b st s1) : PDSs F b [st] s1 := by
  obtain ⟨t, p, q⟩ := h
  exact ⟨_, fun i => pss_one (p i), q⟩
theorem d_doc {x j pos'} : PDS F b (.Expr (.Constant (.str x) j pos) pos') mNext := ⟨_, fun _ => ps_doc, imc_next⟩
theorem d_pass : PDS F b (.Pass pos) mNext := ⟨_, fun _ => ps_pass, imc_next⟩
theorem d_brk : PDS F b (.Break pos) mBrk := ⟨_, fun _ => ps_break, imc_brk⟩
theorem d_cont : PDS F b (.Continue pos) mCont := ⟨_, fun _ => ps_continue, imc_cont⟩
theorem d_raise : PDS F b st mNever := ⟨_, fun _ => ps_never, imc_never⟩
theorem d_expr (h : PDE F e me) (hs : ∀ i, swapsWith e none pos.line (F.X i).env = pure false := by intro _; rfl) : PDS F b (.Expr e pos) (mDrop me) := by
  obtain ⟨t, p, q⟩ := h
  exact ⟨_, fun i => ps_expr (p i) (hs i), imc_drop q⟩
theorem d_ret (h : PDE F e me) : PDS F b (.Return (some e) pos) (mRet me) := by
  obtain ⟨t, p, q⟩ := h
  exact ⟨_, fun i => ps_ret (p i), imc_ret q⟩
theorem d_retL (h : PDN F e mn) : PDS F b (.Return (some e) pos) (mRetL mn) := by
  obtain ⟨t, p, q⟩ := h
  exact ⟨_, fun i => ps_ret (p i), imc_retL q⟩
theorem d_retN : PDS F b (.Return none pos) mRetN := ⟨_, fun _ => ps_retN, imc_retN⟩
theorem d_retV (j : Nat) {x : Str} {px : Pos} (hN : ∀ i, (F.X i).N[j]? = some x := by exact fun _ => rfl) (hv : ∀ i, Vis (F.X i).env.scope x := by first | exact fun _ => Or.inl rfl | exact fun _ => Or.inr (Or.inl rfl) | exact fun _ => Or.inr (Or.inr rfl))
    (hd : (x == ("__debug__" : Str)) = false := by decide) (hcd : (x == ("__classdict__" : Str)) = false := by decide) : PDS F b (.Return (some (.Name x px)) pos) (mRetV b j) := ⟨_, fun i => ps_ret (pe_var (hN i) (hv i) hd hcd), imc_retV⟩
theorem d_if {sa sb : List Stmt} (h : PDT F c mt) (h1 : PDSs F b sa s1) (h2 : PDSs F b sb s2) : PDS F b (.If c sa sb pos) (mIfS mt s1 s2) := by
  obtain ⟨t, p, q⟩ := h
  obtain ⟨t1, p1, q1⟩ := h1
  obtain ⟨t2, p2, q2⟩ := h2
  exact ⟨_, fun i => ps_if (p i) (p1 i) (p2 i), imc_if q q1 q2⟩
theorem d_set (j : Nat) {x : Str} {px : Pos} (h : PDE F e me) (hi : ∀ i, (F.X i).N[j]? = some x := by exact fun _ => rfl) (hx : ∀ i, Loc (F.X i).env.scope x := by first | exact fun _ => Or.inl rfl | exact fun _ => Or.inr rfl) (hs : ∀ i, swapsWith e (some (.Name x px)) pos.line (F.X i).env = pure false := by intro _; rfl)
    (hf : ∀ i, (F.X i).fn x = true ∨ (F.X i).env.scope.names.lookup x = some .local := by first | exact fun _ => .inl rfl | exact fun _ => .inr rfl) : PDS F b (.Assign [.Name x px] e pos) (mAsg me (mgN j)) := by
  obtain ⟨t, p, q⟩ := h
  exact ⟨_, fun i => ps_set (F.nd i) (hi i) (hx i) (p i) (hs i) (hf i), imc_asg q (img_n j)⟩
theorem d_new (j : Nat) {x : Str} {px : Pos} (h : PDN F e mn) (hi : ∀ i, (F.X i).N[j]? = some x := by exact fun _ => rfl) (hx : ∀ i, Loc (F.X i).env.scope x := by first | exact fun _ => Or.inl rfl | exact fun _ => Or.inr rfl) (hs : ∀ i, swapsWith e (some (.Name x px)) pos.line (F.X i).env = pure false := by intro _; rfl)
    (hf : ∀ i, (F.X i).fn x = true ∨ (F.X i).env.scope.names.lookup x = some .local := by first | exact fun _ => .inl rfl | exact fun _ => .inr rfl) : PDS F b (.Assign [.Name x px] e pos) (mNew j mn) := by
  obtain ⟨t, p, q⟩ := h
  exact ⟨_, fun i => ps_set (F.nd i) (hi i) (hx i) (p i) (hs i) (hf i), imc_new q⟩
/-- x = [..], a comprehension on the name's own line -/
theorem d_lcP {tg elt : Expr} {ifs : List Expr} {scope : Scope} {own : List (Str × Nat)} {mi : MN} {mg : MG} {g : TG} (j : Nat) {y : Str} {py spos : Pos} (hi : PDI F tg e mi) (ok : ∀ i, BlkOk (F.X i).N (F.X i).env.scope scope own)
    (hg : ∀ p, PG ((F.blk scope).X p) tg g) (hgi : ImG F.K g mg) (ho : GOwn g (own.map (·.2))) (ht : PDTs (F.blk scope) ifs mt) (he : PDE (F.blk scope) elt me)
    (hsw : ∀ i, swapsWith (.ListComp elt [⟨tg, e, ifs, 0⟩] scope pos) (some (.Name y py)) spos.line (F.X i).env = pure true) (hy : ∀ i, (F.X i).N[j]? = some y := by exact fun _ => rfl) (hyl : ∀ i, (F.X i).env.scope.names.lookup y = some .local := by exact fun _ => rfl)
    (hs : ∀ i x, foldedSetIterable e (F.X i).env x = pure x := by intro _ _; rfl) : ∃ t, (∀ i, PS (F.X i) (.Assign [.Name y py] (.ListComp elt [⟨tg, e, ifs, 0⟩] scope pos) spos) (tAsg t (gName j))) ∧ ImN F.K t (mLc mi mg mt me (own.map (·.2))) := by
  obtain ⟨ti, pi, qi⟩ := hi
  obtain ⟨tt, pt, qt⟩ := ht
  obtain ⟨te, pe, qe⟩ := he
  exact ⟨_, fun i => ps_setLc (F.calm i) (F.nd i) (hy i) (hyl i) (hsw i) (pi i) (ok i) (fun s H C cl fp => hg (i, s, H, C, cl, fp)) (fun s H C cl fp => pt (i, s, H, C, cl, fp)) (fun s H C cl fp => pe (i, s, H, C, cl, fp)) (hs i), im_lc qi hgi ho qt qe⟩
theorem d_lcS {j : Nat} (h : ∃ t, (∀ i, PS (F.X i) st (tAsg t (gName j))) ∧ ImN F.K t mn) : PDS F b st (mAsg (mEN mn) (mgN j)) := by
  obtain ⟨t, p, q⟩ := h
  exact ⟨_, p, imc_asg (im_en q) (img_n j)⟩
theorem d_lcC {j : Nat} (h : ∃ t, (∀ i, PS (F.X i) st (tAsg t (gName j))) ∧ ImN F.K t mn) : PDS F b st (mNew j mn) := by
  obtain ⟨t, p, q⟩ := h
  exact ⟨_, p, imc_new q⟩
theorem d_unp {tg : Expr} {g : MG} (h : PDE F e me) (hg : PDG F tg g) (hs : ∀ i, swapsWithSole [tg] e pos.line (F.X i).env = pure false := by intro _; rfl) (hw : ∀ i, swappedStores [tg] e (F.X i).env = pure none := by intro _; rfl)
    (h1 : ∀ i, (assignEach [tg] (F.X i).env).map (·.2) = [assign tg (F.X i).env] := by intro _; rfl) : PDS F b (.Assign [tg] e pos) (mAsg me g) := by
  obtain ⟨t, p, q⟩ := h
  obtain ⟨t2, p2, q2⟩ := hg
  exact ⟨_, fun i => ps_asg (p i) (p2 i) (hs i) (hw i) (h1 i), imc_asg q q2⟩
theorem d_augA (j : Nat) {x : Str} {px : Pos} (h : PDE F e me) (hi : ∀ i, (F.X i).N[j]? = some x := by exact fun _ => rfl) (hx : ∀ i, Loc (F.X i).env.scope x := by first | exact fun _ => Or.inl rfl | exact fun _ => Or.inr rfl) (hf : ∀ i, (F.X i).fn x = true ∨ (F.X i).env.scope.names.lookup x = some .local := by first | exact fun _ => .inl rfl | exact fun _ => .inr rfl) :
    PDS F b (.AugAssign (.Name x px) .Add e pos) (mAug j (fI0 fun i j => .int (i + j)) me) := by
  obtain ⟨t, p, q⟩ := h
  exact ⟨_, fun i => ps_aug (F.nd i) (hi i) (hx i) (p i) ip_add (hf i), imc_aug imr_ipadd q⟩
theorem d_augS (j : Nat) {x : Str} {px : Pos} (h : PDE F e me) (hi : ∀ i, (F.X i).N[j]? = some x := by exact fun _ => rfl) (hx : ∀ i, Loc (F.X i).env.scope x := by first | exact fun _ => Or.inl rfl | exact fun _ => Or.inr rfl) (hf : ∀ i, (F.X i).fn x = true ∨ (F.X i).env.scope.names.lookup x = some .local := by first | exact fun _ => .inl rfl | exact fun _ => .inr rfl) :
    PDS F b (.AugAssign (.Name x px) .Sub e pos) (mAug j (fI0 fun i j => .int (i - j)) me) := by
  obtain ⟨t, p, q⟩ := h
  exact ⟨_, fun i => ps_aug (F.nd i) (hi i) (hx i) (p i) ip_sub (hf i), imc_aug imr_ipsub q⟩
/-- x[e] = v -/
theorem d_put (j : Nat) {x : Str} {px p2 : Pos} (hi : PDE F a ma) (hv : PDE F e me) (hN : ∀ i, (F.X i).N[j]? = some x := by exact fun _ => rfl) (hvis : ∀ i, Vis (F.X i).env.scope x := by first | exact fun _ => Or.inl rfl | exact fun _ => Or.inr (Or.inl rfl) | exact fun _ => Or.inr (Or.inr rfl))
    (hd : (x == ("__debug__" : Str)) = false := by decide) (hcd : (x == ("__classdict__" : Str)) = false := by decide)
    (ha : ∀ i v, assign (.Subscript (.Name x px) a p2) (F.X i).env v = (do
      let ov ← holding [v] (eval (.Name x px) (F.X i).env)
      let iv ← holding [v, ov] (eval a (F.X i).env)
      standAt p2
      holding [v, ov, iv] (setItem ov iv v)
      release [v, ov, iv] []) := by intro _ _; rfl) (hs : ∀ i, swapsWithSole [.Subscript (.Name x px) a p2] e pos.line (F.X i).env = pure false := by intro _; rfl) (hw : ∀ i, swappedStores [.Subscript (.Name x px) a p2] e (F.X i).env = pure none := by intro _; rfl)
    (h1 : ∀ i, (assignEach [.Subscript (.Name x px) a p2] (F.X i).env).map (·.2) = [assign (.Subscript (.Name x px) a p2) (F.X i).env] := by intro _; rfl) : PDS F b (.Assign [.Subscript (.Name x px) a p2] e pos) (mSub j ma me) := by
  obtain ⟨t, p, q⟩ := hi
  obtain ⟨t2, p2, q2⟩ := hv
  exact ⟨_, fun i => ps_asg (p2 i) (pg_sub (pe_var (hN i) (hvis i) hd hcd) (p i) set_list (ha i)) (hs i) (hw i) (h1 i), imc_sub q q2⟩
/-- methods of lists -/
theorem d_app (j : Nat) {x : Str} {px apos : Pos} (h : PDE F e me) (hN : ∀ i, (F.X i).N[j]? = some x := by exact fun _ => rfl) (hv : ∀ i, Vis (F.X i).env.scope x := by first | exact fun _ => Or.inl rfl | exact fun _ => Or.inr (Or.inl rfl) | exact fun _ => Or.inr (Or.inr rfl))
    (hd : (x == ("__debug__" : Str)) = false := by decide) (hcd : (x == ("__classdict__" : Str)) = false := by decide) (hbase : ∀ i, attributeBase (.Name x px) "append" (F.X i).env (eval (.Name x px) (F.X i).env) = eval (.Name x px) (F.X i).env := by intro _; rfl)
    (hfew : ∀ i, ((backTo pos (starEach [e] (F.X i).env)).all (fun x => !x.1) && (backToKw pos (keywordEach [] (F.X i).env)).all (fun x => x.1.isSome) && decide ([e].length + ([] : List Keyword).length + (if ([] : List Keyword).isEmpty then 0 else 1) < 30)) = true := by intro _; rfl)
    (hline : (apos.endLine == pos.line) = true := by rfl) (hs : ∀ i, starEach [e] (F.X i).env = (false, eval e (F.X i).env) :: starEach [] (F.X i).env := by intro _; rfl) : PDE F (.Call (.Attribute (.Name x px) "append" apos) [e] [] pos) (mApp j me) := by
  obtain ⟨t, p, q⟩ := h
  exact ⟨_, fun i => by have := pe_bm (cpos := pos) (apos := apos) PySem.F.plainAttrs_list PySem.F.slot_list_append PySem.F.type_list_append (mt_append (X := F.X i)) (pe_var (pos := px) (hN i) (hv i) hd hcd) (pa_cons (p i) pa_nil (hs i)) (hbase i) (hfew i) hline (hs i) rfl; rw [F.hK i] at this; exact this, im_app q⟩
theorem d_ext (j : Nat) {x : Str} {px apos : Pos} (h : PDN F e mn) (hN : ∀ i, (F.X i).N[j]? = some x := by exact fun _ => rfl) (hv : ∀ i, Vis (F.X i).env.scope x := by first | exact fun _ => Or.inl rfl | exact fun _ => Or.inr (Or.inl rfl) | exact fun _ => Or.inr (Or.inr rfl))
    (hd : (x == ("__debug__" : Str)) = false := by decide) (hcd : (x == ("__classdict__" : Str)) = false := by decide) (hbase : ∀ i, attributeBase (.Name x px) "extend" (F.X i).env (eval (.Name x px) (F.X i).env) = eval (.Name x px) (F.X i).env := by intro _; rfl)
    (hfew : ∀ i, ((backTo pos (starEach [e] (F.X i).env)).all (fun x => !x.1) && (backToKw pos (keywordEach [] (F.X i).env)).all (fun x => x.1.isSome) && decide ([e].length + ([] : List Keyword).length + (if ([] : List Keyword).isEmpty then 0 else 1) < 30)) = true := by intro _; rfl)
    (hline : (apos.endLine == pos.line) = true := by rfl) (hs : ∀ i, starEach [e] (F.X i).env = (false, eval e (F.X i).env) :: starEach [] (F.X i).env := by intro _; rfl) : PDE F (.Call (.Attribute (.Name x px) "extend" apos) [e] [] pos) (mExtN j mn) := by
  obtain ⟨t, p, q⟩ := h
  exact ⟨_, fun i => by have := pe_bm (cpos := pos) (apos := apos) PySem.F.plainAttrs_list PySem.F.slot_list_extend PySem.F.type_list_extend (mt_extend (X := F.X i)) (pe_var (pos := px) (hN i) (hv i) hd hcd) (pa_cons (p i) pa_nil (hs i)) (hbase i) (hfew i) hline (hs i) rfl; rw [F.hK i] at this; exact this, im_extN q⟩
theorem d_pop (j : Nat) {x : Str} {px apos : Pos} (hN : ∀ i, (F.X i).N[j]? = some x := by exact fun _ => rfl) (hv : ∀ i, Vis (F.X i).env.scope x := by first | exact fun _ => Or.inl rfl | exact fun _ => Or.inr (Or.inl rfl) | exact fun _ => Or.inr (Or.inr rfl))
    (hd : (x == ("__debug__" : Str)) = false := by decide) (hcd : (x == ("__classdict__" : Str)) = false := by decide) (hbase : ∀ i, attributeBase (.Name x px) "pop" (F.X i).env (eval (.Name x px) (F.X i).env) = eval (.Name x px) (F.X i).env := by intro _; rfl)
    (hline : (apos.endLine == pos.line) = true := by rfl) : PDE F (.Call (.Attribute (.Name x px) "pop" apos) [] [] pos) (mPop j) :=
  ⟨_, fun i => by have := pe_bm0 (cpos := pos) (apos := apos) PySem.F.plainAttrs_list PySem.F.slot_list_pop PySem.F.type_list_pop (mt_pop (X := F.X i)) (pe_var (pos := px) (hN i) (hv i) hd hcd) (hbase i) hline; rw [F.hK i] at this; exact this, im_pop⟩
/-- loops -/
theorem d_for {tg : Expr} {body : List Stmt} {mi : MN} {mg : MG} (hi : PDI F tg e mi) (hg : PDG F tg mg) (h : PDSs F b body s1) (hp : ∀ i, PassesOwn (model (F.X i).prog (F.X i).w) (F.X i).A (F.X i).env (F.X i).xe := by exact fun _ => PassesOwn.never) (hs : ∀ i x, foldedSetIterable e (F.X i).env x = pure x := by intro _ _; rfl) :
    PDS F b (.For tg e body [] pos) (mFor mi mg s1) := by
  obtain ⟨t, p, q⟩ := hi
  obtain ⟨t2, p2, q2⟩ := hg
  obtain ⟨t3, p3, q3⟩ := h
  exact ⟨_, fun i => ps_for (hp i) (F.calm i) (p i) (p2 i) (p3 i) (hs i), imc_for q q2 q3⟩
theorem d_while (n : Nat) {body : List Stmt} (hc : PDT F c mt) (h : PDSs F b body s1) (hp : ∀ i, PassesOwn (model (F.X i).prog (F.X i).w) (F.X i).A (F.X i).env (F.X i).xe := by exact fun _ => PassesOwn.never) : PDS F b (.While c body [] pos) (whRun mt s1 n) := by
  obtain ⟨t, p, q⟩ := hc
  obtain ⟨t3, p3, q3⟩ := h
  exact ⟨_, fun i => ps_while (hp i) (p i) (p3 i), imc_while q q3⟩
end
/-- a def's body -/
def Fam.top (P : Program) (w : World) (K : PySem.W.Frag) (mg : Str → Option Value) (base : Heap) (N : List Str) (qual : Str) (scope : Scope) (f : Addr) (cd : Value) (A : Around) (outer : List Env) (s : Shared) (H : Hp) (E : XK) (k : Nat) (hr : Room k (A.deeper (PyProof.Rows.envOfC qual scope s.heap.objs.size f cd))) (nd : N.Nodup) : Fam Unit where
  X := fun _ => (cxOf CX0 P w K mg base N qual scope f cd A outer s H E).nox
  K := K
  k := k
  hK := fun _ => rfl
  calm := fun _ => rfl
  room := fun _ => hr
  nd := fun _ => nd
theorem def_d {P : Program} {w : World} {K : PySem.W.Frag} {mg : Str → Option Value} {base : Heap} {x qual : Str} {st : Stmt} {f : Addr} {fd : FuncData} {N ps : List Str} {k np ns : Nat} {body : Nat → MS} (F : Fun K x qual st f fd) (Sc : FnScope N ps (defScope st)) (hp : ps.length = np) (hN : N.length = ns)
    (h : ∀ (cdv : Value) (A : Around) (outer : List Env) (s : Shared) (H : Hp) (E : XK) (b : Nat) (hr : Room k (A.deeper (PyProof.Rows.envOfC qual (defScope st) s.heap.objs.size f cdv))),
      PDSs (Fam.top P w K mg base N qual (defScope st) f cdv A outer s H E k hr Sc.nd) b (defBody st) (body b)) : FnOk P w K mg base CX0 (k + 1) f fd ps (spD K np (mDef np ns body)) :=
  def_ok F Sc hp hN fun cdv A outer s H E b hr => let ⟨t, p, q⟩ := h cdv A outer s H E b hr; ⟨t, p (), q⟩
end G
set_option Elab.async false
set_option linter.all false
set_option autoImplicit false
set_option maxRecDepth 100000
set_option maxHeartbeats 4000000
namespace G
open PySem PySem.Spec PyProof.Rows L2
theorem ext_tup (l : Addr) (items : Array Value) (n : Nat) (b : Addr) (items2 : Array Value) (n2 : Nat) (dd : Option Addr) (sl : Array (Option Value)) (hs0 : ¬(!items.isEmpty && Builtin.List.listTooLong (items.size + items2.size)) = true) (hs1 : items.size ≤ sizeLine) (hs2 : items.size + items2.size ≤ sizeLine + 1) :
    Meets (Builtin.«list.extend» ⟨[.ref l, .ref b], []⟩) (fun _ R s => s.heap.get? l = some { cls := .type "list", dict := none, data := .seq items n, slots := #[] } ∧ s.heap.get? b = some { cls := .type "tuple", dict := dd, data := .seq items2 n2, slots := sl } ∧ R (.ok (.ret Value.none)) { s with heap := s.heap.update l (Obj.mapSeq fun x => x ++ items2), toks := s.toks }) :=
  .of_wp fun prog w A R s h => by
    obtain ⟨hp, g, d, tk, os⟩ := s; obtain ⟨hl, hb, h⟩ := h
    have f1 := AutoSeq1.idx_int; have f2 := AutoSeq1.sub_tuple_tuple; have f3 := AutoSeq1.sub_list_list; have f4 := AutoSeq1.sub_tuple_list; have f5 := AutoSeq1.sub_list_tuple
    have hz' : (items ++ items2).size ≤ sizeLine + 1 := by rw [Array.size_append]; exact hs2
    wp_walk using (wpAny_updateSeq hl rfl (hz := hs1) (_hz' := hz')), wpAny_loadPart' hl, wpAny_loadPart' hb
    exact ⟨_, rfl, h⟩
def rExtT (K : PySem.W.Frag) : V → List V → Hp → VK → Prop := fun x vs H Q => ∃ l b xs zs, x = .ref l ∧ vs = [.ref b] ∧ H l = some (.lst xs) ∧ SqT K H b zs ∧ xs.length + zs.length ≤ sizeLine ∧ Q .non (upd H l (.lst (xs ++ zs)))
theorem mt_extT {X : Cx} : MtR X "list.extend" (rExtT X.K) := by
  intro pins s σ H x vs v us Q I rx rv h
  obtain ⟨l, b, xs, zs, rfl, rfl, hH, hB, hz, q⟩ := h
  cases rx
  obtain ⟨u, rfl, ru⟩ := rv.one
  cases ru
  obtain ⟨z, its, n, r, hl, e⟩ := I.lstM hH
  obtain ⟨its2, r2, ⟨⟨cls, dd, data, sl⟩, ho, hc, n2, hd⟩, hs⟩ := I.tuple hB
  simp only at hc hd
  subst hc hd
  have hl2 := r2.length
  have hsz : its.toArray.size + its2.toArray.size ≤ sizeLine := by rw [List.size_toArray, List.size_toArray]; omega
  have hlong : ¬ (!its.toArray.isEmpty && Builtin.List.listTooLong (its.toArray.size + its2.toArray.size)) = true := by
    rw [notLongL hsz, Bool.and_false]
    exact Bool.false_ne_true
  refine call_meets F.slot_list_extend ⟨_, e, rfl⟩ F.entry_list_extend (F.args_list_extend_2 _ _)
    (ext_tup l its.toArray n b its2.toArray n2 dd sl hlong (by rw [List.size_toArray]; omega) (by omega)) ⟨e, ho, ?_⟩
  refine ⟨.non, _, I.lset (its' := its ++ its2) hH e (by simp) (r.append r2) ?_, rfl, q⟩
  rw [List.length_append]
  omega
theorem tuple_mul1 (l : Addr) (items : Array Value) (n : Nat) (dd : Option Addr) (sl : Array (Option Value)) (u : Tok) :
    Meets (Builtin.«tuple.__mul__» ⟨[.ref l, .int 1 u], []⟩) (fun _ R s => s.heap.get? l = some { cls := .type "tuple", dict := dd, data := .seq items n, slots := sl } ∧ R (.ok (.ret (Value.ref l))) s) :=
  .of_wp fun prog w A R s h => by
    obtain ⟨hp, g, d, tk, os⟩ := s
    obtain ⟨hl, h⟩ := h
    have f1 := AutoSeq1.idx_int
    wp_walk using wpAny_loadPart' hl
    exact ⟨_, rfl, h⟩
def rRep1 (K : PySem.W.Frag) : R2 := fun x y H Q => ∃ l xs, x = .ref l ∧ y = .int 1 ∧ SqT K H l xs ∧ Q (.ref l) H
theorem op_rep1 {X : Cx} : OpR X (binaryOp .Mult) (rRep1 X.K) := by
  intro pins s σ H x y v u Q I rx ry h
  obtain ⟨l, xs, rfl, rfl, hT, q⟩ := h
  cases rx
  obtain ⟨t, rfl⟩ := ry
  obtain ⟨its, r, ⟨⟨cls, dd, data, sl⟩, ho, hc, n, hd⟩, hs⟩ := I.tuple hT
  simp only at hc hd
  subst hc hd
  exact wpAny_binaryOp_repeat_ref (T := "tuple") (U := "int") (by decide) ⟨_, ho, rfl⟩ (fun s' => typeIs_int s' 1 t) noFill_tuple_mul F.fills_int_mul F.slot_int_rmul repeat_tuple F.slot_int_index.lookup
    (call_meets F.slot_int_rmul (typeIs_int s 1 t) F.entry_int_rmul (F.args_int_rmul_2 _ _) (int_rmul_tuple 1 t l its.toArray n dd sl)
      ⟨ho, rfl, ⟨_, ho, rfl⟩, call_meets F.slot_tuple_mul ⟨_, ho, rfl⟩ F.entry_tuple_mul (F.args_tuple_mul_2 _ _) (tuple_mul1 l its.toArray n dd sl t) ⟨ho, ⟨.ref l, H, I, rfl, q⟩⟩⟩)
section
variable {K : PySem.W.Frag}
def fRep (x y : D) : Option D := match x, y with
  | .tuple xs, .int k => if xs ≠ [] ∧ 1 ≤ k ∧ k ≤ 1000 ∧ xs.length ≤ 1000 then some (.tuple (List.replicate k.toNat xs).flatten) else none
  | _, _ => none
theorem RlA.rep {M : Adr} {H : Hp} {vs : List V} {ds : List D} (h : RlA K M H vs ds) : ∀ k : Nat, RlA K M H (List.replicate k vs).flatten (List.replicate k ds).flatten
  | 0 => .nil
  | k + 1 => by
    rw [List.replicate_succ, List.replicate_succ, List.flatten_cons, List.flatten_cons]
    exact h.append (RlA.rep h k)
theorem imr_rep : ImR K (fun x y H Q => rRepT K x y H Q ∨ rRep1 K x y H Q) fRep := fun H M S x y dx dy dz ok rx ry e Q q => by
  unfold fRep at e
  split at e <;> first | (cases e; done) | skip
  rename_i xs k
  split at e <;> cases e
  rename_i hh
  obtain ⟨h0, h1, h2, h3⟩ := hh
  cases rx with
  | tup g1 g2 =>
    cases ry
    rename_i a vs
    by_cases hk : k = 1
    · subst hk
      refine .inr ⟨a, vs, rfl, rfl, g1, ?_⟩
      have : (List.replicate (1 : Int).toNat xs).flatten = xs := by show ([xs] : List (List D)).flatten = xs; simp
      rw [this] at q
      exact q.here ok (.tup g1 g2)
    · refine .inl ⟨a, k, vs, rfl, rfl, g1, fun e => ?_, by omega, h2, by rw [g2.len]; exact h3, fun p hp => ?_⟩
      · subst e
        cases g2
        exact h0 rfl
      · exact q _ _ M (Ext.new hp) (ok.new hp) (.tup (.inl (.inl upd_same)) ((g2.rep _).mono (Ext.new hp)))
def fMulX (x y : D) : Option D := (fMul x y).or (fRep x y)
theorem imr_mulX : ImR K (fun x y H Q => rI CMul (fun i j => .int (i * j)) x y H Q ∨ (rRepT K x y H Q ∨ rRep1 K x y H Q)) fMulX := imr_or imr_mul imr_rep
/-- x.extend(a tuple) -/
def mExtT (i : Nat) (m : ME) : ME := fun ρ S => match ρ[i]? with
  | some (some (.loc n)) => (S[n]?.join).bind fun _ => (m ρ S).bind fun p => match p.1 with
    | .tuple ys => (p.2[n]?.join).bind fun xs => if xs.length + ys.length ≤ 1000000 then some (.none, p.2.set n (some (xs ++ ys))) else none
    | _ => none
  | _ => none
theorem im_extT {i : Nat} {te : TE} {me : ME} (h : ImE K te me) : ImE K (tBM K "list" (rExtT K) (tVar i) (tCons te tNil)) (mExtT i me) := fun σ H M ρ S d S' hs ok e Q q => by
  unfold mExtT at e
  split at e <;> first | (cases e; done) | skip
  rename_i n en
  cases e0 : S[n]?.join with
  | none => rw [e0] at e; cases e
  | some xs0 =>
    rw [e0, Option.bind_some] at e
    cases e1 : me ρ S with
    | none => rw [e1] at e; cases e
    | some p =>
      rw [e1, Option.bind_some] at e
      split at e <;> first | (cases e; done) | skip
      rename_i ys ey
      cases e3 : p.2[n]?.join with
      | none => rw [e3] at e; cases e
      | some xs =>
        rw [e3, Option.bind_some] at e
        split at e <;> cases e
        rename_i hz
        obtain ⟨a, us, hw, _, hus, _⟩ := cell_at hs ok en (join_some e0)
        refine ⟨_, hw, tyl hus, ?_⟩
        refine h σ H M ρ S p.1 p.2 hs ok e1 _ fun v H1 M1 x1 ok1 r1 => ?_
        obtain ⟨a', vs, c1, c2, c3, c4⟩ := cell_at (hs.mono x1) ok1 en (join_some e3)
        rw [hw] at c1
        cases c1
        rw [ey] at r1
        cases r1 with
        | tup g1 g2 =>
          rename_i l ws
          refine ⟨a, l, vs, ws, rfl, rfl, c3, g1, Nat.le_trans (show vs.length + ws.length ≤ 1000000 by rw [c4.len, g2.len]; exact hz) big, ?_⟩
          have xc : Ext M1 H1 M1 (upd H1 a (.lst (vs ++ ws))) := Ext.setc (List.mem_of_getElem? c2) c3
          exact q _ _ M1 (x1.trans xc) (ok1.setc c2 c3 (c4.append g2)) .non
end
section
variable {ι : Type} {F : Fam ι} {a e : Expr} {ma mb me : ME} {pos : Pos}
theorem d_mulX (h1 : PDE F a ma) (h2 : PDE F e mb) : PDE F (.BinOp a .Mult e pos) (mOp fMulX ma mb) := by
  obtain ⟨t1, p1, q1⟩ := h1
  obtain ⟨t2, p2, q2⟩ := h2
  exact ⟨_, fun i => pe_op (by have := OpR.or (op_mul (X := F.X i)) (OpR.or op_repT op_rep1); rw [F.hK i] at this; exact this) (p1 i) (p2 i), im_op imr_mulX q1 q2⟩
theorem d_extT (j : Nat) {x : Str} {px apos : Pos} (h : PDE F e me) (hN : ∀ i, (F.X i).N[j]? = some x := by exact fun _ => rfl) (hv : ∀ i, Vis (F.X i).env.scope x := by first | exact fun _ => Or.inl rfl | exact fun _ => Or.inr (Or.inl rfl) | exact fun _ => Or.inr (Or.inr rfl))
    (hd : (x == ("__debug__" : Str)) = false := by decide) (hcd : (x == ("__classdict__" : Str)) = false := by decide) (hbase : ∀ i, attributeBase (.Name x px) "extend" (F.X i).env (eval (.Name x px) (F.X i).env) = eval (.Name x px) (F.X i).env := by intro _; rfl)
    (hfew : ∀ i, ((backTo pos (starEach [e] (F.X i).env)).all (fun x => !x.1) && (backToKw pos (keywordEach [] (F.X i).env)).all (fun x => x.1.isSome) && decide ([e].length + ([] : List Keyword).length + (if ([] : List Keyword).isEmpty then 0 else 1) < 30)) = true := by intro _; rfl)
    (hline : (apos.endLine == pos.line) = true := by rfl) (hs : ∀ i, starEach [e] (F.X i).env = (false, eval e (F.X i).env) :: starEach [] (F.X i).env := by intro _; rfl) : PDE F (.Call (.Attribute (.Name x px) "extend" apos) [e] [] pos) (mExtT j me) := by
  obtain ⟨t, p, q⟩ := h
  exact ⟨_, fun i => by have := pe_bm (cpos := pos) (apos := apos) PySem.F.plainAttrs_list PySem.F.slot_list_extend PySem.F.type_list_extend (mt_extT (X := F.X i)) (pe_var (pos := px) (hN i) (hv i) hd hcd) (pa_cons (p i) pa_nil (hs i)) (hbase i) (hfew i) hline (hs i) rfl; rw [F.hK i] at this; exact this, im_extT q⟩
end
end G
set_option Elab.async false
set_option linter.all false
set_option autoImplicit false
set_option maxRecDepth 100000
set_option maxHeartbeats 4000000
/-! enumerate of tuples and lists, zip, in and not in, by data. -/
namespace G
open PySem PySem.Spec PyProof.Rows L2

/-! ### enumerate(tuple), on the heap -/
def IteT (K : PySem.W.Frag) (a : Addr) : It :=
  ⟨fun i H => ∃ (xs : List V) (x : V), SqT K H a xs ∧ xs[i]? = some x, fun i H v H' => ∃ T x, v = .ref T ∧ H T = none ∧ H' = upd H T (.tup [.int (i : Nat), x]) ∧ ∀ xs, SqT K H a xs → xs[i]? = some x, fun i H => ∃ xs : List V, SqT K H a xs ∧ xs.length ≤ i⟩
theorem turn_enumT {P : Program} {w : World} {K : PySem.W.Frag} {elts : List Expr} {kk : Nat} {tpos : Pos} (a e it : Addr) :
    Turn P w K (.Tuple elts kk tpos) (IteT K a) [e, it] e (fun i h => (∃ old, IsEnum h e it ((i : Nat) : Int) old) ∧ h.IsTupleIter it a i ∧ e ≠ it ∧ a ≠ it ∧ a ≠ e) where
  mem := by simp
  obj := fun i h st b hb => by
    obtain ⟨⟨old, he⟩, ⟨o, ho, hc, hd⟩, _⟩ := st
    have e' : b = e ∨ b = it := by simpa using hb
    rcases e' with z | z
    · rw [z]; exact ⟨_, he, fun v q => nomatch q⟩
    · rw [z]; exact ⟨o, ho, fun v q => by rw [hd] at q; cases q⟩
  keep := fun i h h' st k => let ⟨⟨old, he⟩, hi, hne⟩ := st; ⟨⟨old, k e (by simp) _ he⟩, hi.at fun o q => k it (by simp) o q, hne⟩
  item := by
    intro X hP hw hK hc i pins s σ H E I hf st hg
    subst hP hw hK
    obtain ⟨⟨old, he⟩, hit, hne, hai, hae⟩ := st
    obtain ⟨xs, x, hq, hx⟩ := hg
    obtain ⟨its, rv, p, hz⟩ := I.tuple hq
    obtain ⟨u, hu, ru⟩ := rv.get hx
    have hel : e < s.heap.objs.size := Heap.lt_size he
    have hil : it < s.heap.objs.size := by obtain ⟨_, q, _⟩ := hit; exact Heap.lt_size q
    have hlt : i < its.toArray.size := by
      obtain ⟨z, _⟩ := List.getElem?_eq_some_iff.mp hu
      simpa using z
    refine wpAny_pyNext_enum_itemD (Draws.tuple (prog := X.prog) (w := X.w) (A := X.A.in1) (show X.A.in1.handled = none from I.ok.hd hc) it a hai its.toArray) he (show s.heap.IsTupleIter it a i ∧ s.heap.IsTuple a its.toArray from ⟨hit, p⟩) hlt hne (by simp [hne, Ne.symm hae]) fun x' h' tk hP' ho hit' hT hsz hk => ?_
    have ex : u = x' := by
      have z : its[i]? = some x' := by simpa using hP'
      rw [hu] at z
      exact Option.some.inj z
    subst ex
    refine ⟨_, rfl, wpAny_letOwnedTupleGo_enum (s := { s with heap := h', toks := tk + 1 }) ho fun h'' he' sb => ?_⟩
    have hT2 : h''.get? s.heap.objs.size = some { cls := .type "tuple", data := .seq #[.int i tk, u] } := (sb.2 _ (Nat.ne_of_gt hel)).trans hT
    have new : ObjOk X.prog X.w (upd H s.heap.objs.size (.tup [.int (i : Nat), x])) h'' s.heap.objs.size (.tup [.int (i : Nat), x]) :=
      ⟨by show 2 ≤ sizeLine; decide, [.int i tk, u], .cons ⟨_, rfl⟩ (.cons ru .nil), ⟨_, hT2, rfl, _, rfl⟩⟩
    have I1 : Inv X pins σ (upd H s.heap.objs.size (.tup [.int (i : Nat), x])) { s with heap := h'', toks := tk + 1 } :=
      I.turnedNew (ch := [e, it]) (fun b ob hb q => (sb.2 b (fun z => hb (by simp [z]))).trans (hk b ob (fun z => hb (by simp [z])) (fun z => hb (by simp [z])) q)) hf (Nat.le_refl _) new
    refine ⟨.ref s.heap.objs.size, _, I1, rfl, ⟨_, x, rfl, I.hok.fresh (Nat.le_refl _), rfl, fun ys hy => by rw [I.tuple_inj hy hq]; exact hx⟩, ⟨⟨u, ?_⟩, hit'.1.at fun o q => (sb.2 it (Ne.symm hne)).trans q, hne, hai, hae⟩, fun b hb => ?_⟩
    · have e1 : ((i + 1 : Nat) : Int) = (i : Int) + 1 := by omega
      rw [e1]; exact he'
    · have hb' : b < s.heap.objs.size := by
        have e' : b = e ∨ b = it := by simpa using hb
        rcases e' with z | z
        · rw [z]; exact hel
        · rw [z]; exact hil
      rw [upd_ne (Nat.ne_of_lt hb')]
      exact (hf b hb).1
  done := by
    intro X hP hw hK hc i pins s σ H E I hf st hg
    subst hP hw hK
    obtain ⟨⟨old, he⟩, hit, hne, hai, hae⟩ := st
    obtain ⟨xs, hq, hx⟩ := hg
    obtain ⟨its, rv, p, hz⟩ := I.tuple hq
    obtain ⟨f0, f1, f2, f3, f4, f5⟩ := hf it (by simp)
    have hl := rv.length
    have p' : s.heap.IsTuple a its.toArray := p
    have none_ : its.toArray[i]? = none := by simp; omega
    have D : Draws X.prog X.w X.A.in1 it [it, a] i (fun _ _ => True) (fun j h => i ≤ j ∧ h.IsTupleIter it a j ∧ h.IsTuple a its.toArray) :=
      { live := fun j h z => let ⟨o, y, _⟩ := z.2.1; ⟨o, y⟩
        frame := fun j h h' z kk => ⟨z.1, z.2.1.at fun o y => kk it (by simp) o y, z.2.2.at fun o y => kk a (by simp) o y⟩
        item := fun j s Q E hj z _ => absurd z.1 (by omega)
        done := fun s Q E z hE => wpAny_nextOf_tuple_end (show X.A.in1.handled = none from I.ok.hd hc) z.2.1 z.2.2 none_ hE }
    exact wpAny_pyNext_enum_endD D he ⟨Nat.le_refl _, hit, p'⟩ fun h' eb => ⟨rfl, I.turned (t' := s.toks) (fun b o hb q => eb b o hb q) f0 f1 f3 f4 f5⟩
  self := fun A i s Q E st h => let ⟨⟨_, he⟩, _⟩ := st; wpAny_pyIter_enum he h

theorem meets_enumT (l : Addr) (items : Array Value) (n : Nat) (dct : Option Addr) (sl : Array (Option Value)) :
    Meets (Builtin.«enumerate.__new__» ⟨[.type "enumerate", .ref l], []⟩) fun _ R s => s.heap.get? l = some { cls := .type "tuple", dict := dct, data := .seq items n, slots := sl } ∧
      R (.ok (.ret (.ref (s.heap.push { cls := .type "tuple_iterator", data := .fields #[.ref l, .int 0 0] }).objs.size)))
        { s with heap := (s.heap.push { cls := .type "tuple_iterator", data := .fields #[.ref l, .int 0 0] }).push { cls := .type "enumerate", data := .fields #[.none, .bool false, .ref s.heap.objs.size, rawInt 0, .none, .none] } } :=
  .of_wp fun prog w A R s h => by
    obtain ⟨hp, g, d, tk, os⟩ := s
    obtain ⟨hl, h⟩ := h
    have sub1 := sub_enumerate
    have hT : (Shared.heap ⟨hp, g, d, tk, os⟩).IsTuple l items := ⟨_, hl, rfl, n, rfl⟩
    wp_walk using AutoSeq1.wpAny_loadPart' hl
    refine wpAny_stack_any fun st => wpAny_pure ?_
    split
    · rename_i c _ _ _ _ _
      cases (c == Value.type "enumerate")
      all_goals
        wp_walk using AutoSeq1.wpAny_loadPart' hl, wpAny_pyIter_tuple hT
        exact ⟨_, rfl, h⟩
    · wp_walk using AutoSeq1.wpAny_loadPart' hl, wpAny_pyIter_tuple hT
      exact ⟨_, rfl, h⟩
section
variable {prog : Program} {w : World} {A : Around} {E : Value → Shared → Prop} {s : Shared}
theorem call_enumT {l : Addr} {items : Array Value} {Q : Value → Shared → Prop} (hL : s.heap.IsTuple l items)
    (h : ∀ h', IsEnum h' (s.heap.objs.size + 1) s.heap.objs.size 0 .none → h'.IsTupleIter s.heap.objs.size l 0 → h'.objs.size = s.heap.objs.size + 2 → l < s.heap.objs.size →
      (∀ b o, s.heap.get? b = some o → h'.get? b = some o) → Q (.ref (s.heap.objs.size + 1)) { s with heap := h' }) :
    wpAny (model prog w) A (call (.type "enumerate") [.ref l]) Q E s := by
  obtain ⟨⟨c, dct, dt, sl⟩, hl, hc, n, hd⟩ := hL
  have hc : c = .type "tuple" := hc
  have hd : dt = .seq items n := hd
  subst hc hd
  refine callType_new PySem.F.called_enumerate (by decide) (PySem.F.typeCall_enumerate_1 _) (PySem.F.newCall_enumerate_1 _) (fun obj => PySem.F.args_object_init_2 obj _) PySem.F.entry_enumerate_new
    (meets_enumT l items n dct sl) ⟨hl, ?_⟩
  generalize ei : ({ cls := .type "tuple_iterator", data := .fields #[.ref l, .int 0 0] } : Obj) = oi
  have fi : oi.isFreed = false := by subst ei; rfl
  have g1 : (s.heap.push oi).get? s.heap.objs.size = some oi := Heap.get?_push_size _ fi
  have hz : (s.heap.push oi).objs.size = s.heap.objs.size + 1 := Heap.size_push ..
  show _ ∧ _
  rw [hz]
  generalize eo : ({ cls := .type "enumerate", data := .fields #[.none, .bool false, .ref s.heap.objs.size, rawInt 0, .none, .none] } : Obj) = oe
  have fe : oe.isFreed = false := by subst eo; rfl
  have g2 : ((s.heap.push oi).push oe).get? (s.heap.objs.size + 1) = some oe := by
    have := Heap.get?_push_size (s.heap.push oi) (o := oe) fe
    rwa [hz] at this
  subst eo
  refine ⟨⟨_, g2, rfl⟩, h _ g2 ⟨oi, Heap.get?_push_of_some _ g1, by subst ei; rfl, by subst ei; rfl⟩ (by rw [Heap.size_push, hz]) (Heap.lt_size hl) fun b o x => Heap.get?_push_of_some _ (Heap.get?_push_of_some _ x)⟩
end
def iEnumT (K : PySem.W.Frag) (ta : TA) : TI := fun σ H R => ta σ H fun vs H1 => ∃ a xs, vs = [.ref a] ∧ SqT K H1 a xs ∧ R (IteT K a) H1
theorem pi_enumT {X : Cx} {e : Expr} {ta : TA} {p pos tpos : Pos} {elts : List Expr} {kk : Nat} (hg : Gl X "enumerate") (hm : X.mg "enumerate" = none) (ha : PA X [e] ta) (hs : starEach [e] X.env = [(false, eval e X.env)] := by rfl) :
    PI X (.Tuple elts kk tpos) (.Call (.Name "enumerate" p) [e] [] pos) (iEnumT X.K ta) := by
  refine ⟨fun pins s σ H R I h => Call_ (ld_blt I hg hm boot_enumerate (PyProof.Rows.callWith_type1 (thn (ha.run pos pins s σ H _ I h) fun us s1 ⟨vs, H1, I1, r1, q1⟩ => ?_) hs rfl))⟩
  obtain ⟨a, xs, ex, hq, q⟩ := q1
  subst ex
  cases r1 with
  | cons r rr =>
    cases rr
    cases r
    obtain ⟨its, rv, p', hz⟩ := I1.tuple hq
    refine call_enumT (show s1.heap.IsTuple a its.toArray from p') fun h' he hit hsz hal hk => wpAny_pyIter_enum he ?_
    have I2 : Inv X pins σ H1 { s1 with heap := h' } := I1.kept (t' := s1.toks) hk
    generalize ez : s1.heap.objs.size = z at *
    refine ⟨z + 1, [z + 1, z], _, _, H1, rfl, I2, turn_enumT a (z + 1) z, ⟨⟨.none, he⟩, hit, Nat.succ_ne_self _, Nat.ne_of_lt hal, Nat.ne_of_lt (Nat.lt_succ_of_lt hal)⟩, fun b hb => ?_, q⟩
    have hle : s1.heap.objs.size ≤ b := by
      rw [ez]
      rcases List.mem_cons.mp hb with y | y
      · rw [y]; exact Nat.le_succ _
      · rw [List.mem_singleton.mp y]; exact Nat.le_refl _
    exact I1.fpOk hle (I1.hok.fresh hle)

/-! ### enumerate, zip, by data -/
def enumD (k : Nat) : List D → List D
  | [] => []
  | x :: xs => .tuple [.int (k : Nat), x] :: enumD (k + 1) xs
theorem enumD_len : ∀ (xs : List D) (k : Nat), (enumD k xs).length = xs.length
  | [], _ => rfl
  | _ :: xs, k => congrArg (· + 1) (enumD_len xs (k + 1))
theorem enumD_get : ∀ (xs : List D) (k i : Nat) (d : D), (enumD k xs)[i]? = some d → ∃ x, xs[i]? = some x ∧ d = .tuple [.int ((k + i : Nat) : Int), x]
  | [], _, _, _, h => by cases h
  | x :: xs, k, 0, d, h => ⟨x, rfl, (Option.some.inj h).symm⟩
  | x :: xs, k, i + 1, d, h => by
    obtain ⟨y, e1, e2⟩ := enumD_get xs (k + 1) i d h
    exact ⟨y, e1, by rw [e2, show k + 1 + i = k + (i + 1) by omega]⟩
section
variable {K : PySem.W.Frag} {M M' : Adr} {H H' : Hp} {S S' : Sto} {ta tb tc te : TE} {ma mb mc me : ME} {d : D} {t : TA} {m : MA}
theorem pairR {T : Addr} {x y : V} {dx dy : D} {H : Hp} (hT : H T = none) (rx : Rl K M H x dx) (ry : Rl K M H y dy) : Rl K M (upd H T (.tup [x, y])) (.ref T) (.tuple [dx, dy]) :=
  .tup (.inl (.inl upd_same)) (.cons (rx.mono (Ext.new hT)) (.cons (ry.mono (Ext.new hT)) .nil))
theorem itok_el {a : Addr} {vs : List V} {xs : List D} (hl : LsR K M H a vs) (r : RlA K M H vs xs) : ItOk K (Ite K a) (enumD 0 xs) M H := fun M1 H1 S1 x ok i => by
  have hl1 := (x.lsr hl).sql
  have r1 := r.monoW x
  rw [enumD_len]
  refine ⟨fun h => ⟨vs, hl1, by rw [r1.len]; exact h⟩, fun h => ⟨vs, vs[i]'(by rw [r1.len]; exact h), hl1, List.getElem?_eq_getElem _⟩, fun v H2 d e h => ?_⟩
  obtain ⟨T, w, rfl, hT, rfl, h⟩ := h
  obtain ⟨dx, e1, rfl⟩ := enumD_get xs 0 i d e
  obtain ⟨u, e2, r2⟩ := r1.get e1
  have := h vs hl1
  rw [e2] at this
  cases this
  rw [Nat.zero_add]
  exact ⟨Ext.new hT, ok.new hT, pairR hT (.int _) r2⟩
theorem itok_et {a : Addr} {vs : List V} {xs : List D} (hl : SqT K H a vs) (r : RlA K M H vs xs) : ItOk K (IteT K a) (enumD 0 xs) M H := fun M1 H1 S1 x ok i => by
  have hl1 := x.sqt hl
  have r1 := r.monoW x
  rw [enumD_len]
  refine ⟨fun h => ⟨vs, hl1, by rw [r1.len]; exact h⟩, fun h => ⟨vs, vs[i]'(by rw [r1.len]; exact h), hl1, List.getElem?_eq_getElem _⟩, fun v H2 d e h => ?_⟩
  obtain ⟨T, w, rfl, hT, rfl, h⟩ := h
  obtain ⟨dx, e1, rfl⟩ := enumD_get xs 0 i d e
  obtain ⟨u, e2, r2⟩ := r1.get e1
  have := h vs hl1
  rw [e2] at this
  cases this
  rw [Nat.zero_add]
  exact ⟨Ext.new hT, ok.new hT, pairR hT (.int _) r2⟩
def mEnum (m : MA) : MN := fun ρ S => (mDs m ρ S).bind fun p => match p.1 with
  | [.list xs] => some (enumD 0 xs, p.2)
  | [.tuple xs] => some (enumD 0 xs, p.2)
  | _ => none
def iEnumA (K : PySem.W.Frag) (ta : TA) : TI := fun σ H R => iEnum K ta σ H R ∨ iEnumT K ta σ H R
theorem im_enum (h : ImA K t m) : ImI K (iEnumA K t) (mEnum m) := fun σ H M ρ S xs S' hs ok e R q => by
  unfold mEnum at e
  cases e1 : mDs m ρ S with
  | none => rw [e1] at e; cases e
  | some p =>
    rw [e1, Option.bind_some] at e
    obtain ⟨ds, S1⟩ := p
    simp only at e
    split at e <;> cases e
    · refine .inl (mDs_ok h hs ok e1 fun vs H1 M1 x1 ok1 r1 => ?_)
      cases r1 with
      | cons r1 r2 =>
        cases r2
        cases r1 with
        | lst h1 h2 => exact ⟨_, _, rfl, h1.sql, q _ H1 M1 x1 ok1 (itok_el h1 h2)⟩
    · refine .inr (mDs_ok h hs ok e1 fun vs H1 M1 x1 ok1 r1 => ?_)
      cases r1 with
      | cons r1 r2 =>
        cases r2
        cases r1 with
        | tup h1 h2 => exact ⟨_, _, rfl, h1, q _ H1 M1 x1 ok1 (itok_et h1 h2)⟩
def zipD (xs ys : List D) : List D := List.zipWith (fun x y => .tuple [x, y]) xs ys
theorem zipD_get {xs ys : List D} {i : Nat} {d : D} (h : (zipD xs ys)[i]? = some d) : ∃ x y, xs[i]? = some x ∧ ys[i]? = some y ∧ d = .tuple [x, y] := by
  unfold zipD at h
  rw [List.getElem?_zipWith] at h
  cases e1 : xs[i]? with
  | none => rw [e1] at h; cases h
  | some x =>
    cases e2 : ys[i]? with
    | none => rw [e1, e2] at h; cases h
    | some y => rw [e1, e2] at h; exact ⟨x, y, rfl, rfl, (Option.some.inj h).symm⟩
theorem zipD_len {xs ys : List D} : (zipD xs ys).length = min xs.length ys.length := by unfold zipD; exact List.length_zipWith
theorem itok_zl {a b : Addr} {vs ws : List V} {xs ys : List D} (hl : LsR K M H a vs) (r : RlA K M H vs xs) (hl' : LsR K M H b ws) (r' : RlA K M H ws ys) : ItOk K (Itz K a b) (zipD xs ys) M H := fun M1 H1 S1 x ok i => by
  have hl1 := (x.lsr hl).sql
  have hl2 := (x.lsr hl').sql
  have r1 := r.monoW x
  have r2 := r'.monoW x
  rw [zipD_len]
  refine ⟨fun h => ⟨vs, ws, hl1, hl2, by rw [r1.len, r2.len]; omega⟩, fun h => ⟨vs, ws, vs[i]'(by rw [r1.len]; omega), ws[i]'(by rw [r2.len]; omega), hl1, hl2, List.getElem?_eq_getElem _, List.getElem?_eq_getElem _⟩, fun v H2 d e h => ?_⟩
  obtain ⟨T, v1, v2, rfl, hT, rfl, h, h'⟩ := h
  obtain ⟨dx, dy, e1, e2, rfl⟩ := zipD_get e
  obtain ⟨u, e3, r3⟩ := r1.get e1
  obtain ⟨u', e4, r4⟩ := r2.get e2
  have q1 := h vs hl1
  have q2 := h' ws hl2
  rw [e3] at q1
  rw [e4] at q2
  cases q1
  cases q2
  exact ⟨Ext.new hT, ok.new hT, pairR hT r3 r4⟩
theorem itok_zt {a b : Addr} {vs ws : List V} {xs ys : List D} (hl : SqT K H a vs) (r : RlA K M H vs xs) (hl' : SqT K H b ws) (r' : RlA K M H ws ys) : ItOk K (RZ.ItzT K a b) (zipD xs ys) M H := fun M1 H1 S1 x ok i => by
  have hl1 := x.sqt hl
  have hl2 := x.sqt hl'
  have r1 := r.monoW x
  have r2 := r'.monoW x
  rw [zipD_len]
  refine ⟨fun h => ⟨vs, ws, hl1, hl2, by rw [r1.len, r2.len]; omega⟩, fun h => ⟨vs, ws, vs[i]'(by rw [r1.len]; omega), ws[i]'(by rw [r2.len]; omega), hl1, hl2, List.getElem?_eq_getElem _, List.getElem?_eq_getElem _⟩, fun v H2 d e h => ?_⟩
  obtain ⟨T, v1, v2, rfl, hT, rfl, h, h'⟩ := h
  obtain ⟨dx, dy, e1, e2, rfl⟩ := zipD_get e
  obtain ⟨u, e3, r3⟩ := r1.get e1
  obtain ⟨u', e4, r4⟩ := r2.get e2
  have q1 := h vs hl1
  have q2 := h' ws hl2
  rw [e3] at q1
  rw [e4] at q2
  cases q1
  cases q2
  exact ⟨Ext.new hT, ok.new hT, pairR hT r3 r4⟩
def mZip (m : MA) : MN := fun ρ S => (mDs m ρ S).bind fun p => match p.1 with
  | [.list xs, .list ys] => some (zipD xs ys, p.2)
  | [.tuple xs, .tuple ys] => some (zipD xs ys, p.2)
  | _ => none
theorem im_zip (h : ImA K t m) : ImI K (RZ.iZipA K t) (mZip m) := fun σ H M ρ S xs S' hs ok e R q => by
  unfold mZip at e
  cases e1 : mDs m ρ S with
  | none => rw [e1] at e; cases e
  | some p =>
    rw [e1, Option.bind_some] at e
    obtain ⟨ds, S1⟩ := p
    simp only at e
    refine mDs_ok h hs ok e1 fun vs H1 M1 x1 ok1 r1 => ?_
    split at e <;> cases e
    · cases r1 with
      | cons r1 r2 =>
        cases r2 with
        | cons r2 r3 =>
          cases r3
          cases r1 with
          | lst h1 h2 =>
            cases r2 with
            | lst h3 h4 => exact ⟨_, _, _, _, rfl, .inl ⟨h1.sql, h3.sql, q _ H1 M1 x1 ok1 (itok_zl h1 h2 h3 h4)⟩⟩
    · cases r1 with
      | cons r1 r2 =>
        cases r2 with
        | cons r2 r3 =>
          cases r3
          cases r1 with
          | tup h1 h2 =>
            cases r2 with
            | tup h3 h4 => exact ⟨_, _, _, _, rfl, .inr ⟨h1, h3, q _ H1 M1 x1 ok1 (itok_zt h1 h2 h3 h4)⟩⟩
/-! ### in -/
def inD (x : D) (ds : List D) : Option Bool := if SeqAt.shaped x && SeqAt.shaped (.list ds) then some (ds.any fun z => PyData.eqv z x) else none
def rInT (K : PySem.W.Frag) (g : Bool → Bool) : R2 := fun x y H Q => ∃ d ds, Dp K H x d ∧ Dp K H y (.tuple ds) ∧ SeqAt.shaped d = true ∧ SeqAt.shaped (.list ds) = true ∧ Q (.bl (g (ds.any fun z => PyData.eqv z d))) H
theorem op_inT {X : Cx} (hu : X.A.units + 65 < cLine) : OpR X (compareOp .In) (rInT X.K id) := fun pins s σ H x y v u Q I rx ry h => by
  obtain ⟨d, ds, hd, he, sd, se, q⟩ := h
  obtain ⟨as, r1⟩ := Dp.reads I d x v hd rx
  obtain ⟨bs, r2⟩ := Dp.reads I (.tuple ds) y u he ry
  refine SeqAt.in_tuple_reads r2 r1 (SeqAt.canLay_of_shaped se) (SeqAt.canLay_of_shaped sd) ?_ ⟨.bl _, H, I, rfl, q⟩
  exact room_in_shaped sd hu
theorem op_notInT {X : Cx} (hu : X.A.units + 65 < cLine) : OpR X (compareOp .NotIn) (rInT X.K not) := fun pins s σ H x y v u Q I rx ry h => by
  obtain ⟨d, ds, hd, he, sd, se, q⟩ := h
  obtain ⟨as, r1⟩ := Dp.reads I d x v hd rx
  obtain ⟨bs, r2⟩ := Dp.reads I (.tuple ds) y u he ry
  refine SeqAt.notIn_tuple_reads r2 r1 (SeqAt.canLay_of_shaped se) (SeqAt.canLay_of_shaped sd) ?_ ⟨.bl _, H, I, rfl, q⟩
  exact room_in_shaped sd hu
def mInQ (g : Bool → Bool) (ma : ME) (mq : MN) : ME := fun ρ S => (ma ρ S).bind fun p => (mq ρ p.2).bind fun q => (inD p.1 q.1).map fun b => (.bool (g b), q.2)
theorem im_inQ {g : Bool → Bool} {r : R2} {mq : MN} (hr : ∀ (x y : V) (d : D) (ds : List D) (H : Hp) (Q : VK), Dp K H x d → (Dp K H y (.list ds) ∨ Dp K H y (.tuple ds)) → SeqAt.shaped d = true → SeqAt.shaped (.list ds) = true → Q (.bl (g (ds.any fun z => PyData.eqv z d))) H → r x y H Q)
    (ha : ImE K ta ma) (hq : ImQ K tb mq) : ImE K (tOp r ta tb) (mInQ g ma mq) := fun σ H M ρ S d S' hs ok e Q q => by
  unfold mInQ at e
  cases e1 : ma ρ S with
  | none => rw [e1] at e; cases e
  | some p =>
    rw [e1, Option.bind_some] at e
    cases e2 : mq ρ p.2 with
    | none => rw [e2] at e; cases e
    | some p2 =>
      rw [e2, Option.bind_some] at e
      unfold inD at e
      split at e <;> cases e
      rename_i hb
      rw [Bool.and_eq_true] at hb
      refine ha σ H M ρ S p.1 p.2 hs ok e1 _ fun x H1 M1 x1 ok1 r1 => ?_
      refine hq σ H1 M1 ρ p.2 p2.1 p2.2 (hs.mono x1) ok1 e2 _ fun a vs H2 M2 x2 ok2 sq r2 => ?_
      refine hr x (.ref a) p.1 p2.1 H2 Q (r1.mono x2).dp ?_ hb.1 hb.2 (q _ H2 M2 (x1.trans x2) ok2 (.bl _))
      rcases sq with sq | sq
      · exact .inl (.lst sq (RlA.dp _ _ r2))
      · exact .inr (.tup sq (RlA.dp _ _ r2))
end
section
variable {ι : Type} {F : Fam ι} {a e : Expr} {ma mb me : ME} {m : MA} {pos : Pos}
theorem k_units2 (F : Fam ι) (i : ι) : (F.X i).A.units + 65 < cLine := by have := (F.room i).un; omega
variable {mq : MN}
theorem d_in (h1 : PDE F a ma) (h2 : PDQ F e mq) (hm : behindInMarks .In e = false := by rfl) : PDE F (.Compare a [.In] [e] pos) (mInQ (fun b => b) ma mq) := by
  obtain ⟨t1, p1, q1⟩ := h1
  obtain ⟨t2, p2, q2⟩ := h2
  exact ⟨_, fun i => pe_cmpR (by have := OpR.or (op_inD (X := F.X i) (k_units2 F i)) (op_inT (X := F.X i) (k_units2 F i)); rw [F.hK i] at this; exact this) (p1 i) (p2 i) hm,
    im_inQ (r := fun x y H Q => rInD F.K x y H Q ∨ rInT F.K id x y H Q) (fun x y d ds H Q hd he s1 s2 q => he.elim (fun he => .inl ⟨d, ds, hd, he, s1, s2, q⟩) fun he => .inr ⟨d, ds, hd, he, s1, s2, q⟩) q1 q2⟩
theorem d_inT (h1 : PDE F a ma) (h2 : PDQ F e mq) (hm : behindInMarks .In e = false := by rfl) : PDT F (.Compare a [.In] [e] pos) (mTB (mInQ (fun b => b) ma mq)) := by
  obtain ⟨t1, p1, q1⟩ := h1
  obtain ⟨t2, p2, q2⟩ := h2
  exact ⟨_, fun i => pt_cmpR (by have := OpR.or (op_inD (X := F.X i) (k_units2 F i)) (op_inT (X := F.X i) (k_units2 F i)); rw [F.hK i] at this; exact this) (p1 i) (p2 i) hm,
    im_tt (im_inQ (r := fun x y H Q => rInD F.K x y H Q ∨ rInT F.K id x y H Q) (fun x y d ds H Q hd he s1 s2 q => he.elim (fun he => .inl ⟨d, ds, hd, he, s1, s2, q⟩) fun he => .inr ⟨d, ds, hd, he, s1, s2, q⟩) q1 q2)⟩
theorem d_notin (h1 : PDE F a ma) (h2 : PDQ F e mq) (hm : behindInMarks .NotIn e = false := by rfl) : PDE F (.Compare a [.NotIn] [e] pos) (mInQ not ma mq) := by
  obtain ⟨t1, p1, q1⟩ := h1
  obtain ⟨t2, p2, q2⟩ := h2
  exact ⟨_, fun i => pe_cmpR (by have := OpR.or (op_notInD (X := F.X i) (k_units2 F i)) (op_notInT (X := F.X i) (k_units2 F i)); rw [F.hK i] at this; exact this) (p1 i) (p2 i) hm,
    im_inQ (r := fun x y H Q => rNotInD F.K x y H Q ∨ rInT F.K not x y H Q) (fun x y d ds H Q hd he s1 s2 q => he.elim (fun he => .inl ⟨d, ds, hd, he, s1, s2, q⟩) fun he => .inr ⟨d, ds, hd, he, s1, s2, q⟩) q1 q2⟩
theorem d_notinT (h1 : PDE F a ma) (h2 : PDQ F e mq) (hm : behindInMarks .NotIn e = false := by rfl) : PDT F (.Compare a [.NotIn] [e] pos) (mTB (mInQ not ma mq)) := by
  obtain ⟨t1, p1, q1⟩ := h1
  obtain ⟨t2, p2, q2⟩ := h2
  exact ⟨_, fun i => pt_cmpR (by have := OpR.or (op_notInD (X := F.X i) (k_units2 F i)) (op_notInT (X := F.X i) (k_units2 F i)); rw [F.hK i] at this; exact this) (p1 i) (p2 i) hm,
    im_tt (im_inQ (r := fun x y H Q => rNotInD F.K x y H Q ∨ rInT F.K not x y H Q) (fun x y d ds H Q hd he s1 s2 q => he.elim (fun he => .inl ⟨d, ds, hd, he, s1, s2, q⟩) fun he => .inr ⟨d, ds, hd, he, s1, s2, q⟩) q1 q2)⟩
theorem d_enum {elts : List Expr} {kk : Nat} {px tpos : Pos} (hm : ∀ i, (F.X i).mg "enumerate" = none) (h : PDA F [e] m) (hg : ∀ i, Gl (F.X i) "enumerate" := by exact fun _ => rfl) (hs : ∀ i, starEach [e] (F.X i).env = [(false, eval e (F.X i).env)] := by intro _; rfl) :
    PDI F (.Tuple elts kk tpos) (.Call (.Name "enumerate" px) [e] [] pos) (mEnum m) := by
  obtain ⟨t, p, q⟩ := h
  exact ⟨_, fun i => by have := pi_or (pi_enum (elts := elts) (kk := kk) (tpos := tpos) (pos := pos) (p := px) (hg i) (hm i) (p i) (hs i)) (pi_enumT (hg i) (hm i) (p i) (hs i)); rw [F.hK i] at this; exact this, im_enum q⟩
theorem d_zip {elts : List Expr} {kk : Nat} {px tpos : Pos} (hm : ∀ i, (F.X i).mg "zip" = none) (h : PDA F [a, e] m) (hg : ∀ i, Gl (F.X i) "zip" := by exact fun _ => rfl)
    (hs : ∀ i, starEach [a, e] (F.X i).env = (false, eval a (F.X i).env) :: starEach [e] (F.X i).env := by intro _; rfl) (hp : ∀ i, (backTo pos (starEach [e] (F.X i).env)).any (·.1) = false := by intro _; rfl) :
    PDI F (.Tuple elts kk tpos) (.Call (.Name "zip" px) [a, e] [] pos) (mZip m) := by
  obtain ⟨t, p, q⟩ := h
  exact ⟨_, fun i => by have := RZ.pi_zipA (elts := elts) (kk := kk) (tpos := tpos) (pos := pos) (p := px) (hg i) (hm i) (p i) (hs i) (hp i); rw [F.hK i] at this; exact this, im_zip q⟩
end
end G
set_option Elab.async false
set_option linter.all false
set_option autoImplicit false
set_option maxRecDepth 100000
set_option maxHeartbeats 4000000
/-! list + list, slices of lists that may be cells. -/
namespace G
open PySem PySem.Spec PyProof.Rows L2
theorem meets_addL {l b : Addr} {xs ys : Array Value} {n m : Nat} {dl db : Option Addr} {sl sb : Array (Option Value)} (hc : xs.size + ys.size ≤ sizeLine) :
    Meets (Builtin.«list.__add__» ⟨[.ref l, .ref b], []⟩) fun _ R s => s.heap.get? l = some { cls := .type "list", dict := dl, data := .seq xs n, slots := sl } ∧ s.heap.get? b = some { cls := .type "list", dict := db, data := .seq ys m, slots := sb } ∧
      R (.ok (.ret (.ref s.heap.objs.size))) { s with heap := s.heap.push { cls := .type "list", data := .seq (xs ++ ys) } } :=
  .of_wp fun prog w A R s h => by
    obtain ⟨z1, z2, z3, z4, z5⟩ := s
    obtain ⟨e1, e2, q⟩ := h
    have k1 := AutoSeq1.idx_int
    have k2 := AutoSeq1.sub_tuple_tuple
    have k3 := AutoSeq1.sub_list_list
    have k4 := AutoSeq1.sub_tuple_list
    have k5 := AutoSeq1.sub_list_tuple
    wp_walk using AutoSeq1.wpAny_loadPart' e1, AutoSeq1.wpAny_loadPart' e2
    exact ⟨_, rfl, q⟩
def rCatL (K : PySem.W.Frag) : R2 := fun x y H Q => ∃ a b xs ys, x = .ref a ∧ y = .ref b ∧ SqL K H a xs ∧ SqL K H b ys ∧ xs.length + ys.length ≤ sizeLine ∧ ∀ p, H p = none → Q (.ref p) (upd H p (.lst (xs ++ ys)))
theorem op_catL {X : Cx} : OpR X (binaryOp .Add) (rCatL X.K) := fun pins s σ H x y v u Q I rx ry h => by
  obtain ⟨a, b, xs, ys, rfl, rfl, ha, hb, hz, q⟩ := h
  cases rx
  cases ry
  obtain ⟨its, r, ⟨⟨c1, d1, dt1, s1⟩, n, e1, hc1, hd1, ht1⟩, _⟩ := I.list ha
  obtain ⟨its2, r2, ⟨⟨c2, d2, dt2, s2⟩, n2, e2, hc2, hd2, ht2⟩, _⟩ := I.list hb
  simp only at hc1 ht1 hc2 ht2
  subst hc1 ht1 hc2 ht2
  have l1 := r.length
  have l2 := r2.length
  refine concat_meets ⟨_, e1, rfl⟩ ⟨_, e2, rfl⟩ noFill_list_add seq_list_add PySem.F.slot_list_add PySem.F.entry_list_add (PySem.F.args_list_add_2 _ _) (meets_addL (by rw [List.size_toArray, List.size_toArray]; omega)) ⟨e1, e2, ?_⟩
  have ea : its.toArray ++ its2.toArray = (its ++ its2).toArray := by simp
  rw [ea]
  exact ⟨.ref _, _, I.lnew (t' := s.toks) (r.append r2) (by rw [List.length_append]; omega), rfl, q _ I.fresh⟩

section
variable {K : PySem.W.Frag} {M M' : Adr} {H H' : Hp} {S S' : Sto} {ta tb tc te : TE} {ma mb mc me : ME} {d : D}
theorem lvar_at {σ : L2.St} {ρ : Rho} {i : Nat} {xs : List D} (hr : RSt K M H σ ρ) (ok : Ok K M S H) (h : mLVar i ρ S = some (xs, S')) :
    S' = S ∧ ∃ a vs, σ[i]? = some (some (.ref a)) ∧ SqL K H a vs ∧ RlA K M H vs xs := by
  unfold mLVar at h
  split at h
  · rename_i xs e
    cases h
    obtain ⟨v, e1, r⟩ := hr.at_ i _ e
    cases r with
    | lst h1 h2 => exact ⟨rfl, _, _, e1, h1.sql, h2⟩
  · rename_i n e
    cases e2 : S[n]? with
    | none => rw [e2] at h; cases h
    | some c =>
      cases c with
      | none => rw [e2] at h; cases h
      | some xs =>
        rw [e2] at h
        cases h
        obtain ⟨v, e1, a, rfl, r⟩ := hr.at_ i _ e
        obtain ⟨a', vs, m1, m2, m3⟩ := ok.cell n _ e2
        have ea : a = a' := by rcases r with r | r <;> (rw [r] at m1; cases m1); rfl
        subst ea
        exact ⟨rfl, _, _, e1, .inl (.inl m2), m3⟩
  · cases h
theorem lvar_some {σ : L2.St} {ρ : Rho} {i : Nat} {p : List D × Sto} (hr : RSt K M H σ ρ) (h : mLVar i ρ S = some p) : ∃ v, σ[i]? = some (some v) := by
  unfold mLVar at h
  split at h
  · rename_i e; obtain ⟨v, e1, _⟩ := hr.at_ i _ e; exact ⟨v, e1⟩
  · rename_i e; obtain ⟨v, e1, _⟩ := hr.at_ i _ e; exact ⟨v, e1⟩
  · cases h
/-- name + new list: the name is read behind it -/
def mCatV (j : Nat) (mb : MN) : MN := fun ρ S => (mb ρ S).bind fun q => (mLVar j ρ q.2).bind fun p => if p.1.length + q.1.length ≤ 1000000 then some (p.1 ++ q.1, q.2) else none
theorem im_catV {j : Nat} {m2 : MN} (h2 : ImN K tb m2) : ImN K (tOp (rCatL K) (tVar j) tb) (mCatV j m2) := fun σ H M ρ S o S' hs ok e Q q => by
  unfold mCatV at e
  cases e1 : m2 ρ S with
  | none => rw [e1] at e; cases e
  | some p =>
    rw [e1, Option.bind_some] at e
    cases e2 : mLVar j ρ p.2 with
    | none => rw [e2] at e; cases e
    | some p2 =>
      rw [e2, Option.bind_some] at e
      split at e <;> cases e
      rename_i hz
      obtain ⟨v, hv⟩ := lvar_some hs e2
      refine ⟨v, hv, h2 σ H M ρ S p.1 p.2 hs ok e1 _ fun b ws H2 M2 x2 ok2 k0 k1 k2 r2 => ?_⟩
      obtain ⟨_, a, vs, ha, sq, r⟩ := lvar_at (hs.mono x2) ok2 e2
      rw [hv] at ha
      cases ha
      refine ⟨a, b, vs, ws, rfl, rfl, sq, .inl (.inl k1), Nat.le_trans (by rw [r.len, r2.len]; exact hz) big, fun p hp => ?_⟩
      exact q p _ _ (M2.gh p) (x2.trans (Ext.ghost hp)) (ok2.ghost hp) (x2.free p hp) upd_same List.mem_cons_self ((r.append r2).fresh hp)
/-- data + new list, new list + data -/
def mCatX (ma : ME) (mb : MN) : MN := fun ρ S => (mLE ma ρ S).bind fun p => (mb ρ p.2).bind fun q => if p.1.length + q.1.length ≤ 1000000 then some (p.1 ++ q.1, q.2) else none
theorem le_some {ρ : Rho} {p : List D × Sto} (h : mLE me ρ S = some p) : me ρ S = some (.list p.1, p.2) := by
  unfold mLE at h
  cases e1 : me ρ S with
  | none => rw [e1] at h; cases h
  | some q =>
    rw [e1] at h
    obtain ⟨y, S1⟩ := q
    cases y <;> first | (cases h; done) | skip
    cases h
    rfl
theorem im_catX {m2 : MN} (h1 : ImE K ta ma) (h2 : ImN K tb m2) : ImN K (tOp (rCatL K) ta tb) (mCatX ma m2) := fun σ H M ρ S o S' hs ok e Q q => by
  unfold mCatX at e
  cases e1 : mLE ma ρ S with
  | none => rw [e1] at e; cases e
  | some p =>
    rw [e1, Option.bind_some] at e
    cases e2 : m2 ρ p.2 with
    | none => rw [e2] at e; cases e
    | some p2 =>
      rw [e2, Option.bind_some] at e
      split at e <;> cases e
      rename_i hz
      refine h1 σ H M ρ S _ _ hs ok (le_some e1) _ fun v H1 M1 x1 ok1 r1 => ?_
      refine h2 σ H1 M1 ρ _ p2.1 p2.2 (hs.mono x1) ok1 e2 _ fun b ws H2 M2 x2 ok2 k0 k1 k2 r2 => ?_
      have r3 := r1.mono x2
      cases r3 with
      | lst z1 z2 =>
        refine ⟨_, b, _, ws, rfl, rfl, z1.sql, .inl (.inl k1), Nat.le_trans (by rw [z2.len, r2.len]; exact hz) big, fun p hp => ?_⟩
        have x := x1.trans x2
        exact q p _ _ (M2.gh p) (x.trans (Ext.ghost hp)) (ok2.ghost hp) (x.free p hp) upd_same List.mem_cons_self ((z2.append r2).fresh hp)
def mCatY (ma : MN) (mb : ME) : MN := fun ρ S => (ma ρ S).bind fun p => (mLE mb ρ p.2).bind fun q => if p.1.length + q.1.length ≤ 1000000 then some (p.1 ++ q.1, q.2) else none
theorem im_catY {m1 : MN} (h1 : ImN K ta m1) (h2 : ImE K tb mb) : ImN K (tOp (rCatL K) ta tb) (mCatY m1 mb) := fun σ H M ρ S o S' hs ok e Q q => by
  unfold mCatY at e
  cases e1 : m1 ρ S with
  | none => rw [e1] at e; cases e
  | some p =>
    rw [e1, Option.bind_some] at e
    cases e2 : mLE mb ρ p.2 with
    | none => rw [e2] at e; cases e
    | some p2 =>
      rw [e2, Option.bind_some] at e
      split at e <;> cases e
      rename_i hz
      refine h1 σ H M ρ S p.1 p.2 hs ok e1 _ fun a vs H1 M1 x1 ok1 n0 n1 n2 r1 => ?_
      refine h2 σ H1 M1 ρ _ _ _ (hs.mono x1) ok1 (le_some e2) _ fun v H2 M2 x2 ok2 r2 => ?_
      have n3 := x2.keep a _ n1 (.inl fun z => ok1.dj a z n2)
      have r3 := r1.mono x2
      cases r2 with
      | lst z1 z2 =>
        refine ⟨a, _, vs, _, rfl, rfl, .inl (.inl n3), z1.sql, Nat.le_trans (by rw [r3.len, z2.len]; exact hz) big, fun p hp => ?_⟩
        have x := x1.trans x2
        exact q p _ _ (M2.gh p) (x.trans (Ext.ghost hp)) (ok2.ghost hp) (x.free p hp) upd_same List.mem_cons_self ((r3.append z2).fresh hp)
/-- name[lo:hi], a list that may be a cell -/
def mSlV (j : Nat) (lo hi : MO) : MN := fun ρ S => (lo ρ S).bind fun l => (hi ρ l.2).bind fun u => (mLVar j ρ u.2).bind fun p => some (cut p.1 l.1 u.1, u.2)
theorem im_slV {j : Nat} {tl th : TO} {ml mh : MO} (hl : ImO K tl ml) (hh : ImO K th mh) : ImN K (tSl (rSlL K) (tVar j) tl th) (mSlV j ml mh) := fun σ H M ρ S d S' hs ok e Q q => by
  unfold mSlV at e
  cases e2 : ml ρ S with
  | none => rw [e2] at e; cases e
  | some l =>
    rw [e2, Option.bind_some] at e
    cases e3 : mh ρ l.2 with
    | none => rw [e3] at e; cases e
    | some u =>
      rw [e3, Option.bind_some] at e
      cases e4 : mLVar j ρ u.2 with
      | none => rw [e4] at e; cases e
      | some p =>
        rw [e4, Option.bind_some] at e
        cases e
        obtain ⟨v, hv⟩ := lvar_some hs e4
        refine ⟨v, hv, ?_⟩
        refine hl σ H M ρ _ l.1 l.2 hs ok (by rw [e2]) _ fun H2 M2 x2 ok2 => ?_
        refine hh σ H2 M2 ρ _ u.1 u.2 (hs.mono x2) ok2 (by rw [e3]) _ fun H3 M3 x3 ok3 => ?_
        have x := x2.trans x3
        obtain ⟨_, a, vs, ha, sq, r⟩ := lvar_at (hs.mono x) ok3 e4
        rw [hv] at ha
        cases ha
        exact ⟨a, vs, rfl, sq, fun p hp => q p _ _ (M3.gh p) (x.trans (Ext.ghost hp)) (ok3.ghost hp) (x.free p hp) upd_same List.mem_cons_self ((r.cut _ _).fresh hp)⟩
end
section
variable {ι : Type} {F : Fam ι} {a e : Expr} {ma mb me : ME} {mn mn2 : MN} {m : MA} {pos : Pos}
theorem d_catV (j : Nat) {x : Str} {px : Pos} (h2 : PDN F e mn2) (hN : ∀ i, (F.X i).N[j]? = some x := by exact fun _ => rfl) (hv : ∀ i, Vis (F.X i).env.scope x := by first | exact fun _ => Or.inl rfl | exact fun _ => Or.inr (Or.inl rfl) | exact fun _ => Or.inr (Or.inr rfl))
    (hd : (x == ("__debug__" : Str)) = false := by decide) (hcd : (x == ("__classdict__" : Str)) = false := by decide) : PDN F (.BinOp (.Name x px) .Add e pos) (mCatV j mn2) := by
  obtain ⟨t2, p2, q2⟩ := h2
  exact ⟨_, fun i => pe_op (by have := op_catL (X := F.X i); rw [F.hK i] at this; exact this) (pe_var (hN i) (hv i) hd hcd) (p2 i), im_catV q2⟩
theorem d_catX (h1 : PDE F a ma) (h2 : PDN F e mn2) : PDN F (.BinOp a .Add e pos) (mCatX ma mn2) := by
  obtain ⟨t1, p1, q1⟩ := h1
  obtain ⟨t2, p2, q2⟩ := h2
  exact ⟨_, fun i => pe_op (by have := op_catL (X := F.X i); rw [F.hK i] at this; exact this) (p1 i) (p2 i), im_catX q1 q2⟩
theorem d_catY (h1 : PDN F a mn) (h2 : PDE F e mb) : PDN F (.BinOp a .Add e pos) (mCatY mn mb) := by
  obtain ⟨t1, p1, q1⟩ := h1
  obtain ⟨t2, p2, q2⟩ := h2
  exact ⟨_, fun i => pe_op (by have := op_catL (X := F.X i); rw [F.hK i] at this; exact this) (p1 i) (p2 i), im_catY q1 q2⟩
theorem d_slV (j : Nat) {x : Str} {px : Pos} {lo hi : Option Expr} {ml mh : MO} {p2 : Pos} (hl : PDO F lo ml) (hh : PDO F hi mh) (hN : ∀ i, (F.X i).N[j]? = some x := by exact fun _ => rfl) (hv : ∀ i, Vis (F.X i).env.scope x := by first | exact fun _ => Or.inl rfl | exact fun _ => Or.inr (Or.inl rfl) | exact fun _ => Or.inr (Or.inr rfl))
    (hd : (x == ("__debug__" : Str)) = false := by decide) (hcd : (x == ("__classdict__" : Str)) = false := by decide) : PDN F (.Subscript (.Name x px) (.Slice lo hi none p2) pos) (mSlV j ml mh) := by
  obtain ⟨t1, p1, q1⟩ := hl
  obtain ⟨t2, p2, q2⟩ := hh
  exact ⟨_, fun i => pe_slice (by have := sl_list (X := F.X i); rw [F.hK i] at this; exact this) (pe_var (hN i) (hv i) hd hcd) (p1 i) (p2 i), im_slV q1 q2⟩
end
end G
set_option Elab.async false
set_option linter.all false
set_option autoImplicit false
set_option maxRecDepth 100000
set_option maxHeartbeats 4000000
/-! not x, of any value's truth. -/
namespace G
open PySem PySem.Spec PyProof.Rows L2
def tNotT (K : PySem.W.Frag) (ta : TE) : TE := fun σ H Q => ta σ H fun x H1 => ∃ k, TruV K x H1 k ∧ Q (.bl (!k)) H1
theorem pe_notT {X : Cx} {a : Expr} {ta : TE} {pos : Pos} (ha : PE X a ta) : PE X (.UnaryOp .Not a pos) (tNotT X.K ta) :=
  ⟨fun pins s σ H Q I h => UnaryOp_ (thn (ha.run pins s σ H _ I h) fun v s1 ⟨x, H1, I1, r1, k, t, q⟩ => PyProof.Rows.not_of (thn (tru_ok pins s1 σ H1 x v (fun b H2 => Q (.bl (!b)) H2) I1 r1 ⟨k, t, q⟩) fun b s2 z => by
    obtain ⟨H2, I2, q2⟩ := z
    exact ⟨.bl (!b), H2, I2, rfl, q2⟩))⟩
section
variable {K : PySem.W.Frag} {ta : TE} {ma : ME}
def mNotT (ma : ME) : ME := fun ρ S => (mTru ma ρ S).map fun p => (.bool !p.1, p.2)
theorem im_notT (h : ImE K ta ma) : ImE K (tNotT K ta) (mNotT ma) := fun σ H M ρ S d S' hs ok e Q q => by
  unfold mNotT at e
  cases e1 : mTru ma ρ S with
  | none => rw [e1] at e; cases e
  | some p =>
    rw [e1] at e
    cases e
    have h2 : tTru K ta σ H (fun k H' => Q (.bl (!k)) H') := im_tru h σ H M ρ S p.1 p.2 hs ok e1 _ fun H1 M1 x1 ok1 => q _ H1 M1 x1 ok1 (.bl _)
    exact h2
def mNotTQ (mn : MN) : ME := fun ρ S => (mTruQ mn ρ S).map fun p => (.bool !p.1, p.2)
theorem im_notTQ {mn : MN} (h : ImQ K ta mn) : ImE K (tNotT K ta) (mNotTQ mn) := fun σ H M ρ S d S' hs ok e Q q => by
  unfold mNotTQ at e
  cases e1 : mTruQ mn ρ S with
  | none => rw [e1] at e; cases e
  | some p =>
    rw [e1] at e
    cases e
    have h2 : tTru K ta σ H (fun k H' => Q (.bl (!k)) H') := im_truQ h σ H M ρ S p.1 p.2 hs ok e1 _ fun H1 M1 x1 ok1 => q _ H1 M1 x1 ok1 (.bl _)
    exact h2
end
section
variable {ι : Type} {F : Fam ι} {a e : Expr} {me : ME} {mn : MN} {pos : Pos}
theorem d_notE (h : PDE F e me) : PDE F (.UnaryOp .Not e pos) (mNotT me) := by
  obtain ⟨t, p, q⟩ := h
  exact ⟨_, fun i => by have := pe_notT (pos := pos) (p i); rw [F.hK i] at this; exact this, im_notT q⟩
theorem d_notQ (h : PDQ F e mn) : PDE F (.UnaryOp .Not e pos) (mNotTQ mn) := by
  obtain ⟨t, p, q⟩ := h
  exact ⟨_, fun i => by have := pe_notT (pos := pos) (p i); rw [F.hK i] at this; exact this, im_notTQ q⟩
end
end G
set_option Elab.async false
set_option linter.all false
set_option autoImplicit false
set_option maxRecDepth 100000
set_option maxHeartbeats 4000000
/-! comprehensions with two `for`s. -/
namespace G
open PySem L2
structure LcI (K : PySem.W.Frag) (M1 : Adr) (H1 : Hp) (a : Addr) (M : Adr) (H : Hp) (S : Sto) (av : List V) (acc : List D) : Prop where
  x : Ext M1 H1 M H
  g : a ∈ M.g
  c : some a ∉ M.c
  ok : Ok K M S H
  hd : H a = some (.lst av)
  ra : RlA K M H av acc
section
variable {K : PySem.W.Frag} {M M' M1 : Adr} {H H' H1 : Hp} {S S' : Sto} {ta tb tc te : TE} {ma mb mc me : ME} {d : D} {a : Addr} {av : List V} {acc : List D}
theorem LcI.ext (h : LcI K M1 H1 a M H S av acc) (x : Ext M H M' H') (ok : Ok K M' S' H') : LcI K M1 H1 a M' H' S' av acc :=
  ⟨h.x.trans x, x.gk a h.g, fun z => (x.sub a z).elim h.c (fun z => by rw [h.hd] at z; cases z), ok, x.keep a _ h.hd (.inl h.c), h.ra.mono x⟩
theorem LcI.push (h : LcI K M1 H1 a M H S av acc) (h0 : H1 a = none) {v : V} (r : Rl K M H v d) : LcI K M1 H1 a M (upd H a (.lst (av ++ [v]))) S (av ++ [v]) (acc ++ [d]) := by
  refine ⟨?_, h.g, h.c, h.ok.grow (.inr h.g) h.hd h.c, upd_same, (h.ra.append (.one r)).grow (.inr h.g) h.hd⟩
  have y := h.x
  exact ⟨y.subn, y.gs, y.gk, y.pos, y.dead, fun b o e c => by
    rw [upd_ne (ne_of_none e h0)]; exact y.keep b o e c, fun b e => y.free b (by
    by_cases eb : b = a
    · subst eb; rw [upd_same] at e; cases e
    · rw [upd_ne eb] at e; exact e)⟩
def lc2Run (mg : MG) (mt : MT) (mi1 : MN) (mg1 : MG) (mt1 : MT) (me : ME) (vs1 : List Nat) : List D → Rho → Sto → Option (List D × Sto)
  | [], _, S => some ([], S)
  | x :: xs, ρ, S => (mg x ρ).bind fun ρ1 => (mt ρ1 S).bind fun p => if p.1 then
      (mi1 ρ1 p.2).bind fun q => if q.1.length ≤ 1000 then (lcRun mg1 mt1 me q.1 (wipeR ρ1 vs1) q.2).bind fun r => (lc2Run mg mt mi1 mg1 mt1 me vs1 xs ρ r.2).map fun z => (r.1 ++ z.1, z.2) else none
    else lc2Run mg mt mi1 mg1 mt1 me vs1 xs ρ p.2
def mLc2 (mi : MN) (mg : MG) (mt : MT) (mi1 : MN) (mg1 : MG) (mt1 : MT) (me : ME) (vs vs1 : List Nat) : MN := fun ρ S => (mi ρ S).bind fun p => if p.1.length ≤ 1000 then lc2Run mg mt mi1 mg1 mt1 me vs1 p.1 (wipeR ρ vs) p.2 else none
theorem im_lc2 {wi wi1 : TI} {g g1 : TG} {tt tt1 : TT} {mi mi1 : MN} {mg mg1 : MG} {mt mt1 : MT} {vs vs1 : List Nat} (hi : ImI K wi mi) (hg : ImG K g mg) (ho : GOwn g vs) (ht : ImT K tt mt) (hi1 : ImI K wi1 mi1) (hg1 : ImG K g1 mg1) (ho1 : GOwn g1 vs1) (ht1 : ImT K tt1 mt1) (he : ImE K te me) :
    ImN K (tLc2 wi g tt wi1 g1 tt1 te vs vs1) (mLc2 mi mg mt mi1 mg1 mt1 me vs vs1) := fun σ H M ρ S ys S' hs ok e Q q => by
  unfold mLc2 at e
  cases e1 : mi ρ S with
  | none => rw [e1] at e; cases e
  | some p =>
    rw [e1, Option.bind_some] at e
    split at e <;> first | (cases e; done) | skip
    rename_i hz
    obtain ⟨xs, S1⟩ := p
    simp only at e hz
    refine hi σ H M ρ S xs S1 hs ok e1 _ fun J H1 M1 x1 ok1 it => ?_
    intro Dl hD
    have hs1 := (hs.mono x1).wipe vs
    refine ⟨fun i m Hi => m = xs.length - i ∧ i ≤ xs.length ∧ ∃ (Mi : Adr) (Si : Sto) (acc : List D) (av : List V) (zs : List D), LcI K M1 H1 Dl Mi Hi Si av acc ∧ RSt K Mi Hi (L2.wipe σ vs) (wipeR ρ vs) ∧
      acc.length ≤ i * 1000 ∧ lc2Run mg mt mi1 mg1 mt1 me vs1 (xs.drop i) (wipeR ρ vs) Si = some (zs, S') ∧ acc ++ zs = ys,
      ⟨xs.length, by omega, Nat.zero_le _, M1.gh Dl, S1, [], [], ys, ⟨Ext.ghost hD, List.mem_cons_self, fun z => ok1.notin hD (.inl z), ok1.ghost hD, upd_same, .nil⟩, hs1.fresh hD, Nat.zero_le _, e, rfl⟩, ?_⟩
    rintro i m Hi ⟨rfl, hle, Mi, Si, acc, av, zs, I, hsi, hacc, er, hy⟩
    have J1 := it Mi Hi Si I.x.w I.ok i
    by_cases hlt : i < xs.length
    · refine .inr ⟨J1.2.1 hlt, fun Hn => ∃ (Mi : Adr) (Si : Sto) (acc : List D) (av : List V) (zs : List D), LcI K M1 H1 Dl Mi Hn Si av acc ∧ RSt K Mi Hn (L2.wipe σ vs) (wipeR ρ vs) ∧
        acc.length ≤ (i + 1) * 1000 ∧ lc2Run mg mt mi1 mg1 mt1 me vs1 (xs.drop (i + 1)) (wipeR ρ vs) Si = some (zs, S') ∧ acc ++ zs = ys, fun Hn hN => ⟨xs.length - (i + 1), by omega, rfl, by omega, hN⟩, fun x H2 hx => ?_⟩
      have ed : xs.drop i = xs[i] :: xs.drop (i + 1) := List.drop_eq_getElem_cons hlt
      rw [ed] at er
      unfold lc2Run at er
      obtain ⟨x2, ok2, r2⟩ := J1.2.2 x H2 xs[i] (List.getElem?_eq_getElem hlt) hx
      cases e2 : mg xs[i] (wipeR ρ vs) with
      | none => rw [e2] at er; cases er
      | some ρ1 =>
        rw [e2, Option.bind_some] at er
        have hs2 := hsi.mono x2
        have I2 := I.ext x2 ok2
        refine ho σ _ _ _ _ (wipe_wipe σ fun _ z => z) (hg _ H2 Mi (wipeR ρ vs) ρ1 x xs[i] hs2 r2 e2 _ fun σ' hs' => ?_)
        cases e3 : mt ρ1 Si with
        | none => rw [e3] at er; cases er
        | some p =>
          rw [e3, Option.bind_some] at er
          obtain ⟨b, S3⟩ := p
          refine ht σ' H2 Mi ρ1 Si b S3 hs' ok2 e3 _ fun H3 M3 x3 ok3 => ?_
          have I3 := I2.ext x3 ok3
          have hs3 := hs2.mono x3
          have hs3' := hs'.mono x3
          cases b with
          | false =>
            rw [if_neg (show ¬ (false = true) from Bool.false_ne_true)]
            rw [if_neg (show ¬ (false = true) from Bool.false_ne_true)] at er
            exact ⟨M3, S3, acc, av, zs, I3, hs3, by omega, er, hy⟩
          | true =>
            rw [if_pos rfl]
            rw [if_pos rfl] at er
            cases e4 : mi1 ρ1 S3 with
            | none => rw [e4] at er; cases er
            | some p4 =>
              rw [e4, Option.bind_some] at er
              split at er <;> first | (cases er; done) | skip
              rename_i hz1
              obtain ⟨xs1, S4⟩ := p4
              simp only at er hz1
              cases e5 : lcRun mg1 mt1 me xs1 (wipeR ρ1 vs1) S4 with
              | none => rw [e5] at er; cases er
              | some r =>
                rw [e5, Option.bind_some] at er
                cases e6 : lc2Run mg mt mi1 mg1 mt1 me vs1 (xs.drop (i + 1)) (wipeR ρ vs) r.2 with
                | none => rw [e6] at er; cases er
                | some z =>
                  rw [e6] at er
                  cases er
                  refine hi1 σ' H3 M3 ρ1 S3 xs1 S4 hs3' ok3 e4 _ fun J4 H4 M4 x4 ok4 it4 => ?_
                  have I4 := I3.ext x4 ok4
                  refine ⟨fun j k Hj => k = xs1.length - j ∧ j ≤ xs1.length ∧ ∃ (Mj : Adr) (Sj : Sto) (ac : List D) (aw : List V) (us : List D), ExtW M4 H4 Mj Hj ∧ LcI K M1 H1 Dl Mj Hj Sj aw ac ∧ RSt K Mj Hj (L2.wipe σ vs) (wipeR ρ vs) ∧ RSt K Mj Hj (L2.wipe σ' vs1) (wipeR ρ1 vs1) ∧
                    ac.length ≤ i * 1000 + j ∧ lcRun mg1 mt1 me (xs1.drop j) (wipeR ρ1 vs1) Sj = some (us, r.2) ∧ ac ++ us = acc ++ r.1,
                    ⟨xs1.length, by omega, Nat.zero_le _, M4, S4, acc, av, r.1, Ext.refl.w, I4, hs3.mono x4, (hs3'.mono x4).wipe vs1, by omega, e5, rfl⟩, ?_⟩
                  rintro j k Hj ⟨rfl, hle1, Mj, Sj, ac, aw, us, xj, Ij, hsj, hsj', hac, ej, hyj⟩
                  have J5 := it4 Mj Hj Sj xj Ij.ok j
                  by_cases hlt1 : j < xs1.length
                  · refine .inr ⟨J5.2.1 hlt1, fun Hn => ∃ (Mj : Adr) (Sj : Sto) (ac : List D) (aw : List V) (us : List D), ExtW M4 H4 Mj Hn ∧ LcI K M1 H1 Dl Mj Hn Sj aw ac ∧ RSt K Mj Hn (L2.wipe σ vs) (wipeR ρ vs) ∧ RSt K Mj Hn (L2.wipe σ' vs1) (wipeR ρ1 vs1) ∧
                      ac.length ≤ i * 1000 + (j + 1) ∧ lcRun mg1 mt1 me (xs1.drop (j + 1)) (wipeR ρ1 vs1) Sj = some (us, r.2) ∧ ac ++ us = acc ++ r.1, fun Hn hN => ⟨xs1.length - (j + 1), by omega, rfl, by omega, hN⟩, fun x5 H5 hx5 => ?_⟩
                    have ed1 : xs1.drop j = xs1[j] :: xs1.drop (j + 1) := List.drop_eq_getElem_cons hlt1
                    rw [ed1] at ej
                    unfold lcRun at ej
                    obtain ⟨y5, ok5, r5⟩ := J5.2.2 x5 H5 xs1[j] (List.getElem?_eq_getElem hlt1) hx5
                    have I5 := Ij.ext y5 ok5
                    cases e7 : mg1 xs1[j] (wipeR ρ1 vs1) with
                    | none => rw [e7] at ej; cases ej
                    | some ρ5 =>
                      rw [e7, Option.bind_some] at ej
                      refine ho1 σ' _ _ _ _ (wipe_wipe σ' fun _ z => z) (hg1 _ H5 Mj (wipeR ρ1 vs1) ρ5 x5 xs1[j] (hsj'.mono y5) r5 e7 _ fun σ5 hs5 => ?_)
                      cases e8 : mt1 ρ5 Sj with
                      | none => rw [e8] at ej; cases ej
                      | some p8 =>
                        rw [e8, Option.bind_some] at ej
                        obtain ⟨b8, S8⟩ := p8
                        refine ht1 σ5 H5 Mj ρ5 Sj b8 S8 hs5 ok5 e8 _ fun H8 M8 y8 ok8 => ?_
                        have I8 := I5.ext y8 ok8
                        have y58 := y5.trans y8
                        cases b8 with
                        | false =>
                          rw [if_neg (show ¬ (false = true) from Bool.false_ne_true)]
                          rw [if_neg (show ¬ (false = true) from Bool.false_ne_true)] at ej
                          exact ⟨M8, S8, ac, aw, us, xj.trans y58.w, I8, hsj.mono y58, hsj'.mono y58, by omega, ej, hyj⟩
                        | true =>
                          rw [if_pos rfl]
                          rw [if_pos rfl] at ej
                          cases e9 : me ρ5 S8 with
                          | none => rw [e9] at ej; cases ej
                          | some p9 =>
                            rw [e9, Option.bind_some] at ej
                            cases e10 : lcRun mg1 mt1 me (xs1.drop (j + 1)) (wipeR ρ1 vs1) p9.2 with
                            | none => rw [e10] at ej; cases ej
                            | some p10 =>
                              rw [e10] at ej
                              obtain ⟨e11, e12⟩ := Prod.mk.inj (Option.some.inj (show some (p9.1 :: p10.1, p10.2) = some (us, r.2) from ej))
                              subst e11
                              refine he σ5 H8 M8 ρ5 S8 p9.1 p9.2 (hs5.mono y8) ok8 e9 _ fun v H9 M9 y9 ok9 r9 => ?_
                              have I9 := I8.ext y9 ok9
                              have y59 := y58.trans y9
                              have x49 := xj.trans y59.w
                              have hDg := I4.g
                              refine ⟨aw, I9.hd, Nat.lt_of_lt_of_le (show aw.length < 1000001 by rw [I9.ra.len]; have : i * 1000 ≤ 999000 := by (have : i ≤ 999 := by omega); omega
                                                                                                 omega) (by decide), M9, p9.2, ac ++ [p9.1], aw ++ [v], p10.1, x49.trans (ExtW.grow (.inr I9.g) I9.hd), I9.push hD r9, (hsj.mono y59).grow (.inr I9.g) I9.hd, (hsj'.mono y59).grow (.inr I9.g) I9.hd, by rw [List.length_append, List.length_singleton]; omega, by rw [e10, ← e12], by rw [List.append_assoc]; exact hyj⟩
                  · refine .inl ⟨J5.1 (by omega), ?_⟩
                    have e0 : xs1.drop j = [] := List.drop_eq_nil_of_le (by omega)
                    rw [e0] at ej
                    obtain ⟨e11, e12⟩ := Prod.mk.inj (Option.some.inj (show some (([] : List D), Sj) = some (us, r.2) from ej))
                    subst e11
                    subst e12
                    rw [List.append_nil] at hyj
                    subst hyj
                    exact ⟨Mj, _, _, aw, z.1, Ij, hsj, by omega, e6, by rw [List.append_assoc]; exact hy⟩
    · refine .inl ⟨J1.1 (by omega), ?_⟩
      have e0 : xs.drop i = [] := List.drop_eq_nil_of_le (by omega)
      rw [e0] at er
      cases er
      rw [List.append_nil] at hy
      subst hy
      have xf := x1.trans I.x
      exact q Dl av Hi Mi xf I.ok (x1.free Dl hD) I.hd I.g I.ra
end
end G
set_option Elab.async false
set_option linter.all false
set_option autoImplicit false
set_option maxRecDepth 100000
set_option maxHeartbeats 4000000
/-! rules: comprehensions with two `for`s; sorted of ints. -/
namespace G
open PySem L2
section
variable {ι : Type} {F : Fam ι} {a e e1 : Expr} {ma mb me : ME} {mn mn2 : MN} {m : MA} {mt mt1 : MT} {pos : Pos} {st : Stmt} {b : Nat}
theorem d_lc2 {tg elt tg1 : Expr} {ifs ifs1 : List Expr} {scope : Scope} {own : List (Str × Nat)} {vs1 : List Nat} {mi mi1 : MN} {mg mg1 : MG} {g g1 : TG} (hi : PDI F tg e mi) (ok : ∀ i, BlkOk (F.X i).N (F.X i).env.scope scope own) (hv : ∀ i ∈ vs1, i ∈ own.map (·.2))
    (hg : ∀ p, PG ((F.blk scope).X p) tg g) (hgi : ImG F.K g mg) (ho : GOwn g (own.map (·.2))) (ht : PDTs (F.blk scope) ifs mt)
    (hi1 : PDI (F.blk scope) tg1 e1 mi1) (hg1 : ∀ p, PG ((F.blk scope).X p) tg1 g1) (hgi1 : ImG F.K g1 mg1) (ho1 : GOwn g1 vs1) (ht1 : PDTs (F.blk scope) ifs1 mt1)
    (he : PDE (F.blk scope) elt me) (hs : ∀ i x, foldedSetIterable e (F.X i).env x = pure x := by intro _ _; rfl) (hs1 : ∀ env x, foldedSetIterable e1 env x = pure x := by intro _ _; rfl) :
    PDN F (.ListComp elt [⟨tg, e, ifs, 0⟩, ⟨tg1, e1, ifs1, 0⟩] scope pos) (mLc2 mi mg mt mi1 mg1 mt1 me (own.map (·.2)) vs1) := by
  obtain ⟨ti, pi, qi⟩ := hi
  obtain ⟨tt, pt, qt⟩ := ht
  obtain ⟨ti1, pi1, qi1⟩ := hi1
  obtain ⟨tt1, pt1, qt1⟩ := ht1
  obtain ⟨te, pe, qe⟩ := he
  exact ⟨_, fun i => pe_lc2 (F.calm i) (F.nd i) (pi i) (ok i) hv (fun s H C cl fp => hg (i, s, H, C, cl, fp)) (fun s H C cl fp => pt (i, s, H, C, cl, fp)) (fun s H C cl fp => pi1 (i, s, H, C, cl, fp)) (fun s H C cl fp => hg1 (i, s, H, C, cl, fp)) (fun s H C cl fp => pt1 (i, s, H, C, cl, fp))
    (fun s H C cl fp => pe (i, s, H, C, cl, fp)) (hs i) hs1, im_lc2 qi hgi ho qt qi1 hgi1 ho1 qt1 qe⟩
theorem d_lc2P {tg elt tg1 : Expr} {ifs ifs1 : List Expr} {scope : Scope} {own : List (Str × Nat)} {vs1 : List Nat} {mi mi1 : MN} {mg mg1 : MG} {g g1 : TG} (j : Nat) {y : Str} {py spos : Pos} (hi : PDI F tg e mi) (ok : ∀ i, BlkOk (F.X i).N (F.X i).env.scope scope own) (hv : ∀ i ∈ vs1, i ∈ own.map (·.2))
    (hg : ∀ p, PG ((F.blk scope).X p) tg g) (hgi : ImG F.K g mg) (ho : GOwn g (own.map (·.2))) (ht : PDTs (F.blk scope) ifs mt)
    (hi1 : PDI (F.blk scope) tg1 e1 mi1) (hg1 : ∀ p, PG ((F.blk scope).X p) tg1 g1) (hgi1 : ImG F.K g1 mg1) (ho1 : GOwn g1 vs1) (ht1 : PDTs (F.blk scope) ifs1 mt1)
    (he : PDE (F.blk scope) elt me) (hsw : ∀ i, swapsWith (.ListComp elt [⟨tg, e, ifs, 0⟩, ⟨tg1, e1, ifs1, 0⟩] scope pos) (some (.Name y py)) spos.line (F.X i).env = pure true) (hy : ∀ i, (F.X i).N[j]? = some y := by exact fun _ => rfl) (hyl : ∀ i, (F.X i).env.scope.names.lookup y = some .local := by exact fun _ => rfl)
    (hs : ∀ i x, foldedSetIterable e (F.X i).env x = pure x := by intro _ _; rfl) (hs1 : ∀ env x, foldedSetIterable e1 env x = pure x := by intro _ _; rfl) :
    ∃ t, (∀ i, PS (F.X i) (.Assign [.Name y py] (.ListComp elt [⟨tg, e, ifs, 0⟩, ⟨tg1, e1, ifs1, 0⟩] scope pos) spos) (tAsg t (gName j))) ∧ ImN F.K t (mLc2 mi mg mt mi1 mg1 mt1 me (own.map (·.2)) vs1) := by
  obtain ⟨ti, pi, qi⟩ := hi
  obtain ⟨tt, pt, qt⟩ := ht
  obtain ⟨ti1, pi1, qi1⟩ := hi1
  obtain ⟨tt1, pt1, qt1⟩ := ht1
  obtain ⟨te, pe, qe⟩ := he
  exact ⟨_, fun i => ps_setLc2 (F.calm i) (F.nd i) (hy i) (hyl i) (hsw i) (pi i) (ok i) hv (fun s H C cl fp => hg (i, s, H, C, cl, fp)) (fun s H C cl fp => pt (i, s, H, C, cl, fp)) (fun s H C cl fp => pi1 (i, s, H, C, cl, fp)) (fun s H C cl fp => hg1 (i, s, H, C, cl, fp)) (fun s H C cl fp => pt1 (i, s, H, C, cl, fp))
    (fun s H C cl fp => pe (i, s, H, C, cl, fp)) (hs i) hs1, im_lc2 qi hgi ho qt qi1 hgi1 ho1 qt1 qe⟩
end

theorem sorted_one : ∀ {xs ys : List Int}, xs.Perm ys → xs.Pairwise (· ≤ ·) → ys.Pairwise (· ≤ ·) → xs = ys
  | [], ys, p, _, _ => (List.nil_perm.mp p).symm
  | x :: xs, [], p, _, _ => absurd (List.perm_nil.mp p) (by simp)
  | x :: xs, y :: ys, p, h1, h2 => by
    rw [List.pairwise_cons] at h1 h2
    have hx : y ≤ x := by
      rcases List.mem_cons.mp (p.mem_iff.mp List.mem_cons_self) with e | e
      · rw [e]; exact Int.le_refl _
      · exact h2.1 x e
    have hy : x ≤ y := by
      rcases List.mem_cons.mp (p.mem_iff.mpr List.mem_cons_self) with e | e
      · rw [e]; exact Int.le_refl _
      · exact h1.1 y e
    have e : x = y := Int.le_antisymm hy hx
    subst e
    rw [sorted_one (List.perm_cons x |>.mp p) h1.2 h2.2]
def insI (x : Int) : List Int → List Int
  | [] => [x]
  | y :: r => if x ≤ y then x :: y :: r else y :: insI x r
def sortI : List Int → List Int
  | [] => []
  | x :: r => insI x (sortI r)
theorem insI_perm (x : Int) : ∀ r : List Int, (insI x r).Perm (x :: r)
  | [] => .refl _
  | y :: r => by
    unfold insI
    split
    · exact .refl _
    · exact ((insI_perm x r).cons y).trans (.swap x y r)
theorem sortI_perm : ∀ r : List Int, (sortI r).Perm r
  | [] => .nil
  | x :: r => (insI_perm x _).trans ((sortI_perm r).cons x)
theorem insI_up (x : Int) : ∀ r : List Int, r.Pairwise (· ≤ ·) → (insI x r).Pairwise (· ≤ ·)
  | [], _ => by simp [insI]
  | y :: r, h => by
    unfold insI
    split
    · rename_i hxy
      rw [List.pairwise_cons]
      refine ⟨fun z hz => ?_, h⟩
      rcases List.mem_cons.mp hz with e | hz
      · rw [e]; exact hxy
      · exact Int.le_trans hxy ((List.pairwise_cons.mp h).1 z hz)
    · rename_i hxy
      rw [List.pairwise_cons]
      refine ⟨fun z hz => ?_, insI_up x r (List.pairwise_cons.mp h).2⟩
      rcases List.mem_cons.mp ((insI_perm x r).mem_iff.mp hz) with e | hz
      · rw [e]; omega
      · exact (List.pairwise_cons.mp h).1 z hz
theorem sortI_up : ∀ r : List Int, (sortI r).Pairwise (· ≤ ·)
  | [] => .nil
  | x :: r => insI_up x _ (sortI_up r)
section
variable {K : PySem.W.Frag} {M M' : Adr} {H H' : Hp} {S S' : Sto} {te : TE}
def mSortI (m : MN) : MN := fun ρ S => (m ρ S).bind fun p => (intL p.1).map fun ns => ((sortI ns).map .int, p.2)
theorem rl_intsM : ∀ ns : List Int, RlA K M H (ns.map V.int) (ns.map PyData.int)
  | [] => .nil
  | n :: r => .cons (.int n) (rl_intsM r)
theorem im_sortI {m : MN} (h : ImL K te m) : ImN K (tCB (rSortedI K) (tCons te tNil)) (mSortI m) := fun σ H M ρ S b S' hs ok e Q q => by
  unfold mSortI at e
  cases e1 : m ρ S with
  | none => rw [e1] at e; cases e
  | some p =>
    rw [e1, Option.bind_some] at e
    cases e2 : intL p.1 with
    | none => rw [e2] at e; cases e
    | some ns =>
      rw [e2] at e
      cases e
      refine h σ H M ρ S _ _ hs ok e1 _ fun a vs H1 M1 x1 ok1 sq r => ?_
      refine ⟨a, ns, rfl, by rw [← r.intL e2]; exact sq, fun ns' p h1 h2 hp => ?_⟩
      have e3 : ns' = sortI ns := sorted_one (h1.trans (sortI_perm ns).symm) h2 (sortI_up ns)
      subst e3
      exact q p _ _ (M1.gh p) (x1.trans (Ext.ghost hp)) (ok1.ghost hp) (x1.free p hp) upd_same List.mem_cons_self (rl_intsM _)
end
section
variable {ι : Type} {F : Fam ι} {e : Expr} {mn : MN} {pos : Pos}
theorem d_sorted {px : Pos} (hm : ∀ i, (F.X i).mg "sorted" = none) (h : PDL F e mn) (hg : ∀ i, Gl (F.X i) "sorted" := by exact fun _ => rfl) (hs : ∀ i, starEach [e] (F.X i).env = (false, eval e (F.X i).env) :: starEach [] (F.X i).env := by intro _; rfl) :
    PDN F (.Call (.Name "sorted" px) [e] [] pos) (mSortI mn) := by
  obtain ⟨t, p, q⟩ := h
  exact ⟨_, fun i => call1 (by have := cr_sortedI (X := F.X i); rw [F.hK i] at this; exact this) (hg i) (hm i) (by decide +kernel) (p i) (by decide) (by decide) (hs i), im_sortI q⟩
end
end G
set_option Elab.async false
set_option linter.all false
set_option autoImplicit false
set_option maxRecDepth 100000
set_option maxHeartbeats 4000000
/-! range down by ones, list.pop(i), list.index, list(range(..)). -/
namespace G
open PySem L2
def dwn (hi : Int) (n : Nat) : List D := (List.range n).map fun i => .int (hi + (i : Nat) * (-1))
theorem dwn_get {lo : Int} {n i : Nat} {d : D} (h : (dwn lo n)[i]? = some d) : i < n ∧ d = .int (lo + (i : Nat) * (-1)) := by
  unfold dwn at h
  rw [List.getElem?_map] at h
  by_cases hi : i < n
  · rw [List.getElem?_range hi] at h
    cases h
    exact ⟨hi, rfl⟩
  · rw [List.getElem?_eq_none (by rw [List.length_range]; omega)] at h
    cases h
theorem dwn_len {lo : Int} {n : Nat} : (dwn lo n).length = n := by unfold dwn; rw [List.length_map, List.length_range]
section
variable {K : PySem.W.Frag} {M M' : Adr} {H H' : Hp} {S S' : Sto} {ta tb tc te : TE} {ma mb mc me : ME} {d : D}
theorem itok_d {lo : Int} {n : Nat} : ItOk K (Itc lo (-1) n) (dwn lo n) M H := fun M1 H1 S1 x ok i =>
  ⟨fun h => by rw [dwn_len] at h; exact h, fun h => by rw [dwn_len] at h; exact h, fun v H2 d e h => by
    obtain ⟨rfl, rfl⟩ := h
    obtain ⟨_, rfl⟩ := dwn_get e
    exact ⟨.refl, ok, .int _⟩⟩
def mR3 (m1 m2 m3 : ME) : MN := fun ρ S => (m1 ρ S).bind fun p => (m2 ρ p.2).bind fun p2 => (m3 ρ p2.2).bind fun p3 => match p.1, p2.1, p3.1 with
  | .int i, .int j, .int k => if bRng i && bRng j && decide (k = -1) then some (dwn i (i - j).toNat, p3.2) else none
  | _, _, _ => none
theorem im_r3 (ha : ImE K ta ma) (hb : ImE K tb mb) (hc : ImE K tc mc) : ImI K (iRng3 (tCons ta (tCons tb (tCons tc tNil)))) (mR3 ma mb mc) := fun σ H M ρ S xs S' hs ok e R q => by
  unfold mR3 at e
  cases e1 : ma ρ S with
  | none => rw [e1] at e; cases e
  | some p =>
    rw [e1, Option.bind_some] at e
    cases e2 : mb ρ p.2 with
    | none => rw [e2] at e; cases e
    | some p2 =>
      rw [e2, Option.bind_some] at e
      cases e3 : mc ρ p2.2 with
      | none => rw [e3] at e; cases e
      | some p3 =>
        rw [e3, Option.bind_some] at e
        split at e <;> first | (cases e; done) | skip
        rename_i i j k q1 q2 q3
        split at e <;> cases e
        rename_i hb'
        rw [Bool.and_eq_true, Bool.and_eq_true] at hb'
        have hi : -1000000000000 ≤ i ∧ i ≤ 1000000000000 := of_decide_eq_true hb'.1.1
        have hj : -1000000000000 ≤ j ∧ j ≤ 1000000000000 := of_decide_eq_true hb'.1.2
        have hk : k = -1 := of_decide_eq_true hb'.2
        subst hk
        refine ha σ H M ρ S p.1 p.2 hs ok e1 _ fun x H1 M1 x1 ok1 r1 => ?_
        refine hb σ H1 M1 ρ p.2 p2.1 p2.2 (hs.mono x1) ok1 e2 _ fun y H2 M2 x2 ok2 r2 => ?_
        refine hc σ H2 M2 ρ p2.2 p3.1 p3.2 (hs.mono (x1.trans x2)) ok2 e3 _ fun z H3 M3 x3 ok3 r3 => ?_
        rw [q1] at r1
        rw [q2] at r2
        rw [q3] at r3
        cases r1
        cases r2
        cases r3
        exact ⟨i, j, -1, (i - j).toNat, rfl, RgC.neg (by omega) (by omega) (by omega) (by omega), q _ H3 M3 (x1.trans (x2.trans x3)) ok3 itok_d⟩
/-! list.pop(i) -/
def mPopI (i : Nat) (m : ME) : ME := fun ρ S => (match ρ[i]? with
  | some (some (.loc n)) => (S[n]?.join).bind fun _ => (m ρ S).bind fun p => (match p.1 with
    | .int k => (p.2[n]?.join).bind fun xs => if 0 ≤ k ∧ k < xs.length ∧ k ≤ 1000000 then (xs[k.toNat]?).map fun y => (y, p.2.set n (some (xs.eraseIdx k.toNat))) else none
    | _ => none)
  | _ => none)
theorem RlA.eraseIdx {vs : List V} {ds : List D} (h : RlA K M H vs ds) (k : Nat) : RlA K M H (vs.eraseIdx k) (ds.eraseIdx k) := by
  rw [List.eraseIdx_eq_take_drop_succ, List.eraseIdx_eq_take_drop_succ]
  exact (h.take _).append (h.drop _)
theorem seqIx {i : Int} {n : Nat} (h0 : 0 ≤ i) (h1 : i < n) : seqIndex? i n = some i.toNat := by
  unfold seqIndex?
  simp [show ¬ i < 0 by omega, show i < n by omega]
theorem im_popI {i : Nat} (h : ImE K te me) : ImE K (tBM K "list" rPopAt (tVar i) (tCons te tNil)) (mPopI i me) := fun σ H M ρ S d S' hs ok e Q q => by
  unfold mPopI at e
  split at e <;> first | (cases e; done) | skip
  rename_i n en
  cases e0 : S[n]?.join with
  | none => rw [e0] at e; cases e
  | some xs0 =>
    rw [e0, Option.bind_some] at e
    obtain ⟨a0, vs0, hw0, c20, c30, c40⟩ := cell_at hs ok en (join_some e0)
    cases e1 : me ρ S with
    | none => rw [e1] at e; cases e
    | some p =>
      rw [e1, Option.bind_some] at e
      split at e <;> first | (cases e; done) | skip
      rename_i k ek
      cases e2 : p.2[n]?.join with
      | none => rw [e2] at e; cases e
      | some xs =>
        rw [e2, Option.bind_some] at e
        split at e <;> first | (cases e; done) | skip
        rename_i hk
        cases e3 : xs[k.toNat]? with
        | none => rw [e3] at e; cases e
        | some y =>
          rw [e3] at e
          cases e
          refine ⟨_, hw0, tyl c30, h σ H M ρ S p.1 p.2 hs ok e1 _ fun v H1 M1 x1 ok1 r1 => ?_⟩
          rw [ek] at r1
          cases r1
          obtain ⟨a, vs, hw, c2, c3, c4⟩ := cell_at (hs.mono x1) ok1 en (join_some e2)
          rw [hw0] at hw
          cases hw
          obtain ⟨v, e4, r⟩ := c4.get e3
          refine ⟨_, vs, k, k.toNat, v, rfl, rfl, c3, by omega, by omega, seqIx hk.1 (by rw [c4.len]; exact hk.2.1), e4, ?_⟩
          have xc : Ext M1 H1 M1 (upd H1 _ (.lst (vs.eraseIdx k.toNat))) := Ext.setc (List.mem_of_getElem? c2) c3
          exact q _ _ M1 (x1.trans xc) (ok1.setc c2 c3 (c4.eraseIdx _)) (r.mono xc)
/-! name.index(x) -/
def mIdx (i : Nat) (m : ME) : ME := fun ρ S => (mLVar i ρ S).bind fun _ => (m ρ S).bind fun p => (mLVar i ρ p.2).bind fun q =>
  if SeqAt.shaped p.1 && SeqAt.shaped (.list q.1) then (q.1.findIdx? fun z => PyData.eqv z p.1).map fun j => (.int (j : Nat), p.2) else none
theorem im_idx {i : Nat} (h : ImE K te me) : ImE K (tBM K "list" (rIndexD K) (tVar i) (tCons te tNil)) (mIdx i me) := fun σ H M ρ S d S' hs ok e Q q => by
  unfold mIdx at e
  cases e0 : mLVar i ρ S with
  | none => rw [e0] at e; cases e
  | some p0 =>
    rw [e0, Option.bind_some] at e
    obtain ⟨_, a0, vs0, ha0, sq0, _⟩ := lvar_at hs ok e0
    cases e1 : me ρ S with
    | none => rw [e1] at e; cases e
    | some p =>
      rw [e1, Option.bind_some] at e
      cases e2 : mLVar i ρ p.2 with
      | none => rw [e2] at e; cases e
      | some p2 =>
        rw [e2, Option.bind_some] at e
        split at e <;> first | (cases e; done) | skip
        rename_i hb
        rw [Bool.and_eq_true] at hb
        cases e3 : p2.1.findIdx? fun z => PyData.eqv z p.1 with
        | none => rw [e3] at e; cases e
        | some j =>
          rw [e3] at e
          cases e
          refine ⟨_, ha0, .inl ⟨rfl, _, sq0⟩, h σ H M ρ S p.1 p.2 hs ok e1 _ fun v H1 M1 x1 ok1 r1 => ?_⟩
          obtain ⟨_, a, vs, ha, sq, r⟩ := lvar_at (hs.mono x1) ok1 e2
          rw [ha0] at ha
          cases ha
          obtain ⟨hj, hz, hno⟩ := List.findIdx?_eq_some_iff_getElem.mp e3
          refine ⟨_, v, p.1, p2.1, j, p2.1[j], rfl, rfl, .lst sq (RlA.dp _ _ r), r1.dp, hb.2, hb.1, List.getElem?_eq_getElem hj, hz, fun m z' hm ez => ?_, q _ H1 M1 x1 ok1 (.int _)⟩
          obtain ⟨hm', ez'⟩ := List.getElem?_eq_some_iff.mp ez
          rw [← ez']
          have := hno m hm
          simpa using this
/-! list(range(..)), tuple(range(..)) -/
def mRg1 (m : ME) : MN := fun ρ S => (m ρ S).bind fun p => match p.1 with
  | .int j => if decide (0 ≤ j ∧ j ≤ 1000000) then some (rng 0 j.toNat, p.2) else none
  | _ => none
theorem rl_rg (lo : Int) : ∀ (l : List Nat), RlA K M H (l.map fun i => V.int (lo + (i : Nat))) (l.map fun i => PyData.int (lo + (i : Nat)))
  | [] => .nil
  | i :: l => .cons (.int _) (rl_rg lo l)
theorem im_listRg (h : ImE K te me) : ImN K (tLstRg (tRg1 te)) (mRg1 me) := fun σ H M ρ S o S' hs ok e Q q => by
  unfold mRg1 at e
  cases e1 : me ρ S with
  | none => rw [e1] at e; cases e
  | some p =>
    rw [e1, Option.bind_some] at e
    split at e <;> first | (cases e; done) | skip
    rename_i j ej
    split at e <;> cases e
    rename_i hj
    have hj := of_decide_eq_true hj
    refine h σ H M ρ S p.1 p.2 hs ok e1 _ fun v H1 M1 x1 ok1 r1 => ?_
    rw [ej] at r1
    cases r1
    refine ⟨j, rfl, RgOk.of_le (by omega) (by omega) (by omega) (by omega), fun p hp => ?_⟩
    have e2 : (j - 0).toNat = j.toNat := by omega
    refine q p _ _ (M1.gh p) (x1.trans (Ext.ghost hp)) (ok1.ghost hp) (x1.free p hp) upd_same List.mem_cons_self ?_
    unfold rgV rng
    rw [e2]
    exact rl_rg 0 _
end
section
variable {ι : Type} {F : Fam ι} {a e c : Expr} {ma mb mc me : ME} {mn mn2 : MN} {m : MA} {pos : Pos}
theorem d_r3 {tg : Expr} {px : Pos} (hm : ∀ i, (F.X i).mg "range" = none) (h : PDE F a ma) (h2 : PDE F e mb) (h3 : PDE F c mc) (hg : ∀ i, Gl (F.X i) "range" := by exact fun _ => rfl)
    (hs1 : ∀ i, starEach [a, e, c] (F.X i).env = (false, eval a (F.X i).env) :: starEach [e, c] (F.X i).env := by intro _; rfl) (hs2 : ∀ i, starEach [e, c] (F.X i).env = (false, eval e (F.X i).env) :: starEach [c] (F.X i).env := by intro _; rfl)
    (hs3 : ∀ i, starEach [c] (F.X i).env = (false, eval c (F.X i).env) :: starEach [] (F.X i).env := by intro _; rfl) (hp : ∀ i, (backTo pos (starEach [e, c] (F.X i).env)).any (·.1) = false := by intro _; rfl) :
    PDI F tg (.Call (.Name "range" px) [a, e, c] [] pos) (mR3 ma mb mc) := by
  obtain ⟨t, p, q⟩ := h
  obtain ⟨t2, p2, q2⟩ := h2
  obtain ⟨t3, p3, q3⟩ := h3
  exact ⟨_, fun i => pi_range3 (hg i) (hm i) (pa_cons (p i) (pa_cons (p2 i) (pa_cons (p3 i) pa_nil (hs3 i)) (hs2 i)) (hs1 i)) (hs1 i) (hp i), im_r3 q q2 q3⟩
theorem d_popI (j : Nat) {x : Str} {px apos : Pos} (h : PDE F e me) (hN : ∀ i, (F.X i).N[j]? = some x := by exact fun _ => rfl) (hv : ∀ i, Vis (F.X i).env.scope x := by first | exact fun _ => Or.inl rfl | exact fun _ => Or.inr (Or.inl rfl) | exact fun _ => Or.inr (Or.inr rfl))
    (hd : (x == ("__debug__" : Str)) = false := by decide) (hcd : (x == ("__classdict__" : Str)) = false := by decide) (hbase : ∀ i, attributeBase (.Name x px) "pop" (F.X i).env (eval (.Name x px) (F.X i).env) = eval (.Name x px) (F.X i).env := by intro _; rfl)
    (hfew : ∀ i, ((backTo pos (starEach [e] (F.X i).env)).all (fun x => !x.1) && (backToKw pos (keywordEach [] (F.X i).env)).all (fun x => x.1.isSome) && decide ([e].length + ([] : List Keyword).length + (if ([] : List Keyword).isEmpty then 0 else 1) < 30)) = true := by intro _; rfl)
    (hline : (apos.endLine == pos.line) = true := by rfl) (hs : ∀ i, starEach [e] (F.X i).env = (false, eval e (F.X i).env) :: starEach [] (F.X i).env := by intro _; rfl) : PDE F (.Call (.Attribute (.Name x px) "pop" apos) [e] [] pos) (mPopI j me) := by
  obtain ⟨t, p, q⟩ := h
  exact ⟨_, fun i => by have := pe_bm (cpos := pos) (apos := apos) PySem.F.plainAttrs_list PySem.F.slot_list_pop PySem.F.type_list_pop (mt_popAt (X := F.X i)) (pe_var (pos := px) (hN i) (hv i) hd hcd) (pa_cons (p i) pa_nil (hs i)) (hbase i) (hfew i) hline (hs i) rfl; rw [F.hK i] at this; exact this, im_popI q⟩
theorem d_idx (j : Nat) {x : Str} {px apos : Pos} (h : PDE F e me) (hN : ∀ i, (F.X i).N[j]? = some x := by exact fun _ => rfl) (hv : ∀ i, Vis (F.X i).env.scope x := by first | exact fun _ => Or.inl rfl | exact fun _ => Or.inr (Or.inl rfl) | exact fun _ => Or.inr (Or.inr rfl))
    (hd : (x == ("__debug__" : Str)) = false := by decide) (hcd : (x == ("__classdict__" : Str)) = false := by decide) (hbase : ∀ i, attributeBase (.Name x px) "index" (F.X i).env (eval (.Name x px) (F.X i).env) = eval (.Name x px) (F.X i).env := by intro _; rfl)
    (hfew : ∀ i, ((backTo pos (starEach [e] (F.X i).env)).all (fun x => !x.1) && (backToKw pos (keywordEach [] (F.X i).env)).all (fun x => x.1.isSome) && decide ([e].length + ([] : List Keyword).length + (if ([] : List Keyword).isEmpty then 0 else 1) < 30)) = true := by intro _; rfl)
    (hline : (apos.endLine == pos.line) = true := by rfl) (hs : ∀ i, starEach [e] (F.X i).env = (false, eval e (F.X i).env) :: starEach [] (F.X i).env := by intro _; rfl) : PDE F (.Call (.Attribute (.Name x px) "index" apos) [e] [] pos) (mIdx j me) := by
  obtain ⟨t, p, q⟩ := h
  exact ⟨_, fun i => by have := pe_bm (cpos := pos) (apos := apos) PySem.F.plainAttrs_list PySem.F.slot_list_index PySem.F.type_list_index (mt_indexD (X := F.X i) (k_units2 F i)) (pe_var (pos := px) (hN i) (hv i) hd hcd) (pa_cons (p i) pa_nil (hs i)) (hbase i) (hfew i) hline (hs i) rfl; rw [F.hK i] at this; exact this, im_idx q⟩
theorem d_listRg {px px2 pos2 : Pos} (hm : ∀ i, (F.X i).mg "list" = none) (hm2 : ∀ i, (F.X i).mg "range" = none) (h : PDE F e me) (hg : ∀ i, Gl (F.X i) "list" := by exact fun _ => rfl) (hg2 : ∀ i, Gl (F.X i) "range" := by exact fun _ => rfl)
    (hs : ∀ i, starEach [e] (F.X i).env = (false, eval e (F.X i).env) :: starEach [] (F.X i).env := by intro _; rfl)
    (hs2 : ∀ i, starEach [.Call (.Name "range" px2) [e] [] pos2] (F.X i).env = (false, eval (.Call (.Name "range" px2) [e] [] pos2) (F.X i).env) :: starEach [] (F.X i).env := by intro _; rfl) :
    PDN F (.Call (.Name "list" px) [.Call (.Name "range" px2) [e] [] pos2] [] pos) (mRg1 me) := by
  obtain ⟨t, p, q⟩ := h
  exact ⟨_, fun i => pe_listRg (F.calm i) (hg i) (hm i) (prg_1 (hg2 i) (hm2 i) (p i) (hs i)) (hs2 i), im_listRg q⟩
end
end G
set_option Elab.async false
set_option linter.all false
set_option autoImplicit false
set_option maxRecDepth 100000
set_option maxHeartbeats 4000000
/-! loops and comprehensions over a name that may be a cell. -/
namespace G
open PySem L2
def cellAt (S : Sto) (n i : Nat) : Option (Option D) := (S[n]?.join).map fun xs => xs[i]?
def forCell (mg : MG) (mb : MS) (n : Nat) : Nat → Nat → Rho → Sto → Option (Out × Rho × Sto)
  | 0, _, _, _ => none
  | f + 1, i, ρ, S => (cellAt S n i).bind fun y => match y with
    | none => some (.nx, ρ, S)
    | some x => (mg x ρ).bind fun ρ1 => (mb ρ1 S).bind fun p => match p.1 with
      | .nx => forCell mg mb n f (i + 1) p.2.1 p.2.2
      | .ct => forCell mg mb n f (i + 1) p.2.1 p.2.2
      | .bk => some (.nx, p.2)
      | .rt r => some (.rt r, p.2)
def mForV (j : Nat) (mg : MG) (mb : MS) : MS := fun ρ S => match ρ[j]? with
  | some (some (.d (.list xs))) => forRun mg mb xs ρ S
  | some (some (.d (.tuple xs))) => forRun mg mb xs ρ S
  | some (some (.loc n)) => forCell mg mb n 1000 0 ρ S
  | _ => none
def lcCell (mg : MG) (mt : MT) (me : ME) (n : Nat) : Nat → Nat → Rho → Sto → Option (List D × Sto)
  | 0, _, _, _ => none
  | f + 1, i, ρ, S => (cellAt S n i).bind fun y => match y with
    | none => some ([], S)
    | some x => (mg x ρ).bind fun ρ1 => (mt ρ1 S).bind fun p => if p.1 then (me ρ1 p.2).bind fun q => (lcCell mg mt me n f (i + 1) ρ q.2).map fun r => (q.1 :: r.1, r.2) else lcCell mg mt me n f (i + 1) ρ p.2
def mLcV (j : Nat) (mg : MG) (mt : MT) (me : ME) (vs : List Nat) : MN := fun ρ S => match ρ[j]? with
  | some (some (.d (.list xs))) => if xs.length ≤ 1000000 then lcRun mg mt me xs (wipeR ρ vs) S else none
  | some (some (.d (.tuple xs))) => if xs.length ≤ 1000000 then lcRun mg mt me xs (wipeR ρ vs) S else none
  | some (some (.loc n)) => lcCell mg mt me n 1000 0 (wipeR ρ vs) S
  | _ => none
section
variable {K : PySem.W.Frag} {M M' : Adr} {H H' : Hp} {S S' : Sto} {ta tb tc te : TE} {ma mb mc me : ME} {d : D}
theorem cell_of {n i : Nat} {y : Option D} {a : Addr} {M1 : Adr} {H1 : Hp} (hn : M1.c[n]? = some (some a)) (x : Ext M1 H1 M H) (ok : Ok K M S H) (e : cellAt S n i = some y) :
    ∃ xs vs, S[n]? = some (some xs) ∧ xs[i]? = y ∧ H a = some (.lst vs) ∧ RlA K M H vs xs := by
  unfold cellAt at e
  cases e1 : S[n]?.join with
  | none => rw [e1] at e; cases e
  | some xs =>
    rw [e1] at e
    obtain ⟨a', vs, c1, c2, c3⟩ := ok.cell n xs (join_some e1)
    have ea : a' = a := by
      rcases x.pos n a hn with z | z
      · rw [z] at c1; cases c1; rfl
      · rw [z] at c1; cases c1
    subst ea
    exact ⟨xs, vs, join_some e1, Option.some.inj e, c2, c3⟩
theorem itl_stop {a : Addr} {vs : List V} {xs : List D} {i : Nat} (h : H a = some (.lst vs)) (r : RlA K M H vs xs) (e : xs[i]? = none) : (Itl K a).stop i H := ⟨vs, .inl (.inl h), by rw [r.len]; exact List.getElem?_eq_none_iff.mp e⟩
theorem itl_go {a : Addr} {vs : List V} {xs : List D} {i : Nat} {d : D} (h : H a = some (.lst vs)) (r : RlA K M H vs xs) (e : xs[i]? = some d) : (Itl K a).go i H ∧ ∀ x H', (Itl K a).yld i H x H' → H' = H ∧ Rl K M H x d := by
  obtain ⟨v, ev, rv⟩ := r.get e
  refine ⟨⟨vs, v, .inl (.inl h), ev⟩, fun x H' y => ?_⟩
  obtain ⟨rfl, y⟩ := y
  have := y vs (.inl (.inl h))
  rw [ev] at this
  cases this
  exact ⟨rfl, rv⟩
theorem imc_forV {b j : Nat} {g : TG} {tb : TS} {mg : MG} {mb : MS} (hg : ImG K g mg) (h : ImC K b tb mb) : ImC K b (tFor (iAny K (tVar j)) g tb) (mForV j mg mb) := fun M0 H0 σ H M ρ S o ρ' S' hb hl x0 hs ok e D q => by
  unfold mForV at e
  split at e
  · rename_i xs ej
    exact imc_for (im_i (im_var j)) hg h M0 H0 σ H M ρ S o ρ' S' hb hl x0 hs ok (by unfold mFor mQE mVar; rw [ej]; exact e) D q
  · rename_i xs ej
    exact imc_for (im_i (im_var j)) hg h M0 H0 σ H M ρ S o ρ' S' hb hl x0 hs ok (by unfold mFor mQE mVar; rw [ej]; exact e) D q
  · rename_i n en
    have e00 : ∃ y, cellAt S n 0 = some y := by
      unfold forCell at e
      cases e1 : cellAt S n 0 with
      | none => rw [e1] at e; cases e
      | some y => exact ⟨y, rfl⟩
    obtain ⟨y0, e00⟩ := e00
    have ec : ∃ xs, S[n]? = some (some xs) := by
      unfold cellAt at e00
      cases e1 : S[n]?.join with
      | none => rw [e1] at e00; cases e00
      | some xs => exact ⟨xs, join_some e1⟩
    obtain ⟨xs0, ec⟩ := ec
    obtain ⟨a, vs0, hw, hn, ha, hra⟩ := cell_at hs ok en ec
    refine .inl ⟨_, hw, a, rfl, ⟨vs0, .inl (.inl ha)⟩, ?_⟩
    refine ⟨fun i m σi Hi => ∃ (Mi : Adr) (ρi : Rho) (Si : Sto), Ext M H Mi Hi ∧ Ok K Mi Si Hi ∧ RSt K Mi Hi σi ρi ∧ forCell mg mb n m i ρi Si = some (o, ρ', S'), ⟨1000, M, ρ, S, .refl, ok, hs, e⟩, ?_⟩
    rintro i m σi Hi ⟨Mi, ρi, Si, xi, oki, hsi, er⟩
    cases m with
    | zero => cases er
    | succ m =>
      unfold forCell at er
      cases e1 : cellAt Si n i with
      | none => rw [e1] at er; cases er
      | some y =>
        rw [e1, Option.bind_some] at er
        obtain ⟨xs, vs, c1, c2, c3, c4⟩ := cell_of hn xi oki e1
        cases y with
        | none =>
          cases er
          exact .inl ⟨itl_stop c3 c4 c2, q σi Hi Mi xi oki hsi⟩
        | some x =>
          obtain ⟨g1, g2⟩ := itl_go c3 c4 c2
          refine .inr ⟨g1, fun σn Hn => ∃ (Mi : Adr) (ρi : Rho) (Si : Sto), Ext M H Mi Hn ∧ Ok K Mi Si Hn ∧ RSt K Mi Hn σn ρi ∧ forCell mg mb n m (i + 1) ρi Si = some (o, ρ', S'), fun σn Hn hN => ⟨m, Nat.lt_succ_self m, hN⟩, fun v H2 hx => ?_⟩
          obtain ⟨rfl, rv⟩ := g2 v H2 hx
          simp only at er
          cases e2 : mg x ρi with
          | none => rw [e2] at er; cases er
          | some ρ1 =>
            rw [e2, Option.bind_some] at er
            refine hg _ H2 Mi ρi ρ1 v x hsi rv e2 _ fun σ' hs' => ?_
            cases e3 : mb ρ1 Si with
            | none => rw [e3] at er; cases er
            | some p3 =>
              rw [e3, Option.bind_some] at er
              obtain ⟨o3, ρ3, S3⟩ := p3
              refine h M0 H0 σ' H2 Mi ρ1 Si o3 ρ3 S3 hb hl (x0.trans xi) hs' oki e3 _ ?_
              cases o3 with
              | nx => exact fun σ4 H4 M4 x4 ok4 hs4 => ⟨M4, ρ3, S3, xi.trans x4, ok4, hs4, er⟩
              | ct => exact fun σ4 H4 M4 x4 ok4 hs4 => ⟨M4, ρ3, S3, xi.trans x4, ok4, hs4, er⟩
              | bk => cases er; exact fun σ4 H4 M4 x4 ok4 hs4 => q σ4 H4 M4 (xi.trans x4) ok4 hs4
              | rt r => cases er; exact fun v H4 M4 x4 ok4 hr => q v H4 M4 (xi.trans x4) ok4 hr
  · cases e
theorem im_lcV {j : Nat} {g : TG} {tt : TT} {mg : MG} {mt : MT} {vs : List Nat} (hg : ImG K g mg) (ho : GOwn g vs) (ht : ImT K tt mt) (he : ImE K te me) : ImN K (tLc (iAny K (tVar j)) g tt te vs) (mLcV j mg mt me vs) := fun σ H M ρ S ys S' hs ok e Q q => by
  unfold mLcV at e
  split at e
  · rename_i xs ej
    split at e <;> first | (cases e; done) | skip
    rename_i hz
    exact im_lc (im_i (im_var j)) hg ho ht he σ H M ρ S ys S' hs ok (by unfold mLc mQE mVar; rw [ej]; show (if xs.length ≤ 1000000 then _ else _) = _; rw [if_pos hz]; exact e) Q q
  · rename_i xs ej
    split at e <;> first | (cases e; done) | skip
    rename_i hz
    exact im_lc (im_i (im_var j)) hg ho ht he σ H M ρ S ys S' hs ok (by unfold mLc mQE mVar; rw [ej]; show (if xs.length ≤ 1000000 then _ else _) = _; rw [if_pos hz]; exact e) Q q
  · rename_i n en
    have e00 : ∃ y, cellAt S n 0 = some y := by
      unfold lcCell at e
      cases e1 : cellAt S n 0 with
      | none => rw [e1] at e; cases e
      | some y => exact ⟨y, rfl⟩
    obtain ⟨y0, e00⟩ := e00
    have ec : ∃ xs, S[n]? = some (some xs) := by
      unfold cellAt at e00
      cases e1 : S[n]?.join with
      | none => rw [e1] at e00; cases e00
      | some xs => exact ⟨xs, join_some e1⟩
    obtain ⟨xs0, ec⟩ := ec
    obtain ⟨a, vs0, hw, hn, ha, hra⟩ := cell_at hs ok en ec
    refine .inl ⟨_, hw, a, rfl, ⟨vs0, .inl (.inl ha)⟩, ?_⟩
    intro Dl hD
    have hs1 := hs.wipe vs
    refine ⟨fun i m Hi => m + i = 1000 ∧ ∃ (Mi : Adr) (Si : Sto) (acc : List D) (av : List V) (zs : List D), Ext M H Mi Hi ∧ Dl ∈ Mi.g ∧ some Dl ∉ Mi.c ∧ Ok K Mi Si Hi ∧ RSt K Mi Hi (L2.wipe σ vs) (wipeR ρ vs) ∧ Hi Dl = some (.lst av) ∧ RlA K Mi Hi av acc ∧
      acc.length ≤ i ∧ lcCell mg mt me n m i (wipeR ρ vs) Si = some (zs, S') ∧ acc ++ zs = ys,
      ⟨1000, rfl, M.gh Dl, S, [], [], ys, Ext.ghost hD, List.mem_cons_self, fun z => ok.notin hD (.inl z), ok.ghost hD, hs1.fresh hD, upd_same, .nil, Nat.zero_le _, e, rfl⟩, ?_⟩
    rintro i m Hi ⟨hmi, Mi, Si, acc, av, zs, xi, hg1, hc1, oki, hsi, hd, ra, hacc, er, hy⟩
    cases m with
    | zero => cases er
    | succ m =>
      unfold lcCell at er
      cases e1 : cellAt Si n i with
      | none => rw [e1] at er; cases er
      | some y =>
        rw [e1, Option.bind_some] at er
        obtain ⟨xs, vs', k1, k2, k3, k4⟩ := cell_of hn xi oki e1
        cases y with
        | none =>
          obtain ⟨e11, e12⟩ := Prod.mk.inj (Option.some.inj (show some (([] : List D), Si) = some (zs, S') from er))
          subst e11
          subst e12
          rw [List.append_nil] at hy
          subst hy
          exact .inl ⟨itl_stop k3 k4 k2, q Dl av Hi Mi xi oki hD hd hg1 ra⟩
        | some x =>
          obtain ⟨w1, w2⟩ := itl_go k3 k4 k2
          refine .inr ⟨w1, fun Hn => ∃ (Mi : Adr) (Si : Sto) (acc : List D) (av : List V) (zs : List D), Ext M H Mi Hn ∧ Dl ∈ Mi.g ∧ some Dl ∉ Mi.c ∧ Ok K Mi Si Hn ∧ RSt K Mi Hn (L2.wipe σ vs) (wipeR ρ vs) ∧ Hn Dl = some (.lst av) ∧ RlA K Mi Hn av acc ∧
            acc.length ≤ i + 1 ∧ lcCell mg mt me n m (i + 1) (wipeR ρ vs) Si = some (zs, S') ∧ acc ++ zs = ys, fun Hn hN => ⟨m, Nat.lt_succ_self m, by omega, hN⟩, fun v H2 hx => ?_⟩
          obtain ⟨rfl, rv⟩ := w2 v H2 hx
          simp only at er
          cases e2 : mg x (wipeR ρ vs) with
          | none => rw [e2] at er; cases er
          | some ρ1 =>
            rw [e2, Option.bind_some] at er
            refine ho σ _ _ _ _ (wipe_wipe σ fun _ z => z) (hg _ H2 Mi (wipeR ρ vs) ρ1 v x hsi rv e2 _ fun σ' hs' => ?_)
            cases e3 : mt ρ1 Si with
            | none => rw [e3] at er; cases er
            | some p =>
              rw [e3, Option.bind_some] at er
              obtain ⟨b, S3⟩ := p
              refine ht σ' H2 Mi ρ1 Si b S3 hs' oki e3 _ fun H3 M3 x3 ok3 => ?_
              have hD3 : H3 Dl = some (.lst av) := x3.keep Dl _ hd (.inl hc1)
              have hc3 : some Dl ∉ M3.c := fun z => (x3.sub Dl z).elim hc1 fun z => by rw [hd] at z; cases z
              have hg3 : Dl ∈ M3.g := x3.gk Dl hg1
              cases b with
              | false =>
                rw [if_neg (show ¬ (false = true) from Bool.false_ne_true)]
                rw [if_neg (show ¬ (false = true) from Bool.false_ne_true)] at er
                exact ⟨M3, S3, acc, av, zs, xi.trans x3, hg3, hc3, ok3, hsi.mono x3, hD3, ra.mono x3, by omega, er, hy⟩
              | true =>
                rw [if_pos rfl]
                rw [if_pos rfl] at er
                cases e4 : me ρ1 S3 with
                | none => rw [e4] at er; cases er
                | some p4 =>
                  rw [e4, Option.bind_some] at er
                  cases e5 : lcCell mg mt me n m (i + 1) (wipeR ρ vs) p4.2 with
                  | none => rw [e5] at er; cases er
                  | some p5 =>
                    rw [e5] at er
                    obtain ⟨e11, e12⟩ := Prod.mk.inj (Option.some.inj (show some (p4.1 :: p5.1, p5.2) = some (zs, S') from er))
                    subst e11
                    refine he σ' H3 M3 ρ1 S3 p4.1 p4.2 (hs'.mono x3) ok3 e4 _ fun v H4 M4 x4 ok4 r4 => ?_
                    have hD4 : H4 Dl = some (.lst av) := x4.keep Dl _ hD3 (.inl hc3)
                    have hc4 : some Dl ∉ M4.c := fun z => (x4.sub Dl z).elim hc3 fun z => by rw [hD3] at z; cases z
                    have hg4 : Dl ∈ M4.g := x4.gk Dl hg3
                    have x24 := x3.trans x4
                    have ra4 := ra.mono x24
                    have xg : Ext M H M4 (upd H4 Dl (.lst (av ++ [v]))) := by
                      have y := (xi.trans x24)
                      exact ⟨y.subn, y.gs, y.gk, y.pos, y.dead, fun a o h c => by
                        rw [upd_ne (ne_of_none h hD)]; exact y.keep a o h c, fun a h => y.free a (by
                        by_cases ea : a = Dl
                        · subst ea; rw [upd_same] at h; cases h
                        · rw [upd_ne ea] at h; exact h)⟩
                    refine ⟨av, hD4, Nat.lt_of_lt_of_le (show av.length < 1000001 by rw [ra.len]; omega) (by decide), M4, p4.2, acc ++ [p4.1], av ++ [v], p5.1, xg, hg4, hc4, ok4.grow (.inr hg4) hD4 hc4, (hsi.mono x24).grow (.inr hg4) hD4, upd_same,
                      (ra4.append (.one r4)).grow (.inr hg4) hD4, by rw [List.length_append, List.length_singleton]; omega, by rw [e5, ← e12], by rw [List.append_assoc]; exact hy⟩
  · cases e
end
section
variable {ι : Type} {F : Fam ι} {a e c : Expr} {ma mb mc me : ME} {mn mn2 : MN} {m : MA} {mt : MT} {pos : Pos} {b : Nat} {s1 : MS} {st : Stmt}
theorem d_forV (j : Nat) {x : Str} {px : Pos} {tg : Expr} {body : List Stmt} {mg : MG} (hg : PDG F tg mg) (h : PDSs F b body s1) (hN : ∀ i, (F.X i).N[j]? = some x := by exact fun _ => rfl) (hv : ∀ i, Vis (F.X i).env.scope x := by first | exact fun _ => Or.inl rfl | exact fun _ => Or.inr (Or.inl rfl) | exact fun _ => Or.inr (Or.inr rfl))
    (hd : (x == ("__debug__" : Str)) = false := by decide) (hcd : (x == ("__classdict__" : Str)) = false := by decide)
    (hp : ∀ i, PassesOwn (model (F.X i).prog (F.X i).w) (F.X i).A (F.X i).env (F.X i).xe := by exact fun _ => PassesOwn.never) (hs : ∀ i y, foldedSetIterable (.Name x px) (F.X i).env y = pure y := by intro _ _; rfl) :
    PDS F b (.For tg (.Name x px) body [] pos) (mForV j mg s1) := by
  obtain ⟨t2, p2, q2⟩ := hg
  obtain ⟨t3, p3, q3⟩ := h
  exact ⟨_, fun i => ps_for (hp i) (F.calm i) (by have := pi_any (tg := tg) (pe_var (pos := px) (hN i) (hv i) hd hcd); rw [F.hK i] at this; exact this) (p2 i) (p3 i) (hs i), imc_forV q2 q3⟩
theorem d_lcV (j : Nat) {x : Str} {px : Pos} {tg elt : Expr} {ifs : List Expr} {scope : Scope} {own : List (Str × Nat)} {mg : MG} {g : TG} (ok : ∀ i, BlkOk (F.X i).N (F.X i).env.scope scope own)
    (hg : ∀ p, PG ((F.blk scope).X p) tg g) (hgi : ImG F.K g mg) (ho : GOwn g (own.map (·.2))) (ht : PDTs (F.blk scope) ifs mt) (he : PDE (F.blk scope) elt me)
    (hN : ∀ i, (F.X i).N[j]? = some x := by exact fun _ => rfl) (hv : ∀ i, Vis (F.X i).env.scope x := by first | exact fun _ => Or.inl rfl | exact fun _ => Or.inr (Or.inl rfl) | exact fun _ => Or.inr (Or.inr rfl))
    (hd : (x == ("__debug__" : Str)) = false := by decide) (hcd : (x == ("__classdict__" : Str)) = false := by decide) (hs : ∀ i y, foldedSetIterable (.Name x px) (F.X i).env y = pure y := by intro _ _; rfl) :
    PDN F (.ListComp elt [⟨tg, .Name x px, ifs, 0⟩] scope pos) (mLcV j mg mt me (own.map (·.2))) := by
  obtain ⟨tt, pt, qt⟩ := ht
  obtain ⟨te, pe, qe⟩ := he
  exact ⟨_, fun i => pe_lc (F.calm i) (F.nd i) (by have := pi_any (tg := tg) (pe_var (pos := px) (hN i) (hv i) hd hcd); rw [F.hK i] at this; exact this) (ok i) (fun s H C cl fp => hg (i, s, H, C, cl, fp)) (fun s H C cl fp => pt (i, s, H, C, cl, fp)) (fun s H C cl fp => pe (i, s, H, C, cl, fp)) (hs i), im_lcV hgi ho qt qe⟩
theorem d_lcVP (k : Nat) {x : Str} {px : Pos} {tg elt : Expr} {ifs : List Expr} {scope : Scope} {own : List (Str × Nat)} {mg : MG} {g : TG} (j : Nat) {y : Str} {py spos : Pos} (ok : ∀ i, BlkOk (F.X i).N (F.X i).env.scope scope own)
    (hg : ∀ p, PG ((F.blk scope).X p) tg g) (hgi : ImG F.K g mg) (ho : GOwn g (own.map (·.2))) (ht : PDTs (F.blk scope) ifs mt) (he : PDE (F.blk scope) elt me)
    (hsw : ∀ i, swapsWith (.ListComp elt [⟨tg, .Name x px, ifs, 0⟩] scope pos) (some (.Name y py)) spos.line (F.X i).env = pure true) (hy : ∀ i, (F.X i).N[j]? = some y := by exact fun _ => rfl) (hyl : ∀ i, (F.X i).env.scope.names.lookup y = some .local := by exact fun _ => rfl)
    (hN : ∀ i, (F.X i).N[k]? = some x := by exact fun _ => rfl) (hv : ∀ i, Vis (F.X i).env.scope x := by first | exact fun _ => Or.inl rfl | exact fun _ => Or.inr (Or.inl rfl) | exact fun _ => Or.inr (Or.inr rfl))
    (hd : (x == ("__debug__" : Str)) = false := by decide) (hcd : (x == ("__classdict__" : Str)) = false := by decide) (hs : ∀ i z, foldedSetIterable (.Name x px) (F.X i).env z = pure z := by intro _ _; rfl) :
    ∃ t, (∀ i, PS (F.X i) (.Assign [.Name y py] (.ListComp elt [⟨tg, .Name x px, ifs, 0⟩] scope pos) spos) (tAsg t (gName j))) ∧ ImN F.K t (mLcV k mg mt me (own.map (·.2))) := by
  obtain ⟨tt, pt, qt⟩ := ht
  obtain ⟨te, pe, qe⟩ := he
  exact ⟨_, fun i => ps_setLc (F.calm i) (F.nd i) (hy i) (hyl i) (hsw i) (by have := pi_any (tg := tg) (pe_var (pos := px) (hN i) (hv i) hd hcd); rw [F.hK i] at this; exact this) (ok i) (fun s H C cl fp => hg (i, s, H, C, cl, fp)) (fun s H C cl fp => pt (i, s, H, C, cl, fp)) (fun s H C cl fp => pe (i, s, H, C, cl, fp)) (hs i), im_lcV hgi ho qt qe⟩
end
end G
set_option Elab.async false
set_option linter.all false
set_option autoImplicit false
set_option maxRecDepth 100000
set_option maxHeartbeats 4000000
/-! xs[::-1] of a tuple, of a list. -/
namespace G
open PySem PySem.Spec PyProof.Rows PySem.W L2
section
variable {prog : Program} {w : World} {A : Around} {E : Value → Shared → Prop} {s : Shared}
theorem applied_rev {sl : Addr} {vs : Value} {n : Nat} {Q : Int × Int × Nat → Shared → Prop} (hs : s.heap.IsSliceOf sl .none .none vs) (ps : IsPart vs (some (-1)))
    (h : Q ((n : Int) - 1, -1, n) s) : wpAny (model prog w) A (Builtin.Slice.sliceApplied (.ref sl) (pure (n : Int))) Q E s := by
  obtain ⟨os, hos, hcs, hds⟩ := id hs
  unfold Builtin.Slice.sliceApplied Builtin.Slice.sliceFields
  refine wpAny_bind (wpAny_bind (wpAny_field hos hds (x := .none) rfl (wpAny_bind (wpAny_field hos hds (x := .none) rfl (wpAny_bind (wpAny_field hos hds (x := vs) rfl (wpAny_pure ?_)))))))
  refine wpAny_bind (HT.slicePart_ ps ?_)
  show wpAny _ _ (if ((-1 : Int) == 0) = true then _ else _) _ _ s
  rw [if_neg (by decide)]
  refine wpAny_bind (slicePart_none (wpAny_bind (slicePart_none (wpAny_bind (wpAny_pure ?_)))))
  show wpAny _ _ (match Builtin.Slice.sliceAdjust none none (-1) (n : Int) with | (lo, hi) => pure (lo, (-1 : Int), Builtin.Slice.slicePlaces lo hi (-1))) _ _ s
  have e1 : Builtin.Slice.sliceAdjust none none (-1) (n : Int) = ((n : Int) - 1, -1) := by simp [Builtin.Slice.sliceAdjust]
  have e2 : Builtin.Slice.slicePlaces ((n : Int) - 1) (-1) (-1) = n := by
    unfold Builtin.Slice.slicePlaces
    simp only [show ¬ ((-1 : Int) > 0) by omega, if_false]
    by_cases hn : 0 < n
    · rw [if_pos (by omega)]
      have : ((n : Int) - 1 - -1 - 1) / (- -1) + 1 = n := by
        rw [show (- -1 : Int) = 1 by omega, Int.ediv_one]
        omega
      rw [this]
      omega
    · rw [if_neg (by omega)]
      omega
  rw [e1]
  show wpAny _ _ (pure ((n : Int) - 1, (-1 : Int), Builtin.Slice.slicePlaces ((n : Int) - 1) (-1) (-1))) _ _ s
  rw [e2]
  exact wpAny_pure h
theorem pick_all {α : Type} : ∀ (r : List α) (f : Nat → Option α), (∀ m, m < r.length → f m = r[m]?) → (List.range r.length).filterMap f = r
  | [], f, _ => rfl
  | x :: r, f, h => by
    rw [List.length_cons, List.range_succ_eq_map, List.filterMap_cons, h 0 (by simp), List.filterMap_map]
    show x :: _ = _
    congr 1
    exact pick_all r (f ∘ Nat.succ) fun m hm => by
      show f (m + 1) = _
      rw [h (m + 1) (by simpa using hm)]
      rfl
theorem pick_rev (xs : Array Value) : ((List.range xs.size).filterMap fun (m : Nat) => xs[((xs.size : Int) - 1 + (m : Int) * (-1)).toNat]?).toArray = xs.toList.reverse.toArray := by
  congr 1
  obtain ⟨l⟩ := xs
  have := pick_all l.reverse (fun (m : Nat) => l[((l.length : Int) - 1 + (m : Int) * (-1)).toNat]?) fun m hm => by
    rw [List.length_reverse] at hm
    rw [List.getElem?_reverse hm]
    congr 1
    omega
  rw [List.length_reverse] at this
  simpa using this
theorem item_rev {t sl : Addr} {items : Array Value} {vs : Value} {Q : Value → Shared → Prop} (ht : IsTup s.heap t items) (hs : s.heap.IsSliceOf sl .none .none vs) (ps : IsPart vs (some (-1)))
    (h : Q (.ref s.heap.objs.size) { s with heap := s.heap.push { cls := .type "tuple", data := .seq items.toList.reverse.toArray } })
    (hsz : items.size ≤ sizeLine) : wpAny (model prog w) A (getItem (.ref t) (.ref sl)) Q E s := by
  have htake : sizeOk (.seq items.toList.reverse.toArray) := by
    show items.toList.reverse.toArray.size ≤ sizeLine
    rw [List.size_toArray, List.length_reverse, Array.length_toList]
    exact hsz
  obtain ⟨os, hos, hcs, hds⟩ := id hs
  have hTs : s.TypeIs (.ref sl) "slice" := ⟨os, hos, hcs⟩
  unfold getItem
  try with_reducible refine wpAny_holding ?_
  first | refine wpAny_bind (wpAny_pure ?_) | skip
  refine wpAny_bind (wpAny_sequenceKey ht.typeIs (by decide) ?_)
  refine wpAny_bind (wpAny_callSpecial?_slot (name := Str.ofString "__getitem__") ht.typeIs PyProof.Rows.slot_tuple_getitem
    (wpAny_call_entry PyProof.Rows.slot_tuple_getitem ht.typeIs entry_tuple_getitem ?_ (args_tuple_getitem _ _)))
  show wpAny _ _ (Builtin.Tuple.tupleItemsOf (.ref t) >>= _) _ _ s
  refine wpAny_bind (tupleItemsOf_ ht ?_)
  refine wpAny_bind (wpAny_typeOf hTs ?_)
  rw [if_pos (by decide)]
  refine wpAny_bind (applied_rev hs ps ?_)
  have hno : ¬ ((((items.size : Int) - 1) == 0 && (-1 : Int) == 1 && items.size == items.size) = true) := by simp
  show wpAny _ _ (if (((items.size : Int) - 1) == 0 && (-1 : Int) == 1 && items.size == items.size) = true then _ else _) _ _ s
  rw [if_neg hno, pick_rev]
  first
    | exact wpAny_bind (m := Builtin.Tuple.tupleExact _) (wpAny_newObj_type (wpAny_pure ⟨_, rfl, wpAny_pure h⟩) htake)
    | exact wpAny_bind (m := Builtin.Tuple.tupleExact _) (wpAny_newObj_type (wpAny_bind (wpAny_pure (wpAny_pure ⟨_, rfl, wpAny_pure h⟩))) htake)
    | exact wpAny_bind (wpAny_bind (m := Builtin.Tuple.tupleExact _) (wpAny_newObj_type (wpAny_pure (wpAny_pure ⟨_, rfl, wpAny_pure h⟩)) htake))
    | exact wpAny_bind (wpAny_bind (m := Builtin.Tuple.tupleExact _) (wpAny_newObj_type (wpAny_pure ⟨_, rfl, wpAny_pure h⟩) htake))
end
/-- a sequence turned round: a tuple gives a tuple, a list a list -/
def tRevT (K : PySem.W.Frag) (te : TE) : TE := fun σ H Q => te σ H fun x H1 => ∃ a xs, x = .ref a ∧ SqT K H1 a xs ∧ ∀ p, H1 p = none → Q (.ref p) (upd H1 p (.tup xs.reverse))
theorem pe_revT {X : Cx} {e : PySem.Expr} {te : TE} {k : Nat} {p1 p2 p3 pos : Pos} (he : PE X e te) : PE X (.Subscript e (.Slice none none (some (.UnaryOp .USub (.Constant (.int 1) k p1) p2)) p3) pos) (tRevT X.K te) := by
  refine ⟨fun pins s σ H Q I h => ?_⟩
  refine Subscript_ (thn (he.run pins s σ H _ I h) fun v s1 ⟨x, H1, I1, r1, q1⟩ => ?_)
  obtain ⟨a, xs, ex, hx, q⟩ := q1
  subst ex
  cases r1
  have hst : PO X (some (.UnaryOp .USub (.Constant (.int 1) k p1) p2)) (tPart (tUn (rU fun i => .int (-i)) (tC (.int 1)))) := po_some (pe_un un_neg pe_int)
  refine wpAny_Slice (thn (po_none.run pins s1 σ H1 (fun o H2 => o = none ∧ H2 = H1) I1 ⟨rfl, rfl⟩) fun vl s2 ⟨l, H2, I2, pl, el, e2⟩ => ?_)
  subst el e2
  refine thn (po_none.run pins s2 σ H2 (fun o H3 => o = none ∧ H3 = H2) I2 ⟨rfl, rfl⟩) fun vu s3 ⟨u, H3, I3, pu, eu, e3⟩ => ?_
  subst eu e3
  refine thn (hst.run pins s3 σ H3 (fun o H4 => o = some (-1) ∧ H4 = H3) I3 ⟨1, rfl, -1, rfl, rfl, rfl⟩) fun vs s4 ⟨o, H4, I4, ps, eo, e4⟩ => ?_
  subst eo e4
  cases pl
  cases pu
  have I5 : Inv X pins σ H4 { s4 with heap := s4.heap.push { cls := .type "slice", data := .fields #[.none, .none, vs] } } := I4.kept (t' := s4.toks) fun b ob q => Heap.get?_push_of_some _ q
  obtain ⟨its, r, ht, hz⟩ := I5.tuple hx
  have hlen := r.length
  show wpAny (model X.prog X.w) X.A (subscriptTail e (.Slice none none (some (.UnaryOp .USub (.Constant (.int 1) k p1) p2)) p3) (.ref a) (.ref s4.heap.objs.size)) (EP X pins σ Q) X.xe { s4 with heap := s4.heap.push { cls := .type "slice", data := .fields #[.none, .none, vs] } }
  refine tail_any (ops := [.ref a, .ref s4.heap.objs.size]) ht.typeIs (PyProof.Rows.slot_tuple_getitem.lookup) ?_ (by with_unfolding_all rfl)
  refine item_rev ht (Heap.IsSliceOf.new _ .none .none vs) ps ?_ (by rw [List.size_toArray]; omega)
  refine ⟨.ref _, _, I5.laid (t' := s4.toks) (o := .tup xs.reverse) (fun b ob q => Heap.get?_push_of_some _ q) (Nat.le_refl _) ?_, rfl, q _ (I5.hok.fresh (Nat.le_refl _))⟩
  exact ⟨by rw [List.length_reverse]; exact hz, _, r.reverse, ⟨_, Heap.get?_push_size _ rfl, rfl, _, rfl⟩⟩
section
variable {K : PySem.W.Frag} {M M' : Adr} {H H' : Hp} {S S' : Sto} {te : TE} {me : ME} {d : D}
def mRevT (m : ME) : ME := fun ρ S => (m ρ S).bind fun p => match p.1 with
  | .tuple xs => some (.tuple xs.reverse, p.2)
  | _ => none
theorem RlA.rev {vs : List V} {ds : List D} (h : RlA K M H vs ds) : RlA K M H vs.reverse ds.reverse := by
  induction ds generalizing vs with
  | nil => cases h; exact .nil
  | cons d ds ih =>
    cases h with
    | cons h1 h2 =>
      rw [List.reverse_cons, List.reverse_cons]
      exact (ih h2).append (.one h1)
theorem im_revT (h : ImE K te me) : ImE K (tRevT K te) (mRevT me) := fun σ H M ρ S d S' hs ok e Q q => by
  unfold mRevT at e
  cases e1 : me ρ S with
  | none => rw [e1] at e; cases e
  | some p =>
    rw [e1, Option.bind_some] at e
    obtain ⟨y, S1⟩ := p
    cases y <;> first | (cases e; done) | skip
    cases e
    refine h σ H M ρ S _ _ hs ok e1 _ fun v H1 M1 x1 ok1 r1 => ?_
    cases r1 with
    | tup h1 h2 => exact ⟨_, _, rfl, h1, fun p hp => q _ _ M1 (x1.trans (Ext.new hp)) (ok1.new hp) (.tup (.inl (.inl upd_same)) (h2.rev.mono (Ext.new hp)))⟩
end
section
variable {ι : Type} {F : Fam ι} {e : PySem.Expr} {me : ME} {pos : Pos}
theorem d_revT {k : Nat} {p1 p2 p3 : Pos} (h : PDE F e me) : PDE F (.Subscript e (.Slice none none (some (.UnaryOp .USub (.Constant (.int 1) k p1) p2)) p3) pos) (mRevT me) := by
  obtain ⟨t, p, q⟩ := h
  exact ⟨_, fun i => by have := pe_revT (k := k) (p1 := p1) (p2 := p2) (p3 := p3) (pos := pos) (p i); rw [F.hK i] at this; exact this, im_revT q⟩
end
end G
set_option Elab.async false
set_option linter.all false
set_option autoImplicit false
set_option maxRecDepth 100000
set_option maxHeartbeats 4000000
/-! bool(x) of an int, a truth value. -/
namespace G
open PySem L2
section
variable {K : PySem.W.Frag}
def fBool : List D → Option D
  | [.int i] => some (.bool (i != 0))
  | [.bool b] => some (.bool b)
  | _ => none
theorem imb_bool : ImB K (fun xs H Q => (∃ i, xs = [.int i] ∧ Q (.bl (i != 0)) H) ∨ ∃ k, xs = [.bl k] ∧ Q (.bl k) H) fBool := fun H M S xs ds dz ok r e Q q => by
  unfold fBool at e
  split at e <;> cases e
  · cases r with
    | cons r1 r2 =>
      cases r1
      cases r2
      exact .inl ⟨_, rfl, q.here ok (.bl _)⟩
  · cases r with
    | cons r1 r2 =>
      cases r1
      cases r2
      exact .inr ⟨_, rfl, q.here ok (.bl _)⟩
end
section
variable {ι : Type} {F : Fam ι} {e : Expr} {me : ME} {pos : Pos}
theorem d_bool1 {px : Pos} (hm : ∀ i, (F.X i).mg "bool" = none) (h : PDE F e me) (hg : ∀ i, Gl (F.X i) "bool" := by exact fun _ => rfl) (hs : ∀ i, starEach [e] (F.X i).env = (false, eval e (F.X i).env) :: starEach [] (F.X i).env := by intro _; rfl) :
    PDE F (.Call (.Name "bool" px) [e] [] pos) (mB fBool (mA1 me mA0)) := by
  obtain ⟨t, p, q⟩ := h
  exact ⟨_, fun i => call1t call_bool1 (hg i) (hm i) (by decide +kernel) (p i) (by decide) (by decide) (hs i), im_b imb_bool (im_a1 q im_a0)⟩
end
end G
set_option linter.all false
set_option autoImplicit false
namespace G
open PySem L2
/-- require -/
def d_require : Fn := mDef 2 2 fun b =>
  (mIfS (mNot (mTru (mVar 0))) mNever mNext)
/-- is_integer -/
def d_is_integer : Fn := mDef 3 3 fun b =>
  (mRet (mAndV (mIsi "int" (mVar 0)) (mAndV (mNotV (mIsi "bool" (mVar 0))) (mChain fLe fLe (mVar 1) (mVar 0) (mVar 2)))))
/-- is_tuple -/
def d_is_tuple : Fn := mDef 3 3 fun b =>
  (mRet (mAndV (mIsi "tuple" (mVar 0)) (mChain fLe fLe (mVar 1) (mLen (mQVar 0)) (mVar 2))))
/-- are_integers -/
def d_are_integers (F_is_integer : Fn) : Fn := mDef 3 4 fun b =>
  (mRet (mAll (mLc (mQE (mVar 0)) (mgN 3) mYes (mCall 3 F_is_integer (mAV 3 (mAV 1 (mAV 2 mA0)))) [3])))
/-- lead -/
def d_lead : Fn := mDef 2 3 fun b =>
  (mSeq (mFor (mQE (mVar 1)) (mgN 2) (mAsg (mIxV 0 (mVar 2)) (mgN 0)))
  (mRet (mVar 0)))
/-- state_of -/
def d_state_of (F_state_of F_lead : Fn) : Fn := mDef 2 4 fun b =>
  (mSeq (mAsg (mEN (mLc (mQE (mSlT (mVar 1) (mO1 (mC (.int 1))) mO0)) (mgN 3) mYes (mCall 2 F_state_of (mAV 0 (mAV 3 mA0))) [3])) (mgN 2))
  (mRet (mCall 2 F_lead (mA1 (mOp fIx (mIxV 0 (mC (.int 2))) (mIxV 1 (mC (.int 0)))) (mAV 2 mA0)))))
/-- places_of -/
def d_places_of (F_places_of : Fn) : Fn := mDef 1 5 fun b =>
  (mSeq (mNew 1 (mLst (mA1 (mTup mA0) mA0)))
  (mSeq (mFor (mEnum (mA1 (mSlT (mVar 0) (mO1 (mC (.int 1))) mO0) mA0)) (mgT 2 (mg1 (mgN 2) (mg1 (mgN 3) mg0))) (mDrop (mExtN 1 (mLc (mQE (mEN (mCallN 1 F_places_of (mAV 3 mA0)))) (mgN 4) mYes (mOp fAdd (mTup (mA1 (mVar 2) mA0)) (mVar 4)) [4]))))
  (mRetV b 1)))
/-- part_at -/
def d_part_at : Fn := mDef 2 3 fun b =>
  (mSeq (mFor (mQE (mVar 1)) (mgN 2) (mSeq (mIfS (mTB (mOp fGe (mOp fAdd (mVar 2) (mC (.int 1))) (mLen (mQVar 0)))) (mRet (mC .none)) mNext)
  (mAsg (mIxV 0 (mOp fAdd (mVar 2) (mC (.int 1)))) (mgN 0))))
  (mRet (mVar 0)))
/-- is_arities -/
def d_is_arities (F_is_tuple F_are_integers : Fn) : Fn := mDef 1 1 fun b =>
  (mRet (mAndV (mCall 3 F_is_tuple (mAV 0 (mA1 (mC (.int 1)) (mA1 (mC (.int 4)) mA0)))) (mCall 3 F_are_integers (mAV 0 (mA1 (mC (.int 0)) (mA1 (mC (.int 2)) mA0))))))
/-- is_tree -/
def d_is_tree (F__is_node : Fn) : Fn := mDef 2 5 fun b =>
  (mSeq (mNew 2 (mLst (mA1 (mVar 1) mA0)))
  (mSeq (mAsg (mC (.int 0)) (mgN 3))
  (mSeq (whRun (mTruQ (mQVar 2)) (mSeq (mAsg (mPop 2) (mgN 4))
  (mSeq (mAug 3 (fI0 fun i j => .int (i + j)) (mC (.int 1)))
  (mSeq (mIfS (mOr (mTB (mOp fGt (mVar 3) (mC (.int 15)))) (mNot (mTru (mCall 2 F__is_node (mAV 0 (mAV 4 mA0)))))) (mRet (mC (.bool false))) mNext)
  (mDrop (mExtT 2 (mSlT (mVar 4) (mO1 (mC (.int 1))) mO0)))))) 60)
  (mRet (mC (.bool true))))))
/-- _is_node -/
def d__is_node (F_is_tuple F_is_integer : Fn) : Fn := mDef 2 2 fun b =>
  (mSeq (mIfS (mOr (mNot (mTru (mCall 3 F_is_tuple (mAV 1 (mA1 (mC (.int 1)) (mA1 (mOp fAdd (mC (.int 2)) (mC (.int 1))) mA0)))))) (mNot (mTru (mCall 3 F_is_integer (mA1 (mIxV 1 (mC (.int 0))) (mA1 (mC (.int 0)) (mA1 (mOp fSub (mLen (mQVar 0)) (mC (.int 1))) mA0))))))) (mRet (mC (.bool false))) mNext)
  (mRet (mOp fEq (mLen (mQVar 1)) (mOp fAdd (mC (.int 1)) (mIxV 0 (mIxV 1 (mC (.int 0))))))))
/-- is_place -/
def d_is_place (F_is_tuple F_are_integers : Fn) : Fn := mDef 1 1 fun b =>
  (mRet (mAndV (mCall 3 F_is_tuple (mAV 0 (mA1 (mC (.int 0)) (mA1 (mC (.int 14)) mA0)))) (mCall 3 F_are_integers (mAV 0 (mA1 (mC (.int 0)) (mA1 (mOp fSub (mC (.int 2)) (mC (.int 1))) mA0))))))
/-- is_automaton -/
def d_is_automaton (F_is_tuple F_is_arities F__is_entry : Fn) : Fn := mDef 1 7 fun b =>
  (mSeq (mIfS (mOr (mNot (mTru (mCall 3 F_is_tuple (mAV 0 (mA1 (mC (.int 3)) (mA1 (mC (.int 3)) mA0)))))) (mNot (mTru (mCall 1 F_is_arities (mA1 (mIxV 0 (mC (.int 0))) mA0))))) (mRet (mC (.bool false))) mNext)
  (mSeq (mAsg (mVar 0) (mgT 3 (mg1 (mgN 1) (mg1 (mgN 2) (mg1 (mgN 3) mg0)))))
  (mSeq (mIfS (mOr (mNot (mTru (mCall 3 F_is_tuple (mAV 2 (mA1 (mC (.int 1)) (mA1 (mC (.int 4)) mA0)))))) (mNot (mTru (mAll (mLc (mQE (mVar 2)) (mgN 4) mYes (mIsi "bool" (mVar 4)) [4]))))) (mRet (mC (.bool false))) mNext)
  (mSeq (mIfS (mNot (mTru (mCall 3 F_is_tuple (mAV 3 (mA1 (mLen (mQVar 1)) (mA1 (mLen (mQVar 1)) mA0)))))) (mRet (mC (.bool false))) mNext)
  (mRet (mAll (mLc (mZip (mA1 (mVar 3) (mA1 (mVar 1) mA0))) (mgT 2 (mg1 (mgN 5) (mg1 (mgN 6) mg0))) mYes (mCall 3 F__is_entry (mAV 5 (mAV 6 (mA1 (mLen (mQVar 2)) mA0)))) [5, 6])))))))
/-- _is_entry -/
def d__is_entry (F_is_integer F_is_tuple F__is_entry : Fn) : Fn := mDef 3 4 fun b =>
  (mSeq (mIfS (mTB (mOp fEq (mVar 1) (mC (.int 0)))) (mRet (mCall 3 F_is_integer (mAV 0 (mA1 (mC (.int 0)) (mA1 (mOp fSub (mVar 2) (mC (.int 1))) mA0))))) mNext)
  (mRet (mAndV (mCall 3 F_is_tuple (mAV 0 (mAV 2 (mAV 2 mA0)))) (mAll (mLc (mQE (mVar 0)) (mgN 3) mYes (mCall 3 F__is_entry (mAV 3 (mA1 (mOp fSub (mVar 1) (mC (.int 1))) (mAV 2 mA0)))) [3])))))
/-- require_automaton_and_tree -/
def d_require_automaton_and_tree (F_require F_is_automaton F_is_tree : Fn) : Fn := mDef 2 2 fun b =>
  (mSeq (mDrop (mCall 2 F_require (mA1 (mCall 1 F_is_automaton (mAV 0 mA0)) (mA1 (mC (.str "automaton")) mA0))))
  (mDrop (mCall 2 F_require (mA1 (mCall 2 F_is_tree (mA1 (mIxV 0 (mC (.int 0))) (mAV 1 mA0))) (mA1 (mC (.str "tree")) mA0)))))
/-- run -/
def d_run (F_require_automaton_and_tree F_places_of F_state_of F_part_at : Fn) : Fn := mDef 2 3 fun b =>
  (mSeq (mDrop (mCall 2 F_require_automaton_and_tree (mAV 0 (mAV 1 mA0))))
  (mRet (mTuple (mLc (mQE (mEN (mCallN 1 F_places_of (mAV 1 mA0)))) (mgN 2) mYes (mTup (mA1 (mVar 2) (mA1 (mCall 2 F_state_of (mAV 0 (mA1 (mCall 2 F_part_at (mAV 1 (mAV 2 mA0))) mA0))) mA0))) [2]))))
/-- accepts_run -/
def d_accepts_run (F_run F_is_tuple F__is_placed_state : Fn) : Fn := mDef 3 5 fun b =>
  (mSeq (mAsg (mCall 2 F_run (mAV 0 (mAV 1 mA0))) (mgN 3))
  (mSeq (mIfS (mNot (mTru (mCall 3 F_is_tuple (mAV 2 (mA1 (mLen (mQVar 3)) (mA1 (mLen (mQVar 3)) mA0)))))) (mRet (mC (.bool false))) mNext)
  (mRet (mAndV (mAll (mLc (mQE (mVar 2)) (mgN 4) mYes (mCall 1 F__is_placed_state (mAV 4 mA0)) [4])) (mOp fEq (mVar 2) (mVar 3))))))
/-- _is_placed_state -/
def d__is_placed_state (F_is_tuple F_is_place F_is_integer : Fn) : Fn := mDef 1 1 fun b =>
  (mRet (mAndV (mCall 3 F_is_tuple (mAV 0 (mA1 (mC (.int 2)) (mA1 (mC (.int 2)) mA0)))) (mAndV (mCall 1 F_is_place (mA1 (mIxV 0 (mC (.int 0))) mA0)) (mCall 3 F_is_integer (mA1 (mIxV 0 (mC (.int 1))) (mA1 (mC (.int 0)) (mA1 (mOp fSub (mC (.int 4)) (mC (.int 1))) mA0)))))))
/-- _law_stream -/
def d__law_stream : Fn := mDef 1 1 fun b =>
  (mRetL (mLst (mA1 (mEN (mList (mQVar 0))) (mA1 (mC (.int 0)) (mA1 (mC (.int 0)) mA0)))))
/-- _law_next -/
def d__law_next : Fn := mDef 2 5 fun b =>
  (mSeq (mIfS (mTB (mOp fEq (mIxV 0 (mC (.int 1))) (mC (.int 0)))) (mSeq (mAsg (mIxV 0 (mC (.int 2))) (mgN 2))
  (mSeq (mAsg (mOp fAdd (mC (.int 7)) (mVar 2)) (mgN 3))
  (mSeq (mIfS (mTB (mOp fLt (mVar 2) (mLen (mQE (mIxV 0 (mC (.int 0))))))) (mAsg (mB fAbs (mA1 (mOp fIx (mIxV 0 (mC (.int 0))) (mVar 2)) mA0)) (mgN 3)) mNext)
  (mSeq (mIfS (mTB (mOp fLt (mVar 3) (mOp fPow (mC (.int 10)) (mC (.int 18))))) (mSeq (mAsg (mOp fMod (mB fInt (mA1 (mOp fAdd (mOp fAdd (mOp fMulX (mVar 3) (mC (.int 48271))) (mOp fMulX (mVar 2) (mC (.int 69621)))) (mC (.int 11))) mA0)) (mC (.int 2147483647))) (mgN 3))
  (mAsg (mOp fAdd (mOp fMulX (mOp fMod (mB fInt (mA1 (mOp fAdd (mOp fMulX (mVar 3) (mC (.int 16807))) (mC (.int 13))) mA0)) (mC (.int 2147483647))) (mC (.int 65537))) (mVar 3)) (mgN 3))) mNext)
  (mSeq (mSub 0 (mC (.int 1)) (mVar 3))
  (mSub 0 (mC (.int 2)) (mOp fAdd (mVar 2) (mC (.int 1))))))))) mNext)
  (mSeq (mAsg (mOp fMod (mB fInt (mA1 (mIxV 0 (mC (.int 1))) mA0)) (mVar 1)) (mgN 4))
  (mSeq (mSub 0 (mC (.int 1)) (mOp fDiv (mIxV 0 (mC (.int 1))) (mVar 1)))
  (mRet (mVar 4)))))
/-- _law_is_integer -/
def d__law_is_integer : Fn := mDef 1 1 fun b =>
  (mRet (mAndV (mIsi "int" (mVar 0)) (mNotV (mIsi "bool" (mVar 0)))))
/-- _law_step -/
def d__law_step (F__law_next F__law_step : Fn) : Fn := mDef 3 4 fun b =>
  (mSeq (mIfS (mTB (mOp fEq (mVar 1) (mC (.int 0)))) (mRet (mCall 2 F__law_next (mAV 0 (mAV 2 mA0)))) mNext)
  (mRet (mTuple (mLc (mR1 (mVar 2)) (mgN 3) mYes (mCall 3 F__law_step (mAV 0 (mA1 (mOp fSub (mVar 1) (mC (.int 1))) (mAV 2 mA0)))) [3]))))
/-- _law_automaton -/
def d__law_automaton (F__law_next F__law_step : Fn) : Fn := mDef 2 7 fun b =>
  (mSeq (mAsg (mOp fIx (mEN (mLst (mA1 (mTup (mA1 (mC (.int 0)) (mA1 (mC (.int 0)) (mA1 (mC (.int 2)) mA0)))) (mA1 (mTup (mA1 (mC (.int 0)) (mA1 (mC (.int 1)) mA0))) (mA1 (mTup (mA1 (mC (.int 0)) (mA1 (mC (.int 2)) mA0))) (mA1 (mTup (mA1 (mC (.int 0)) (mA1 (mC (.int 1)) (mA1 (mC (.int 2)) mA0)))) (mA1 (mTup (mA1 (mC (.int 2)) (mA1 (mC (.int 0)) (mA1 (mC (.int 1)) mA0)))) (mA1 (mTup (mA1 (mC (.int 0)) (mA1 (mC (.int 0)) (mA1 (mC (.int 1)) mA0)))) mA0)))))))) (mCall 2 F__law_next (mAV 0 (mA1 (mC (.int 6)) mA0)))) (mgN 2))
  (mSeq (mAsg (mOp fAdd (mC (.int 1)) (mCall 2 F__law_next (mAV 0 (mAV 1 mA0)))) (mgN 3))
  (mSeq (mIfS (mTB (mOp fGt (mCall 2 F__law_next (mAV 0 (mA1 (mC (.int 3)) mA0))) (mC (.int 0)))) (mAsg (mB fMax2 (mA1 (mC (.int 2)) (mA1 (mVar 3) mA0))) (mgN 3)) mNext)
  (mSeq (mAsg (mTuple (mLc (mQE (mVar 2)) (mgN 5) mYes (mCall 3 F__law_step (mAV 0 (mAV 5 (mAV 3 mA0)))) [5])) (mgN 4))
  (mRet (mTup (mA1 (mVar 2) (mA1 (mTuple (mLc (mR1 (mVar 3)) (mgN 6) mYes (mOp fEq (mCall 2 F__law_next (mAV 0 (mA1 (mC (.int 2)) mA0))) (mC (.int 1))) [6])) (mA1 (mVar 4) mA0)))))))))
/-- _law_entry -/
def d__law_entry : Fn := mDef 3 5 fun b =>
  (mSeq (mAsg (mOp fIx (mIxV 0 (mC (.int 2))) (mVar 1)) (mgN 3))
  (mSeq (mFor (mQE (mVar 2)) (mgN 4) (mAsg (mIxV 3 (mVar 4)) (mgN 3)))
  (mRet (mVar 3))))
/-- _law_state -/
def d__law_state (F__law_entry F__law_state : Fn) : Fn := mDef 2 3 fun b =>
  (mRet (mCall 3 F__law_entry (mAV 0 (mA1 (mIxV 1 (mC (.int 0))) (mA1 (mEN (mLc (mQE (mSlT (mVar 1) (mO1 (mC (.int 1))) mO0)) (mgN 2) mYes (mCall 2 F__law_state (mAV 0 (mAV 2 mA0))) [2])) mA0)))))
/-- _law_tree -/
def d__law_tree (F__law_next F__law_tree : Fn) : Fn := mDef 3 6 fun b =>
  (mSeq (mAsg (mEN (mLc (mR1 (mLen (mQVar 1))) (mgN 4) (mTB (mOp fLt (mIxV 1 (mVar 4)) (mVar 2))) (mVar 4) [4])) (mgN 3))
  (mSeq (mAsg (mIxV 3 (mCall 2 F__law_next (mAV 0 (mA1 (mLen (mQVar 3)) mA0)))) (mgN 4))
  (mSeq (mIfS (mAnd (mTB (mOp fGt (mVar 2) (mC (.int 3)))) (mAnd (mTB (mOp fEq (mIxV 1 (mVar 4)) (mC (.int 0)))) (mTB (mOp fGt (mCall 2 F__law_next (mAV 0 (mA1 (mC (.int 3)) mA0))) (mC (.int 0)))))) (mAsg (mIxV 3 (mCall 2 F__law_next (mAV 0 (mA1 (mLen (mQVar 3)) mA0)))) (mgN 4)) mNext)
  (mSeq (mIfS (mTB (mOp fEq (mIxV 1 (mVar 4)) (mC (.int 0)))) (mRet (mTup (mA1 (mVar 4) mA0))) mNext)
  (mSeq (mIfS (mTB (mOp fEq (mIxV 1 (mVar 4)) (mC (.int 1)))) (mRet (mTup (mA1 (mVar 4) (mA1 (mCall 3 F__law_tree (mAV 0 (mAV 1 (mA1 (mOp fSub (mVar 2) (mC (.int 1))) mA0)))) mA0)))) mNext)
  (mSeq (mAsg (mOp fAdd (mC (.int 1)) (mCall 2 F__law_next (mAV 0 (mA1 (mOp fSub (mVar 2) (mC (.int 2))) mA0)))) (mgN 5))
  (mRet (mTup (mA1 (mVar 4) (mA1 (mCall 3 F__law_tree (mAV 0 (mAV 1 (mAV 5 mA0)))) (mA1 (mCall 3 F__law_tree (mAV 0 (mAV 1 (mA1 (mOp fSub (mOp fSub (mVar 2) (mC (.int 1))) (mVar 5)) mA0)))) mA0)))))))))))
/-- _law_places -/
def d__law_places (F__law_places : Fn) : Fn := mDef 1 4 fun b =>
  (mSeq (mAsg (mEN (mLst (mA1 (mTup mA0) mA0))) (mgN 1))
  (mSeq (mFor (mR1 (mOp fSub (mLen (mQVar 0)) (mC (.int 1)))) (mgN 2) (mAsg (mEN (mCatV 1 (mLc (mQE (mCall 1 F__law_places (mA1 (mIxV 0 (mOp fAdd (mVar 2) (mC (.int 1)))) mA0))) (mgN 3) mYes (mOp fAdd (mTup (mA1 (mVar 2) mA0)) (mVar 3)) [3]))) (mgN 1)))
  (mRet (mVar 1))))
/-- _law_part -/
def d__law_part : Fn := mDef 2 3 fun b =>
  (mSeq (mFor (mQE (mVar 1)) (mgN 2) (mAsg (mIxV 0 (mOp fAdd (mVar 2) (mC (.int 1)))) (mgN 0)))
  (mRet (mVar 0)))
/-- _law_bent -/
def d__law_bent (F__law_next : Fn) : Fn := mDef 3 8 fun b =>
  (mSeq (mAsg (mCall 2 F__law_next (mAV 0 (mA1 (mLen (mQVar 1)) mA0))) (mgN 3))
  (mSeq (mAsg (mIxV 1 (mVar 3)) (mgT 2 (mg1 (mgN 4) (mg1 (mgN 5) mg0))))
  (mSeq (mAsg (mCall 2 F__law_next (mAV 0 (mA1 (mC (.int 7)) mA0))) (mgN 6))
  (mSeq (mIfS (mTB (mOp fEq (mVar 6) (mC (.int 0)))) (mRet (mOp fAdd (mOp fAdd (mSlT (mVar 1) mO0 (mO1 (mVar 3))) (mTup (mA1 (mTup (mA1 (mVar 4) (mA1 (mOp fIx (mEN (mLst (mA1 (mCall 2 F__law_next (mAV 0 (mAV 2 mA0))) (mA1 (mOp fAdd (mVar 5) (mC (.int 1))) (mA1 (mUn fNeg (mC (.int 1))) (mA1 (mC (.bool true)) (mA1 (mC (.bool false)) (mA1 (mC .none) (mA1 (mC (.str "0")) mA0))))))))) (mCall 2 F__law_next (mAV 0 (mA1 (mC (.int 7)) mA0)))) mA0))) mA0))) (mSlT (mVar 1) (mO1 (mOp fAdd (mVar 3) (mC (.int 1)))) mO0))) mNext)
  (mSeq (mIfS (mTB (mOp fEq (mVar 6) (mC (.int 1)))) (mRet (mOp fAdd (mSlT (mVar 1) mO0 (mO1 (mVar 3))) (mSlT (mVar 1) (mO1 (mOp fAdd (mVar 3) (mC (.int 1)))) mO0))) mNext)
  (mSeq (mIfS (mTB (mOp fEq (mVar 6) (mC (.int 2)))) (mSeq (mAsg (mEN (mLst (mA1 (mC .none) (mA1 (mTup (mA1 (mVar 4) mA0)) (mA1 (mEN (mLst (mA1 (mVar 4) (mA1 (mVar 5) mA0)))) (mA1 (mTup (mA1 (mVar 4) (mA1 (mVar 5) (mA1 (mC (.int 0)) mA0)))) (mA1 (mTup (mA1 (mVar 5) (mA1 (mVar 4) mA0))) (mA1 (mTup (mA1 (mEN (mList (mQVar 4))) (mA1 (mVar 5) mA0))) (mA1 (mTup (mA1 (mOp fAdd (mVar 4) (mTup (mA1 (mC (.int 0)) mA0))) (mA1 (mVar 5) mA0))) (mA1 (mTup (mA1 (mOp fAdd (mTup (mA1 (mC (.bool true)) mA0)) (mVar 4)) (mA1 (mVar 5) mA0))) mA0)))))))))) (mgN 7))
  (mRet (mOp fAdd (mOp fAdd (mSlT (mVar 1) mO0 (mO1 (mVar 3))) (mTup (mA1 (mIxV 7 (mCall 2 F__law_next (mAV 0 (mA1 (mC (.int 8)) mA0)))) mA0))) (mSlT (mVar 1) (mO1 (mOp fAdd (mVar 3) (mC (.int 1)))) mO0)))) mNext)
  (mSeq (mIfS (mTB (mOp fEq (mVar 6) (mC (.int 3)))) (mRet (mOp fIx (mEN (mLst (mA1 (mC .none) (mA1 (mEN (mList (mQVar 1))) (mA1 (mRevT (mVar 1)) (mA1 (mOp fAdd (mVar 1) (mSlT (mVar 1) (mO1 (mUn fNeg (mC (.int 1)))) mO0)) (mA1 (mTup mA0) (mA1 (mOp fAdd (mVar 1) (mTup (mA1 (mC .none) mA0))) (mA1 (mC (.int 0)) mA0))))))))) (mCall 2 F__law_next (mAV 0 (mA1 (mC (.int 7)) mA0))))) mNext)
  (mSeq (mIfS (mAnd (mTB (mOp fEq (mVar 6) (mC (.int 4)))) (mTB (mOp fGt (mLen (mQVar 4)) (mC (.int 0))))) (mRet (mOp fAdd (mOp fAdd (mSlT (mVar 1) mO0 (mO1 (mVar 3))) (mTup (mA1 (mTup (mA1 (mOp fAdd (mSlT (mVar 4) mO0 (mO1 (mUn fNeg (mC (.int 1))))) (mTup (mA1 (mB fBool (mA1 (mIxV 4 (mUn fNeg (mC (.int 1)))) mA0)) mA0))) (mA1 (mVar 5) mA0))) mA0))) (mSlT (mVar 1) (mO1 (mOp fAdd (mVar 3) (mC (.int 1)))) mO0))) mNext)
  (mRet (mVar 1))))))))))
/-- _law_is_run -/
def d__law_is_run (F__law_places F__law_is_integer F__law_state F__law_part : Fn) : Fn := mDef 3 7 fun b =>
  (mSeq (mAsg (mCall 1 F__law_places (mAV 1 mA0)) (mgN 3))
  (mSeq (mIfS (mOr (mNot (mTru (mIsi "tuple" (mVar 2)))) (mTB (mOp fNe (mLen (mQVar 2)) (mLen (mQVar 3))))) (mRet (mC (.bool false))) mNext)
  (mSeq (mFor (mR1 (mLen (mQVar 3))) (mgN 4) (mSeq (mAsg (mIxV 2 (mVar 4)) (mgN 5))
  (mSeq (mIfS (mOr (mNot (mTru (mIsi "tuple" (mVar 5)))) (mOr (mTB (mOp fNe (mLen (mQVar 5)) (mC (.int 2)))) (mNot (mTru (mIsi "tuple" (mIxV 5 (mC (.int 0)))))))) (mRet (mC (.bool false))) mNext)
  (mSeq (mIfS (mOr (mNot (mTru (mAll (mLc (mQE (mIxV 5 (mC (.int 0)))) (mgN 6) mYes (mCall 1 F__law_is_integer (mAV 6 mA0)) [6])))) (mTB (mOp fNe (mIxV 5 (mC (.int 0))) (mIxV 3 (mVar 4))))) (mRet (mC (.bool false))) mNext)
  (mIfS (mOr (mNot (mTru (mCall 1 F__law_is_integer (mA1 (mIxV 5 (mC (.int 1))) mA0)))) (mTB (mOp fNe (mIxV 5 (mC (.int 1))) (mCall 2 F__law_state (mAV 0 (mA1 (mCall 2 F__law_part (mAV 1 (mA1 (mIxV 3 (mVar 4)) mA0))) mA0)))))) (mRet (mC (.bool false))) mNext)))))
  (mRet (mC (.bool true))))))
/-- law -/
def d_law (F__law_stream F__law_automaton F__law_tree F__law_next F__law_places F__law_state F__law_part F__law_bent F_accepts_run F__law_is_run : Fn) : Fn := mDef 1 9 fun b =>
  (mSeq (mNew 1 (mCallN 1 F__law_stream (mAV 0 mA0)))
  (mSeq (mAsg (mCall 2 F__law_automaton (mAV 1 (mA1 (mC (.int 3)) mA0))) (mgN 2))
  (mSeq (mAsg (mCall 3 F__law_tree (mAV 1 (mA1 (mIxV 2 (mC (.int 0))) (mA1 (mOp fAdd (mC (.int 1)) (mCall 2 F__law_next (mAV 1 (mA1 (mC (.int 9)) mA0)))) mA0)))) (mgN 3))
  (mSeq (mAsg (mTuple (mLc (mQE (mCall 1 F__law_places (mAV 3 mA0))) (mgN 5) mYes (mTup (mA1 (mVar 5) (mA1 (mCall 2 F__law_state (mAV 2 (mA1 (mCall 2 F__law_part (mAV 3 (mAV 5 mA0))) mA0))) mA0))) [5])) (mgN 4))
  (mSeq (mFor (mR1 (mC (.int 6))) (mgN 6) (mSeq (mAsg (mCall 3 F__law_bent (mAV 1 (mAV 4 (mA1 (mLen (mQE (mIxV 2 (mC (.int 1))))) mA0)))) (mgN 7))
  (mSeq (mAsg (mCall 3 F_accepts_run (mAV 2 (mAV 3 (mAV 7 mA0)))) (mgN 8))
  (mIfS (mOr (mNot (mTru (mIsi "bool" (mVar 8)))) (mTB (mOp fNe (mVar 8) (mCall 3 F__law_is_run (mAV 2 (mAV 3 (mAV 7 mA0))))))) (mRet (mC (.bool false))) mNext))))
  (mRet (mOp fIs (mCall 3 F_accepts_run (mAV 2 (mAV 3 (mAV 4 mA0)))) (mC (.bool true)))))))))
structure Fs where
  require : Fn
  is_integer : Fn
  is_tuple : Fn
  are_integers : Fn
  lead : Fn
  state_of : Fn
  places_of : Fn
  part_at : Fn
  is_arities : Fn
  is_tree : Fn
  _is_node : Fn
  is_place : Fn
  is_automaton : Fn
  _is_entry : Fn
  require_automaton_and_tree : Fn
  run : Fn
  accepts_run : Fn
  _is_placed_state : Fn
  _law_stream : Fn
  _law_next : Fn
  _law_is_integer : Fn
  _law_step : Fn
  _law_automaton : Fn
  _law_entry : Fn
  _law_state : Fn
  _law_tree : Fn
  _law_places : Fn
  _law_part : Fn
  _law_bent : Fn
  _law_is_run : Fn
  law : Fn
def Fs.bot : Fs where
  require := fun _ _ => none
  is_integer := fun _ _ => none
  is_tuple := fun _ _ => none
  are_integers := fun _ _ => none
  lead := fun _ _ => none
  state_of := fun _ _ => none
  places_of := fun _ _ => none
  part_at := fun _ _ => none
  is_arities := fun _ _ => none
  is_tree := fun _ _ => none
  _is_node := fun _ _ => none
  is_place := fun _ _ => none
  is_automaton := fun _ _ => none
  _is_entry := fun _ _ => none
  require_automaton_and_tree := fun _ _ => none
  run := fun _ _ => none
  accepts_run := fun _ _ => none
  _is_placed_state := fun _ _ => none
  _law_stream := fun _ _ => none
  _law_next := fun _ _ => none
  _law_is_integer := fun _ _ => none
  _law_step := fun _ _ => none
  _law_automaton := fun _ _ => none
  _law_entry := fun _ _ => none
  _law_state := fun _ _ => none
  _law_tree := fun _ _ => none
  _law_places := fun _ _ => none
  _law_part := fun _ _ => none
  _law_bent := fun _ _ => none
  _law_is_run := fun _ _ => none
  law := fun _ _ => none
def Fs.step (F : Fs) : Fs where
  require := d_require
  is_integer := d_is_integer
  is_tuple := d_is_tuple
  are_integers := d_are_integers F.is_integer
  lead := d_lead
  state_of := d_state_of F.state_of F.lead
  places_of := d_places_of F.places_of
  part_at := d_part_at
  is_arities := d_is_arities F.is_tuple F.are_integers
  is_tree := d_is_tree F._is_node
  _is_node := d__is_node F.is_tuple F.is_integer
  is_place := d_is_place F.is_tuple F.are_integers
  is_automaton := d_is_automaton F.is_tuple F.is_arities F._is_entry
  _is_entry := d__is_entry F.is_integer F.is_tuple F._is_entry
  require_automaton_and_tree := d_require_automaton_and_tree F.require F.is_automaton F.is_tree
  run := d_run F.require_automaton_and_tree F.places_of F.state_of F.part_at
  accepts_run := d_accepts_run F.run F.is_tuple F._is_placed_state
  _is_placed_state := d__is_placed_state F.is_tuple F.is_place F.is_integer
  _law_stream := d__law_stream
  _law_next := d__law_next
  _law_is_integer := d__law_is_integer
  _law_step := d__law_step F._law_next F._law_step
  _law_automaton := d__law_automaton F._law_next F._law_step
  _law_entry := d__law_entry
  _law_state := d__law_state F._law_entry F._law_state
  _law_tree := d__law_tree F._law_next F._law_tree
  _law_places := d__law_places F._law_places
  _law_part := d__law_part
  _law_bent := d__law_bent F._law_next
  _law_is_run := d__law_is_run F._law_places F._law_is_integer F._law_state F._law_part
  law := d_law F._law_stream F._law_automaton F._law_tree F._law_next F._law_places F._law_state F._law_part F._law_bent F.accepts_run F._law_is_run
def lev : Nat → Fs
  | 0 => Fs.bot
  | n + 1 => (lev n).step
end G
set_option Elab.async false
set_option linter.all false
set_option autoImplicit false
set_option maxRecDepth 100000
set_option maxHeartbeats 4000000
namespace G
open PySem L2
def topS (i : Nat) : Stmt := PySem.Challenge.pw_rootfirst_k09_whole_runs_by_whomever.main.body.getD i (.Pass ⟨0, 0, 0, 0⟩)
abbrev s_require : Stmt := topS 8
abbrev N_require : List Str := ["holds", "name"]
theorem sc_require : FnScope N_require ["holds", "name"] (defScope s_require) := ⟨rfl, rfl, rfl, by decide +kernel, rfl, by decide +kernel, by decide +kernel⟩
abbrev s_is_integer : Stmt := topS 9
abbrev N_is_integer : List Str := ["value", "least", "most"]
theorem sc_is_integer : FnScope N_is_integer ["value", "least", "most"] (defScope s_is_integer) := ⟨rfl, rfl, rfl, by decide +kernel, rfl, by decide +kernel, by decide +kernel⟩
abbrev s_is_tuple : Stmt := topS 10
abbrev N_is_tuple : List Str := ["value", "least", "most"]
theorem sc_is_tuple : FnScope N_is_tuple ["value", "least", "most"] (defScope s_is_tuple) := ⟨rfl, rfl, rfl, by decide +kernel, rfl, by decide +kernel, by decide +kernel⟩
abbrev s_are_integers : Stmt := topS 11
abbrev N_are_integers : List Str := ["values", "least", "most", "value"]
theorem sc_are_integers : FnScope N_are_integers ["values", "least", "most"] (defScope s_are_integers) := ⟨rfl, rfl, rfl, by decide +kernel, rfl, by decide +kernel, by decide +kernel⟩
abbrev s_lead : Stmt := topS 13
abbrev N_lead : List Str := ["entry", "states", "state"]
theorem sc_lead : FnScope N_lead ["entry", "states"] (defScope s_lead) := ⟨rfl, rfl, rfl, by decide +kernel, rfl, by decide +kernel, by decide +kernel⟩
abbrev s_state_of : Stmt := topS 14
abbrev N_state_of : List Str := ["automaton", "tree", "states", "child"]
theorem sc_state_of : FnScope N_state_of ["automaton", "tree"] (defScope s_state_of) := ⟨rfl, rfl, rfl, by decide +kernel, rfl, by decide +kernel, by decide +kernel⟩
abbrev s_places_of : Stmt := topS 16
abbrev N_places_of : List Str := ["tree", "found", "number", "child", "place"]
theorem sc_places_of : FnScope N_places_of ["tree"] (defScope s_places_of) := ⟨rfl, rfl, rfl, by decide +kernel, rfl, by decide +kernel, by decide +kernel⟩
abbrev s_part_at : Stmt := topS 17
abbrev N_part_at : List Str := ["tree", "place", "number"]
theorem sc_part_at : FnScope N_part_at ["tree", "place"] (defScope s_part_at) := ⟨rfl, rfl, rfl, by decide +kernel, rfl, by decide +kernel, by decide +kernel⟩
abbrev s_is_arities : Stmt := topS 20
abbrev N_is_arities : List Str := ["value"]
theorem sc_is_arities : FnScope N_is_arities ["value"] (defScope s_is_arities) := ⟨rfl, rfl, rfl, by decide +kernel, rfl, by decide +kernel, by decide +kernel⟩
abbrev s_is_tree : Stmt := topS 21
abbrev N_is_tree : List Str := ["arities", "value", "waiting", "nodes", "node"]
theorem sc_is_tree : FnScope N_is_tree ["arities", "value"] (defScope s_is_tree) := ⟨rfl, rfl, rfl, by decide +kernel, rfl, by decide +kernel, by decide +kernel⟩
abbrev s__is_node : Stmt := topS 22
abbrev N__is_node : List Str := ["arities", "value"]
theorem sc__is_node : FnScope N__is_node ["arities", "value"] (defScope s__is_node) := ⟨rfl, rfl, rfl, by decide +kernel, rfl, by decide +kernel, by decide +kernel⟩
abbrev s_is_place : Stmt := topS 23
abbrev N_is_place : List Str := ["value"]
theorem sc_is_place : FnScope N_is_place ["value"] (defScope s_is_place) := ⟨rfl, rfl, rfl, by decide +kernel, rfl, by decide +kernel, by decide +kernel⟩
abbrev s_is_automaton : Stmt := topS 25
abbrev N_is_automaton : List Str := ["value", "arities", "good", "steps", "flag", "entry", "arity"]
theorem sc_is_automaton : FnScope N_is_automaton ["value"] (defScope s_is_automaton) := ⟨rfl, rfl, rfl, by decide +kernel, rfl, by decide +kernel, by decide +kernel⟩
abbrev s__is_entry : Stmt := topS 26
abbrev N__is_entry : List Str := ["value", "arity", "many", "entry"]
theorem sc__is_entry : FnScope N__is_entry ["value", "arity", "many"] (defScope s__is_entry) := ⟨rfl, rfl, rfl, by decide +kernel, rfl, by decide +kernel, by decide +kernel⟩
abbrev s_require_automaton_and_tree : Stmt := topS 27
abbrev N_require_automaton_and_tree : List Str := ["automaton", "tree"]
theorem sc_require_automaton_and_tree : FnScope N_require_automaton_and_tree ["automaton", "tree"] (defScope s_require_automaton_and_tree) := ⟨rfl, rfl, rfl, by decide +kernel, rfl, by decide +kernel, by decide +kernel⟩
abbrev s_run : Stmt := topS 28
abbrev N_run : List Str := ["automaton", "tree", "place"]
theorem sc_run : FnScope N_run ["automaton", "tree"] (defScope s_run) := ⟨rfl, rfl, rfl, by decide +kernel, rfl, by decide +kernel, by decide +kernel⟩
abbrev s_accepts_run : Stmt := topS 29
abbrev N_accepts_run : List Str := ["automaton", "tree", "value", "told", "pair"]
theorem sc_accepts_run : FnScope N_accepts_run ["automaton", "tree", "value"] (defScope s_accepts_run) := ⟨rfl, rfl, rfl, by decide +kernel, rfl, by decide +kernel, by decide +kernel⟩
abbrev s__is_placed_state : Stmt := topS 30
abbrev N__is_placed_state : List Str := ["value"]
theorem sc__is_placed_state : FnScope N__is_placed_state ["value"] (defScope s__is_placed_state) := ⟨rfl, rfl, rfl, by decide +kernel, rfl, by decide +kernel, by decide +kernel⟩
abbrev s__law_stream : Stmt := topS 32
abbrev N__law_stream : List Str := ["script"]
theorem sc__law_stream : FnScope N__law_stream ["script"] (defScope s__law_stream) := ⟨rfl, rfl, rfl, by decide +kernel, rfl, by decide +kernel, by decide +kernel⟩
abbrev s__law_next : Stmt := topS 33
abbrev N__law_next : List Str := ["stream", "many", "k", "cell", "digit"]
theorem sc__law_next : FnScope N__law_next ["stream", "many"] (defScope s__law_next) := ⟨rfl, rfl, rfl, by decide +kernel, rfl, by decide +kernel, by decide +kernel⟩
abbrev s__law_is_integer : Stmt := topS 34
abbrev N__law_is_integer : List Str := ["actual"]
theorem sc__law_is_integer : FnScope N__law_is_integer ["actual"] (defScope s__law_is_integer) := ⟨rfl, rfl, rfl, by decide +kernel, rfl, by decide +kernel, by decide +kernel⟩
abbrev s__law_step : Stmt := topS 35
abbrev N__law_step : List Str := ["stream", "arity", "states", "k"]
theorem sc__law_step : FnScope N__law_step ["stream", "arity", "states"] (defScope s__law_step) := ⟨rfl, rfl, rfl, by decide +kernel, rfl, by decide +kernel, by decide +kernel⟩
abbrev s__law_automaton : Stmt := topS 36
abbrev N__law_automaton : List Str := ["stream", "most", "arities", "states", "steps", "arity", "k"]
theorem sc__law_automaton : FnScope N__law_automaton ["stream", "most"] (defScope s__law_automaton) := ⟨rfl, rfl, rfl, by decide +kernel, rfl, by decide +kernel, by decide +kernel⟩
abbrev s__law_entry : Stmt := topS 37
abbrev N__law_entry : List Str := ["automaton", "symbol", "states", "entry", "own"]
theorem sc__law_entry : FnScope N__law_entry ["automaton", "symbol", "states"] (defScope s__law_entry) := ⟨rfl, rfl, rfl, by decide +kernel, rfl, by decide +kernel, by decide +kernel⟩
abbrev s__law_state : Stmt := topS 38
abbrev N__law_state : List Str := ["automaton", "tree", "child"]
theorem sc__law_state : FnScope N__law_state ["automaton", "tree"] (defScope s__law_state) := ⟨rfl, rfl, rfl, by decide +kernel, rfl, by decide +kernel, by decide +kernel⟩
abbrev s__law_tree : Stmt := topS 40
abbrev N__law_tree : List Str := ["stream", "arities", "most", "usable", "symbol", "left"]
theorem sc__law_tree : FnScope N__law_tree ["stream", "arities", "most"] (defScope s__law_tree) := ⟨rfl, rfl, rfl, by decide +kernel, rfl, by decide +kernel, by decide +kernel⟩
abbrev s__law_places : Stmt := topS 43
abbrev N__law_places : List Str := ["tree", "found", "k", "place"]
theorem sc__law_places : FnScope N__law_places ["tree"] (defScope s__law_places) := ⟨rfl, rfl, rfl, by decide +kernel, rfl, by decide +kernel, by decide +kernel⟩
abbrev s__law_part : Stmt := topS 44
abbrev N__law_part : List Str := ["tree", "place", "child"]
theorem sc__law_part : FnScope N__law_part ["tree", "place"] (defScope s__law_part) := ⟨rfl, rfl, rfl, by decide +kernel, rfl, by decide +kernel, by decide +kernel⟩
abbrev s__law_bent : Stmt := topS 46
abbrev N__law_bent : List Str := ["stream", "row", "states", "at", "place", "own", "pick", "bad"]
theorem sc__law_bent : FnScope N__law_bent ["stream", "row", "states"] (defScope s__law_bent) := ⟨rfl, rfl, rfl, by decide +kernel, rfl, by decide +kernel, by decide +kernel⟩
abbrev s__law_is_run : Stmt := topS 47
abbrev N__law_is_run : List Str := ["automaton", "tree", "value", "places", "k", "pair", "one"]
theorem sc__law_is_run : FnScope N__law_is_run ["automaton", "tree", "value"] (defScope s__law_is_run) := ⟨rfl, rfl, rfl, by decide +kernel, rfl, by decide +kernel, by decide +kernel⟩
abbrev s_law : Stmt := topS 48
abbrev N_law : List Str := ["script", "stream", "automaton", "tree", "row", "place", "turn", "value", "actual"]
theorem sc_law : FnScope N_law ["script"] (defScope s_law) := ⟨rfl, rfl, rfl, by decide +kernel, rfl, by decide +kernel, by decide +kernel⟩
section
variable {P : Program} {w : World} {K : PySem.W.Frag} {mg : Str → Option Value} {base : Heap} {k : Nat}
theorem ok_require {f : Addr} {fd : FuncData} (F : Fun K "require" "require" s_require f fd)
    
    : FnOk P w K mg base CX0 (k + 1) f fd ["holds", "name"] (spD K 2 (d_require)) :=
  def_d F sc_require rfl rfl fun cdv A outer s H E b hr =>
    (d_st (d_if (d_not (d_tv (d_var 0))) (d_st d_raise) d_nil))
theorem ok_is_integer {f : Addr} {fd : FuncData} (F : Fun K "is_integer" "is_integer" s_is_integer f fd)
    (z_isinstance : mg "isinstance" = none)
    (z_int : mg "int" = none)
    (z_bool : mg "bool" = none)
    : FnOk P w K mg base CX0 (k + 1) f fd ["value", "least", "most"] (spD K 3 (d_is_integer)) :=
  def_d F sc_is_integer rfl rfl fun cdv A outer s H E b hr =>
    (d_st (d_ret (d_andV (d_isi (by decide +kernel) (fun _ => z_isinstance) (fun _ => z_int) (d_var 0)) (d_andV (d_notV (d_isi (by decide +kernel) (fun _ => z_isinstance) (fun _ => z_bool) (d_var 0))) (d_one (d_chain k_le k_le (d_var 1) (d_var 0) (d_var 2)))))))
theorem ok_is_tuple {f : Addr} {fd : FuncData} (F : Fun K "is_tuple" "is_tuple" s_is_tuple f fd)
    (z_isinstance : mg "isinstance" = none)
    (z_tuple : mg "tuple" = none)
    (z_len : mg "len" = none)
    : FnOk P w K mg base CX0 (k + 1) f fd ["value", "least", "most"] (spD K 3 (d_is_tuple)) :=
  def_d F sc_is_tuple rfl rfl fun cdv A outer s H E b hr =>
    (d_st (d_ret (d_andV (d_isi (by decide +kernel) (fun _ => z_isinstance) (fun _ => z_tuple) (d_var 0)) (d_one (d_chain k_le k_le (d_var 1) (d_len (fun _ => z_len) (d_qvar 0)) (d_var 2))))))
theorem ok_are_integers {f : Addr} {fd : FuncData} (F : Fun K "are_integers" "are_integers" s_are_integers f fd)
    {a_is_integer : Addr} {fd_is_integer : FuncData} {F_is_integer : Fn} (h_is_integer : FnOk P w K mg base CX0 k a_is_integer fd_is_integer ["value", "least", "most"] (spD K 3 F_is_integer)) (g_is_integer : mg "is_integer" = some (.ref a_is_integer)) (k_is_integer : PySem.W.keepIn K (.ref a_is_integer) = true) (b_is_integer : Binds K fd_is_integer ["value", "least", "most"] [])
    (z_all : mg "all" = none)
    : FnOk P w K mg base CX0 (k + 1) f fd ["values", "least", "most"] (spD K 3 (d_are_integers F_is_integer)) :=
  def_d F sc_are_integers rfl rfl fun cdv A outer s H E b hr =>
    (d_st (d_ret (d_all (fun _ => z_all) (d_ln (d_lc (own := [("value", 3)]) (d_i (d_var 0)) (fun _ => blkOk_by (N := N_are_integers) (sc := defScope s_are_integers) (by decide +kernel)) (fun _ => pg_name (i := 3) sc_are_integers.nd rfl (.inl rfl)) (img_n 3) (gown_n (by decide)) d_ts0 (d_call (fun _ => h_is_integer) (fun _ => g_is_integer) k_is_integer b_is_integer (d_av 3 (d_av 1 (d_av 2 d_a0)))))))))
theorem ok_lead {f : Addr} {fd : FuncData} (F : Fun K "lead" "lead" s_lead f fd)
    
    : FnOk P w K mg base CX0 (k + 1) f fd ["entry", "states"] (spD K 2 (d_lead)) :=
  def_d F sc_lead rfl rfl fun cdv A outer s H E b hr =>
    (d_cons (d_for (d_i (d_var 1)) (d_gn 2) (d_st (d_set 0 (d_ixV 0 (d_var 2)))))
    (d_st (d_ret (d_var 0))))
theorem ok_state_of {f : Addr} {fd : FuncData} (F : Fun K "state_of" "state_of" s_state_of f fd)
    {a_state_of : Addr} {fd_state_of : FuncData} {F_state_of : Fn} (h_state_of : FnOk P w K mg base CX0 k a_state_of fd_state_of ["automaton", "tree"] (spD K 2 F_state_of)) (g_state_of : mg "state_of" = some (.ref a_state_of)) (k_state_of : PySem.W.keepIn K (.ref a_state_of) = true) (b_state_of : Binds K fd_state_of ["automaton", "tree"] [])
    {a_lead : Addr} {fd_lead : FuncData} {F_lead : Fn} (h_lead : FnOk P w K mg base CX0 k a_lead fd_lead ["entry", "states"] (spD K 2 F_lead)) (g_lead : mg "lead" = some (.ref a_lead)) (k_lead : PySem.W.keepIn K (.ref a_lead) = true) (b_lead : Binds K fd_lead ["entry", "states"] [])
    : FnOk P w K mg base CX0 (k + 1) f fd ["automaton", "tree"] (spD K 2 (d_state_of F_state_of F_lead)) :=
  def_d F sc_state_of rfl rfl fun cdv A outer s H E b hr =>
    (d_cons (d_lcS (d_lcP 2 (own := [("child", 3)]) (d_i (d_slT (d_var 1) (d_o1 d_int) d_o0)) (fun _ => blkOk_by (N := N_state_of) (sc := defScope s_state_of) (by decide +kernel)) (fun _ => pg_name (i := 3) sc_state_of.nd rfl (.inl rfl)) (img_n 3) (gown_n (by decide)) d_ts0 (d_call (fun _ => h_state_of) (fun _ => g_state_of) k_state_of b_state_of (d_av 0 (d_av 3 d_a0))) (fun _ => sw_true rfl rfl rfl (by decide +kernel))))
    (d_st (d_ret (d_call (fun _ => h_lead) (fun _ => g_lead) k_lead b_lead (d_a1 (d_ix (d_ixV 0 d_int) (d_ixV 1 d_int)) (d_av 2 d_a0))))))
theorem ok_places_of {f : Addr} {fd : FuncData} (F : Fun K "places_of" "places_of" s_places_of f fd)
    {a_places_of : Addr} {fd_places_of : FuncData} {F_places_of : Fn} (h_places_of : FnOk P w K mg base CX0 k a_places_of fd_places_of ["tree"] (spD K 1 F_places_of)) (g_places_of : mg "places_of" = some (.ref a_places_of)) (k_places_of : PySem.W.keepIn K (.ref a_places_of) = true) (b_places_of : Binds K fd_places_of ["tree"] [])
    (z_enumerate : mg "enumerate" = none)
    : FnOk P w K mg base CX0 (k + 1) f fd ["tree"] (spD K 1 (d_places_of F_places_of)) :=
  def_d F sc_places_of rfl rfl fun cdv A outer s H E b hr =>
    (d_cons (d_new 1 (d_lst (d_a1 (d_tup d_a0) d_a0)))
    (d_cons (d_for (d_enum (fun _ => z_enumerate) (d_a1 (d_slT (d_var 0) (d_o1 d_int) d_o0) d_a0)) (d_gt 2 (d_g1 (d_gn 2) (d_g1 (d_gn 3) d_g0))) (d_st (d_expr (d_ext 1 (d_lc (own := [("place", 4)]) (d_i (d_en (d_callN (fun _ => h_places_of) (fun _ => g_places_of) k_places_of b_places_of (d_av 3 d_a0)))) (fun _ => blkOk_by (N := N_places_of) (sc := defScope s_places_of) (by decide +kernel)) (fun _ => pg_name (i := 4) sc_places_of.nd rfl (.inl rfl)) (img_n 4) (gown_n (by decide)) d_ts0 (d_add (d_tup (d_a1 (d_var 2) d_a0)) (d_var 4)))))))
    (d_st (d_retV 1))))
theorem ok_part_at {f : Addr} {fd : FuncData} (F : Fun K "part_at" "part_at" s_part_at f fd)
    (z_len : mg "len" = none)
    : FnOk P w K mg base CX0 (k + 1) f fd ["tree", "place"] (spD K 2 (d_part_at)) :=
  def_d F sc_part_at rfl rfl fun cdv A outer s H E b hr =>
    (d_cons (d_for (d_i (d_var 1)) (d_gn 2) (d_cons (d_if (d_cmpT k_ge (d_add (d_var 2) d_int) (d_len (fun _ => z_len) (d_qvar 0))) (d_st (d_ret d_non)) d_nil)
    (d_st (d_set 0 (d_ixV 0 (d_add (d_var 2) d_int))))))
    (d_st (d_ret (d_var 0))))
theorem ok_is_arities {f : Addr} {fd : FuncData} (F : Fun K "is_arities" "is_arities" s_is_arities f fd)
    {a_is_tuple : Addr} {fd_is_tuple : FuncData} {F_is_tuple : Fn} (h_is_tuple : FnOk P w K mg base CX0 k a_is_tuple fd_is_tuple ["value", "least", "most"] (spD K 3 F_is_tuple)) (g_is_tuple : mg "is_tuple" = some (.ref a_is_tuple)) (k_is_tuple : PySem.W.keepIn K (.ref a_is_tuple) = true) (b_is_tuple : Binds K fd_is_tuple ["value", "least", "most"] [])
    {a_are_integers : Addr} {fd_are_integers : FuncData} {F_are_integers : Fn} (h_are_integers : FnOk P w K mg base CX0 k a_are_integers fd_are_integers ["values", "least", "most"] (spD K 3 F_are_integers)) (g_are_integers : mg "are_integers" = some (.ref a_are_integers)) (k_are_integers : PySem.W.keepIn K (.ref a_are_integers) = true) (b_are_integers : Binds K fd_are_integers ["values", "least", "most"] [])
    {t_MOST_SYMBOLS : Tok} (c_MOST_SYMBOLS : mg "MOST_SYMBOLS" = some (.int 4 t_MOST_SYMBOLS))
    {t_MOST_CHILDREN : Tok} (c_MOST_CHILDREN : mg "MOST_CHILDREN" = some (.int 2 t_MOST_CHILDREN))
    : FnOk P w K mg base CX0 (k + 1) f fd ["value"] (spD K 1 (d_is_arities F_is_tuple F_are_integers)) :=
  def_d F sc_is_arities rfl rfl fun cdv A outer s H E b hr =>
    (d_st (d_ret (d_andV (d_call (fun _ => h_is_tuple) (fun _ => g_is_tuple) k_is_tuple b_is_tuple (d_av 0 (d_a1 d_int (d_a1 (d_glob (fun _ => c_MOST_SYMBOLS)) d_a0)))) (d_one (d_call (fun _ => h_are_integers) (fun _ => g_are_integers) k_are_integers b_are_integers (d_av 0 (d_a1 d_int (d_a1 (d_glob (fun _ => c_MOST_CHILDREN)) d_a0))))))))
theorem ok_is_tree {f : Addr} {fd : FuncData} (F : Fun K "is_tree" "is_tree" s_is_tree f fd)
    {a__is_node : Addr} {fd__is_node : FuncData} {F__is_node : Fn} (h__is_node : FnOk P w K mg base CX0 k a__is_node fd__is_node ["arities", "value"] (spD K 2 F__is_node)) (g__is_node : mg "_is_node" = some (.ref a__is_node)) (k__is_node : PySem.W.keepIn K (.ref a__is_node) = true) (b__is_node : Binds K fd__is_node ["arities", "value"] [])
    {t_MOST_NODES : Tok} (c_MOST_NODES : mg "MOST_NODES" = some (.int 15 t_MOST_NODES))
    : FnOk P w K mg base CX0 (k + 1) f fd ["arities", "value"] (spD K 2 (d_is_tree F__is_node)) :=
  def_d F sc_is_tree rfl rfl fun cdv A outer s H E b hr =>
    (d_cons (d_new 2 (d_lst (d_a1 (d_var 1) d_a0)))
    (d_cons (d_set 3 d_int)
    (d_cons (d_while 60 (d_tq (d_qvar 2)) (d_cons (d_set 4 (d_pop 2))
    (d_cons (d_augA 3 d_int)
    (d_cons (d_if (d_w (d_or (d_cmpT k_gt (d_var 3) (d_glob (fun _ => c_MOST_NODES))) (d_or1 (d_not (d_tv (d_call (fun _ => h__is_node) (fun _ => g__is_node) k__is_node b__is_node (d_av 0 (d_av 4 d_a0)))))))) (d_st (d_ret d_bl)) d_nil)
    (d_st (d_expr (d_extT 2 (d_slT (d_var 4) (d_o1 d_int) d_o0))))))))
    (d_st (d_ret d_bl)))))
theorem ok__is_node {f : Addr} {fd : FuncData} (F : Fun K "_is_node" "_is_node" s__is_node f fd)
    {a_is_tuple : Addr} {fd_is_tuple : FuncData} {F_is_tuple : Fn} (h_is_tuple : FnOk P w K mg base CX0 k a_is_tuple fd_is_tuple ["value", "least", "most"] (spD K 3 F_is_tuple)) (g_is_tuple : mg "is_tuple" = some (.ref a_is_tuple)) (k_is_tuple : PySem.W.keepIn K (.ref a_is_tuple) = true) (b_is_tuple : Binds K fd_is_tuple ["value", "least", "most"] [])
    {a_is_integer : Addr} {fd_is_integer : FuncData} {F_is_integer : Fn} (h_is_integer : FnOk P w K mg base CX0 k a_is_integer fd_is_integer ["value", "least", "most"] (spD K 3 F_is_integer)) (g_is_integer : mg "is_integer" = some (.ref a_is_integer)) (k_is_integer : PySem.W.keepIn K (.ref a_is_integer) = true) (b_is_integer : Binds K fd_is_integer ["value", "least", "most"] [])
    (z_len : mg "len" = none)
    {t_MOST_CHILDREN : Tok} (c_MOST_CHILDREN : mg "MOST_CHILDREN" = some (.int 2 t_MOST_CHILDREN))
    : FnOk P w K mg base CX0 (k + 1) f fd ["arities", "value"] (spD K 2 (d__is_node F_is_tuple F_is_integer)) :=
  def_d F sc__is_node rfl rfl fun cdv A outer s H E b hr =>
    (d_cons (d_if (d_w (d_or (d_not (d_tv (d_call (fun _ => h_is_tuple) (fun _ => g_is_tuple) k_is_tuple b_is_tuple (d_av 1 (d_a1 d_int (d_a1 (d_add (d_glob (fun _ => c_MOST_CHILDREN)) d_int) d_a0)))))) (d_or1 (d_not (d_tv (d_call (fun _ => h_is_integer) (fun _ => g_is_integer) k_is_integer b_is_integer (d_a1 (d_ixV 1 d_int) (d_a1 d_int (d_a1 (d_sub (d_len (fun _ => z_len) (d_qvar 0)) d_int) d_a0))))))))) (d_st (d_ret d_bl)) d_nil)
    (d_st (d_ret (d_cmp k_eq (d_len (fun _ => z_len) (d_qvar 1)) (d_add d_int (d_ixV 0 (d_ixV 1 d_int)))))))
theorem ok_is_place {f : Addr} {fd : FuncData} (F : Fun K "is_place" "is_place" s_is_place f fd)
    {a_is_tuple : Addr} {fd_is_tuple : FuncData} {F_is_tuple : Fn} (h_is_tuple : FnOk P w K mg base CX0 k a_is_tuple fd_is_tuple ["value", "least", "most"] (spD K 3 F_is_tuple)) (g_is_tuple : mg "is_tuple" = some (.ref a_is_tuple)) (k_is_tuple : PySem.W.keepIn K (.ref a_is_tuple) = true) (b_is_tuple : Binds K fd_is_tuple ["value", "least", "most"] [])
    {a_are_integers : Addr} {fd_are_integers : FuncData} {F_are_integers : Fn} (h_are_integers : FnOk P w K mg base CX0 k a_are_integers fd_are_integers ["values", "least", "most"] (spD K 3 F_are_integers)) (g_are_integers : mg "are_integers" = some (.ref a_are_integers)) (k_are_integers : PySem.W.keepIn K (.ref a_are_integers) = true) (b_are_integers : Binds K fd_are_integers ["values", "least", "most"] [])
    {t_LONGEST_PLACE : Tok} (c_LONGEST_PLACE : mg "LONGEST_PLACE" = some (.int 14 t_LONGEST_PLACE))
    {t_MOST_CHILDREN : Tok} (c_MOST_CHILDREN : mg "MOST_CHILDREN" = some (.int 2 t_MOST_CHILDREN))
    : FnOk P w K mg base CX0 (k + 1) f fd ["value"] (spD K 1 (d_is_place F_is_tuple F_are_integers)) :=
  def_d F sc_is_place rfl rfl fun cdv A outer s H E b hr =>
    (d_st (d_ret (d_andV (d_call (fun _ => h_is_tuple) (fun _ => g_is_tuple) k_is_tuple b_is_tuple (d_av 0 (d_a1 d_int (d_a1 (d_glob (fun _ => c_LONGEST_PLACE)) d_a0)))) (d_one (d_call (fun _ => h_are_integers) (fun _ => g_are_integers) k_are_integers b_are_integers (d_av 0 (d_a1 d_int (d_a1 (d_sub (d_glob (fun _ => c_MOST_CHILDREN)) d_int) d_a0))))))))
theorem ok_is_automaton {f : Addr} {fd : FuncData} (F : Fun K "is_automaton" "is_automaton" s_is_automaton f fd)
    {a_is_tuple : Addr} {fd_is_tuple : FuncData} {F_is_tuple : Fn} (h_is_tuple : FnOk P w K mg base CX0 k a_is_tuple fd_is_tuple ["value", "least", "most"] (spD K 3 F_is_tuple)) (g_is_tuple : mg "is_tuple" = some (.ref a_is_tuple)) (k_is_tuple : PySem.W.keepIn K (.ref a_is_tuple) = true) (b_is_tuple : Binds K fd_is_tuple ["value", "least", "most"] [])
    {a_is_arities : Addr} {fd_is_arities : FuncData} {F_is_arities : Fn} (h_is_arities : FnOk P w K mg base CX0 k a_is_arities fd_is_arities ["value"] (spD K 1 F_is_arities)) (g_is_arities : mg "is_arities" = some (.ref a_is_arities)) (k_is_arities : PySem.W.keepIn K (.ref a_is_arities) = true) (b_is_arities : Binds K fd_is_arities ["value"] [])
    {a__is_entry : Addr} {fd__is_entry : FuncData} {F__is_entry : Fn} (h__is_entry : FnOk P w K mg base CX0 k a__is_entry fd__is_entry ["value", "arity", "many"] (spD K 3 F__is_entry)) (g__is_entry : mg "_is_entry" = some (.ref a__is_entry)) (k__is_entry : PySem.W.keepIn K (.ref a__is_entry) = true) (b__is_entry : Binds K fd__is_entry ["value", "arity", "many"] [])
    (z_all : mg "all" = none)
    (z_isinstance : mg "isinstance" = none)
    (z_bool : mg "bool" = none)
    (z_len : mg "len" = none)
    (z_zip : mg "zip" = none)
    {t_MOST_STATES : Tok} (c_MOST_STATES : mg "MOST_STATES" = some (.int 4 t_MOST_STATES))
    : FnOk P w K mg base CX0 (k + 1) f fd ["value"] (spD K 1 (d_is_automaton F_is_tuple F_is_arities F__is_entry)) :=
  def_d F sc_is_automaton rfl rfl fun cdv A outer s H E b hr =>
    (d_cons (d_if (d_w (d_or (d_not (d_tv (d_call (fun _ => h_is_tuple) (fun _ => g_is_tuple) k_is_tuple b_is_tuple (d_av 0 (d_a1 d_int (d_a1 d_int d_a0)))))) (d_or1 (d_not (d_tv (d_call (fun _ => h_is_arities) (fun _ => g_is_arities) k_is_arities b_is_arities (d_a1 (d_ixV 0 d_int) d_a0))))))) (d_st (d_ret d_bl)) d_nil)
    (d_cons (d_unp (d_var 0) (d_gt 3 (d_g1 (d_gn 1) (d_g1 (d_gn 2) (d_g1 (d_gn 3) d_g0)))))
    (d_cons (d_if (d_w (d_or (d_not (d_tv (d_call (fun _ => h_is_tuple) (fun _ => g_is_tuple) k_is_tuple b_is_tuple (d_av 2 (d_a1 d_int (d_a1 (d_glob (fun _ => c_MOST_STATES)) d_a0)))))) (d_or1 (d_not (d_tv (d_all (fun _ => z_all) (d_ln (d_lc (own := [("flag", 4)]) (d_i (d_var 2)) (fun _ => blkOk_by (N := N_is_automaton) (sc := defScope s_is_automaton) (by decide +kernel)) (fun _ => pg_name (i := 4) sc_is_automaton.nd rfl (.inl rfl)) (img_n 4) (gown_n (by decide)) d_ts0 (d_isi (by decide +kernel) (fun _ => z_isinstance) (fun _ => z_bool) (d_var 4)))))))))) (d_st (d_ret d_bl)) d_nil)
    (d_cons (d_if (d_not (d_tv (d_call (fun _ => h_is_tuple) (fun _ => g_is_tuple) k_is_tuple b_is_tuple (d_av 3 (d_a1 (d_len (fun _ => z_len) (d_qvar 1)) (d_a1 (d_len (fun _ => z_len) (d_qvar 1)) d_a0)))))) (d_st (d_ret d_bl)) d_nil)
    (d_st (d_ret (d_all (fun _ => z_all) (d_ln (d_lc (own := [("entry", 5), ("arity", 6)]) (d_zip (fun _ => z_zip) (d_a1 (d_var 3) (d_a1 (d_var 1) d_a0))) (fun _ => blkOk_by (N := N_is_automaton) (sc := defScope s_is_automaton) (by decide +kernel)) (fun _ => pg_tup rfl (pgs_cons (pg_name (i := 5) sc_is_automaton.nd rfl (.inl rfl)) (pgs_cons (pg_name (i := 6) sc_is_automaton.nd rfl (.inl rfl)) pgs_nil))) (img_t (img_1 (img_n 5) (img_1 (img_n 6) img_0))) (gown_t (gown_1 (by decide) (gown_1 (by decide) gown_0))) d_ts0 (d_call (fun _ => h__is_entry) (fun _ => g__is_entry) k__is_entry b__is_entry (d_av 5 (d_av 6 (d_a1 (d_len (fun _ => z_len) (d_qvar 2)) d_a0)))))))))))))
theorem ok__is_entry {f : Addr} {fd : FuncData} (F : Fun K "_is_entry" "_is_entry" s__is_entry f fd)
    {a_is_integer : Addr} {fd_is_integer : FuncData} {F_is_integer : Fn} (h_is_integer : FnOk P w K mg base CX0 k a_is_integer fd_is_integer ["value", "least", "most"] (spD K 3 F_is_integer)) (g_is_integer : mg "is_integer" = some (.ref a_is_integer)) (k_is_integer : PySem.W.keepIn K (.ref a_is_integer) = true) (b_is_integer : Binds K fd_is_integer ["value", "least", "most"] [])
    {a_is_tuple : Addr} {fd_is_tuple : FuncData} {F_is_tuple : Fn} (h_is_tuple : FnOk P w K mg base CX0 k a_is_tuple fd_is_tuple ["value", "least", "most"] (spD K 3 F_is_tuple)) (g_is_tuple : mg "is_tuple" = some (.ref a_is_tuple)) (k_is_tuple : PySem.W.keepIn K (.ref a_is_tuple) = true) (b_is_tuple : Binds K fd_is_tuple ["value", "least", "most"] [])
    {a__is_entry : Addr} {fd__is_entry : FuncData} {F__is_entry : Fn} (h__is_entry : FnOk P w K mg base CX0 k a__is_entry fd__is_entry ["value", "arity", "many"] (spD K 3 F__is_entry)) (g__is_entry : mg "_is_entry" = some (.ref a__is_entry)) (k__is_entry : PySem.W.keepIn K (.ref a__is_entry) = true) (b__is_entry : Binds K fd__is_entry ["value", "arity", "many"] [])
    (z_all : mg "all" = none)
    : FnOk P w K mg base CX0 (k + 1) f fd ["value", "arity", "many"] (spD K 3 (d__is_entry F_is_integer F_is_tuple F__is_entry)) :=
  def_d F sc__is_entry rfl rfl fun cdv A outer s H E b hr =>
    (d_cons (d_if (d_cmpT k_eq (d_var 1) d_int) (d_st (d_ret (d_call (fun _ => h_is_integer) (fun _ => g_is_integer) k_is_integer b_is_integer (d_av 0 (d_a1 d_int (d_a1 (d_sub (d_var 2) d_int) d_a0)))))) d_nil)
    (d_st (d_ret (d_andV (d_call (fun _ => h_is_tuple) (fun _ => g_is_tuple) k_is_tuple b_is_tuple (d_av 0 (d_av 2 (d_av 2 d_a0)))) (d_one (d_all (fun _ => z_all) (d_ln (d_lc (own := [("entry", 3)]) (d_i (d_var 0)) (fun _ => blkOk_by (N := N__is_entry) (sc := defScope s__is_entry) (by decide +kernel)) (fun _ => pg_name (i := 3) sc__is_entry.nd rfl (.inl rfl)) (img_n 3) (gown_n (by decide)) d_ts0 (d_call (fun _ => h__is_entry) (fun _ => g__is_entry) k__is_entry b__is_entry (d_av 3 (d_a1 (d_sub (d_var 1) d_int) (d_av 2 d_a0))))))))))))
theorem ok_require_automaton_and_tree {f : Addr} {fd : FuncData} (F : Fun K "require_automaton_and_tree" "require_automaton_and_tree" s_require_automaton_and_tree f fd)
    {a_require : Addr} {fd_require : FuncData} {F_require : Fn} (h_require : FnOk P w K mg base CX0 k a_require fd_require ["holds", "name"] (spD K 2 F_require)) (g_require : mg "require" = some (.ref a_require)) (k_require : PySem.W.keepIn K (.ref a_require) = true) (b_require : Binds K fd_require ["holds", "name"] [])
    {a_is_automaton : Addr} {fd_is_automaton : FuncData} {F_is_automaton : Fn} (h_is_automaton : FnOk P w K mg base CX0 k a_is_automaton fd_is_automaton ["value"] (spD K 1 F_is_automaton)) (g_is_automaton : mg "is_automaton" = some (.ref a_is_automaton)) (k_is_automaton : PySem.W.keepIn K (.ref a_is_automaton) = true) (b_is_automaton : Binds K fd_is_automaton ["value"] [])
    {a_is_tree : Addr} {fd_is_tree : FuncData} {F_is_tree : Fn} (h_is_tree : FnOk P w K mg base CX0 k a_is_tree fd_is_tree ["arities", "value"] (spD K 2 F_is_tree)) (g_is_tree : mg "is_tree" = some (.ref a_is_tree)) (k_is_tree : PySem.W.keepIn K (.ref a_is_tree) = true) (b_is_tree : Binds K fd_is_tree ["arities", "value"] [])
    : FnOk P w K mg base CX0 (k + 1) f fd ["automaton", "tree"] (spD K 2 (d_require_automaton_and_tree F_require F_is_automaton F_is_tree)) :=
  def_d F sc_require_automaton_and_tree rfl rfl fun cdv A outer s H E b hr =>
    (d_cons (d_expr (d_call (fun _ => h_require) (fun _ => g_require) k_require b_require (d_a1 (d_call (fun _ => h_is_automaton) (fun _ => g_is_automaton) k_is_automaton b_is_automaton (d_av 0 d_a0)) (d_a1 d_str d_a0))))
    (d_st (d_expr (d_call (fun _ => h_require) (fun _ => g_require) k_require b_require (d_a1 (d_call (fun _ => h_is_tree) (fun _ => g_is_tree) k_is_tree b_is_tree (d_a1 (d_ixV 0 d_int) (d_av 1 d_a0))) (d_a1 d_str d_a0))))))
theorem ok_run {f : Addr} {fd : FuncData} (F : Fun K "run" "run" s_run f fd)
    {a_require_automaton_and_tree : Addr} {fd_require_automaton_and_tree : FuncData} {F_require_automaton_and_tree : Fn} (h_require_automaton_and_tree : FnOk P w K mg base CX0 k a_require_automaton_and_tree fd_require_automaton_and_tree ["automaton", "tree"] (spD K 2 F_require_automaton_and_tree)) (g_require_automaton_and_tree : mg "require_automaton_and_tree" = some (.ref a_require_automaton_and_tree)) (k_require_automaton_and_tree : PySem.W.keepIn K (.ref a_require_automaton_and_tree) = true) (b_require_automaton_and_tree : Binds K fd_require_automaton_and_tree ["automaton", "tree"] [])
    {a_places_of : Addr} {fd_places_of : FuncData} {F_places_of : Fn} (h_places_of : FnOk P w K mg base CX0 k a_places_of fd_places_of ["tree"] (spD K 1 F_places_of)) (g_places_of : mg "places_of" = some (.ref a_places_of)) (k_places_of : PySem.W.keepIn K (.ref a_places_of) = true) (b_places_of : Binds K fd_places_of ["tree"] [])
    {a_state_of : Addr} {fd_state_of : FuncData} {F_state_of : Fn} (h_state_of : FnOk P w K mg base CX0 k a_state_of fd_state_of ["automaton", "tree"] (spD K 2 F_state_of)) (g_state_of : mg "state_of" = some (.ref a_state_of)) (k_state_of : PySem.W.keepIn K (.ref a_state_of) = true) (b_state_of : Binds K fd_state_of ["automaton", "tree"] [])
    {a_part_at : Addr} {fd_part_at : FuncData} {F_part_at : Fn} (h_part_at : FnOk P w K mg base CX0 k a_part_at fd_part_at ["tree", "place"] (spD K 2 F_part_at)) (g_part_at : mg "part_at" = some (.ref a_part_at)) (k_part_at : PySem.W.keepIn K (.ref a_part_at) = true) (b_part_at : Binds K fd_part_at ["tree", "place"] [])
    (z_tuple : mg "tuple" = none)
    : FnOk P w K mg base CX0 (k + 1) f fd ["automaton", "tree"] (spD K 2 (d_run F_require_automaton_and_tree F_places_of F_state_of F_part_at)) :=
  def_d F sc_run rfl rfl fun cdv A outer s H E b hr =>
    (d_cons (d_expr (d_call (fun _ => h_require_automaton_and_tree) (fun _ => g_require_automaton_and_tree) k_require_automaton_and_tree b_require_automaton_and_tree (d_av 0 (d_av 1 d_a0))))
    (d_st (d_ret (d_tuple1 (fun _ => z_tuple) (d_qn (d_lc (own := [("place", 2)]) (d_i (d_en (d_callN (fun _ => h_places_of) (fun _ => g_places_of) k_places_of b_places_of (d_av 1 d_a0)))) (fun _ => blkOk_by (N := N_run) (sc := defScope s_run) (by decide +kernel)) (fun _ => pg_name (i := 2) sc_run.nd rfl (.inl rfl)) (img_n 2) (gown_n (by decide)) d_ts0 (d_tup (d_a1 (d_var 2) (d_a1 (d_call (fun _ => h_state_of) (fun _ => g_state_of) k_state_of b_state_of (d_av 0 (d_a1 (d_call (fun _ => h_part_at) (fun _ => g_part_at) k_part_at b_part_at (d_av 1 (d_av 2 d_a0))) d_a0))) d_a0)))))))))
theorem ok_accepts_run {f : Addr} {fd : FuncData} (F : Fun K "accepts_run" "accepts_run" s_accepts_run f fd)
    {a_run : Addr} {fd_run : FuncData} {F_run : Fn} (h_run : FnOk P w K mg base CX0 k a_run fd_run ["automaton", "tree"] (spD K 2 F_run)) (g_run : mg "run" = some (.ref a_run)) (k_run : PySem.W.keepIn K (.ref a_run) = true) (b_run : Binds K fd_run ["automaton", "tree"] [])
    {a_is_tuple : Addr} {fd_is_tuple : FuncData} {F_is_tuple : Fn} (h_is_tuple : FnOk P w K mg base CX0 k a_is_tuple fd_is_tuple ["value", "least", "most"] (spD K 3 F_is_tuple)) (g_is_tuple : mg "is_tuple" = some (.ref a_is_tuple)) (k_is_tuple : PySem.W.keepIn K (.ref a_is_tuple) = true) (b_is_tuple : Binds K fd_is_tuple ["value", "least", "most"] [])
    {a__is_placed_state : Addr} {fd__is_placed_state : FuncData} {F__is_placed_state : Fn} (h__is_placed_state : FnOk P w K mg base CX0 k a__is_placed_state fd__is_placed_state ["value"] (spD K 1 F__is_placed_state)) (g__is_placed_state : mg "_is_placed_state" = some (.ref a__is_placed_state)) (k__is_placed_state : PySem.W.keepIn K (.ref a__is_placed_state) = true) (b__is_placed_state : Binds K fd__is_placed_state ["value"] [])
    (z_len : mg "len" = none)
    (z_all : mg "all" = none)
    : FnOk P w K mg base CX0 (k + 1) f fd ["automaton", "tree", "value"] (spD K 3 (d_accepts_run F_run F_is_tuple F__is_placed_state)) :=
  def_d F sc_accepts_run rfl rfl fun cdv A outer s H E b hr =>
    (d_cons (d_set 3 (d_call (fun _ => h_run) (fun _ => g_run) k_run b_run (d_av 0 (d_av 1 d_a0))))
    (d_cons (d_if (d_not (d_tv (d_call (fun _ => h_is_tuple) (fun _ => g_is_tuple) k_is_tuple b_is_tuple (d_av 2 (d_a1 (d_len (fun _ => z_len) (d_qvar 3)) (d_a1 (d_len (fun _ => z_len) (d_qvar 3)) d_a0)))))) (d_st (d_ret d_bl)) d_nil)
    (d_st (d_ret (d_andV (d_all (fun _ => z_all) (d_ln (d_lc (own := [("pair", 4)]) (d_i (d_var 2)) (fun _ => blkOk_by (N := N_accepts_run) (sc := defScope s_accepts_run) (by decide +kernel)) (fun _ => pg_name (i := 4) sc_accepts_run.nd rfl (.inl rfl)) (img_n 4) (gown_n (by decide)) d_ts0 (d_call (fun _ => h__is_placed_state) (fun _ => g__is_placed_state) k__is_placed_state b__is_placed_state (d_av 4 d_a0))))) (d_one (d_cmp k_eq (d_var 2) (d_var 3))))))))
theorem ok__is_placed_state {f : Addr} {fd : FuncData} (F : Fun K "_is_placed_state" "_is_placed_state" s__is_placed_state f fd)
    {a_is_tuple : Addr} {fd_is_tuple : FuncData} {F_is_tuple : Fn} (h_is_tuple : FnOk P w K mg base CX0 k a_is_tuple fd_is_tuple ["value", "least", "most"] (spD K 3 F_is_tuple)) (g_is_tuple : mg "is_tuple" = some (.ref a_is_tuple)) (k_is_tuple : PySem.W.keepIn K (.ref a_is_tuple) = true) (b_is_tuple : Binds K fd_is_tuple ["value", "least", "most"] [])
    {a_is_place : Addr} {fd_is_place : FuncData} {F_is_place : Fn} (h_is_place : FnOk P w K mg base CX0 k a_is_place fd_is_place ["value"] (spD K 1 F_is_place)) (g_is_place : mg "is_place" = some (.ref a_is_place)) (k_is_place : PySem.W.keepIn K (.ref a_is_place) = true) (b_is_place : Binds K fd_is_place ["value"] [])
    {a_is_integer : Addr} {fd_is_integer : FuncData} {F_is_integer : Fn} (h_is_integer : FnOk P w K mg base CX0 k a_is_integer fd_is_integer ["value", "least", "most"] (spD K 3 F_is_integer)) (g_is_integer : mg "is_integer" = some (.ref a_is_integer)) (k_is_integer : PySem.W.keepIn K (.ref a_is_integer) = true) (b_is_integer : Binds K fd_is_integer ["value", "least", "most"] [])
    {t_MOST_STATES : Tok} (c_MOST_STATES : mg "MOST_STATES" = some (.int 4 t_MOST_STATES))
    : FnOk P w K mg base CX0 (k + 1) f fd ["value"] (spD K 1 (d__is_placed_state F_is_tuple F_is_place F_is_integer)) :=
  def_d F sc__is_placed_state rfl rfl fun cdv A outer s H E b hr =>
    (d_st (d_ret (d_andV (d_call (fun _ => h_is_tuple) (fun _ => g_is_tuple) k_is_tuple b_is_tuple (d_av 0 (d_a1 d_int (d_a1 d_int d_a0)))) (d_andV (d_call (fun _ => h_is_place) (fun _ => g_is_place) k_is_place b_is_place (d_a1 (d_ixV 0 d_int) d_a0)) (d_one (d_call (fun _ => h_is_integer) (fun _ => g_is_integer) k_is_integer b_is_integer (d_a1 (d_ixV 0 d_int) (d_a1 d_int (d_a1 (d_sub (d_glob (fun _ => c_MOST_STATES)) d_int) d_a0)))))))))
theorem ok__law_stream {f : Addr} {fd : FuncData} (F : Fun K "_law_stream" "_law_stream" s__law_stream f fd)
    (z_list : mg "list" = none)
    : FnOk P w K mg base CX0 (k + 1) f fd ["script"] (spD K 1 (d__law_stream)) :=
  def_d F sc__law_stream rfl rfl fun cdv A outer s H E b hr =>
    (d_st (d_retL (d_lst (d_a1 (d_en (d_list1 (fun _ => z_list) (d_qvar 0))) (d_a1 d_int (d_a1 d_int d_a0))))))
theorem ok__law_next {f : Addr} {fd : FuncData} (F : Fun K "_law_next" "_law_next" s__law_next f fd)
    (z_len : mg "len" = none)
    (z_abs : mg "abs" = none)
    (z_int : mg "int" = none)
    : FnOk P w K mg base CX0 (k + 1) f fd ["stream", "many"] (spD K 2 (d__law_next)) :=
  def_d F sc__law_next rfl rfl fun cdv A outer s H E b hr =>
    (d_cons (d_if (d_cmpT k_eq (d_ixV 0 d_int) d_int) (d_cons (d_set 2 (d_ixV 0 d_int))
    (d_cons (d_set 3 (d_add d_int (d_var 2)))
    (d_cons (d_if (d_cmpT k_lt (d_var 2) (d_len (fun _ => z_len) (d_qe (d_ixV 0 d_int)))) (d_st (d_set 3 (d_abs (fun _ => z_abs) (d_ix (d_ixV 0 d_int) (d_var 2))))) d_nil)
    (d_cons (d_if (d_cmpT k_lt (d_var 3) (d_pow d_int d_int)) (d_cons (d_set 3 (d_mod (d_int1 (fun _ => z_int) (d_add (d_add (d_mulX (d_var 3) d_int) (d_mulX (d_var 2) d_int)) d_int)) d_int))
    (d_st (d_set 3 (d_add (d_mulX (d_mod (d_int1 (fun _ => z_int) (d_add (d_mulX (d_var 3) d_int) d_int)) d_int) d_int) (d_var 3))))) d_nil)
    (d_cons (d_put 0 d_int (d_var 3))
    (d_st (d_put 0 d_int (d_add (d_var 2) d_int)))))))) d_nil)
    (d_cons (d_set 4 (d_mod (d_int1 (fun _ => z_int) (d_ixV 0 d_int)) (d_var 1)))
    (d_cons (d_put 0 d_int (d_div (d_ixV 0 d_int) (d_var 1)))
    (d_st (d_ret (d_var 4))))))
theorem ok__law_is_integer {f : Addr} {fd : FuncData} (F : Fun K "_law_is_integer" "_law_is_integer" s__law_is_integer f fd)
    (z_isinstance : mg "isinstance" = none)
    (z_int : mg "int" = none)
    (z_bool : mg "bool" = none)
    : FnOk P w K mg base CX0 (k + 1) f fd ["actual"] (spD K 1 (d__law_is_integer)) :=
  def_d F sc__law_is_integer rfl rfl fun cdv A outer s H E b hr =>
    (d_st (d_ret (d_andV (d_isi (by decide +kernel) (fun _ => z_isinstance) (fun _ => z_int) (d_var 0)) (d_one (d_notV (d_isi (by decide +kernel) (fun _ => z_isinstance) (fun _ => z_bool) (d_var 0)))))))
theorem ok__law_step {f : Addr} {fd : FuncData} (F : Fun K "_law_step" "_law_step" s__law_step f fd)
    {a__law_next : Addr} {fd__law_next : FuncData} {F__law_next : Fn} (h__law_next : FnOk P w K mg base CX0 k a__law_next fd__law_next ["stream", "many"] (spD K 2 F__law_next)) (g__law_next : mg "_law_next" = some (.ref a__law_next)) (k__law_next : PySem.W.keepIn K (.ref a__law_next) = true) (b__law_next : Binds K fd__law_next ["stream", "many"] [])
    {a__law_step : Addr} {fd__law_step : FuncData} {F__law_step : Fn} (h__law_step : FnOk P w K mg base CX0 k a__law_step fd__law_step ["stream", "arity", "states"] (spD K 3 F__law_step)) (g__law_step : mg "_law_step" = some (.ref a__law_step)) (k__law_step : PySem.W.keepIn K (.ref a__law_step) = true) (b__law_step : Binds K fd__law_step ["stream", "arity", "states"] [])
    (z_tuple : mg "tuple" = none)
    (z_range : mg "range" = none)
    : FnOk P w K mg base CX0 (k + 1) f fd ["stream", "arity", "states"] (spD K 3 (d__law_step F__law_next F__law_step)) :=
  def_d F sc__law_step rfl rfl fun cdv A outer s H E b hr =>
    (d_cons (d_if (d_cmpT k_eq (d_var 1) d_int) (d_st (d_ret (d_call (fun _ => h__law_next) (fun _ => g__law_next) k__law_next b__law_next (d_av 0 (d_av 2 d_a0))))) d_nil)
    (d_st (d_ret (d_tuple1 (fun _ => z_tuple) (d_qn (d_lc (own := [("k", 3)]) (d_r1 (fun _ => z_range) (d_var 2)) (fun _ => blkOk_by (N := N__law_step) (sc := defScope s__law_step) (by decide +kernel)) (fun _ => pg_name (i := 3) sc__law_step.nd rfl (.inl rfl)) (img_n 3) (gown_n (by decide)) d_ts0 (d_call (fun _ => h__law_step) (fun _ => g__law_step) k__law_step b__law_step (d_av 0 (d_a1 (d_sub (d_var 1) d_int) (d_av 2 d_a0))))))))))
theorem ok__law_automaton {f : Addr} {fd : FuncData} (F : Fun K "_law_automaton" "_law_automaton" s__law_automaton f fd)
    {a__law_next : Addr} {fd__law_next : FuncData} {F__law_next : Fn} (h__law_next : FnOk P w K mg base CX0 k a__law_next fd__law_next ["stream", "many"] (spD K 2 F__law_next)) (g__law_next : mg "_law_next" = some (.ref a__law_next)) (k__law_next : PySem.W.keepIn K (.ref a__law_next) = true) (b__law_next : Binds K fd__law_next ["stream", "many"] [])
    {a__law_step : Addr} {fd__law_step : FuncData} {F__law_step : Fn} (h__law_step : FnOk P w K mg base CX0 k a__law_step fd__law_step ["stream", "arity", "states"] (spD K 3 F__law_step)) (g__law_step : mg "_law_step" = some (.ref a__law_step)) (k__law_step : PySem.W.keepIn K (.ref a__law_step) = true) (b__law_step : Binds K fd__law_step ["stream", "arity", "states"] [])
    (z_max : mg "max" = none)
    (z_tuple : mg "tuple" = none)
    (z_range : mg "range" = none)
    : FnOk P w K mg base CX0 (k + 1) f fd ["stream", "most"] (spD K 2 (d__law_automaton F__law_next F__law_step)) :=
  def_d F sc__law_automaton rfl rfl fun cdv A outer s H E b hr =>
    (d_cons (d_set 2 (d_ix (d_en (d_lst (d_a1 (d_tup (d_a1 d_int (d_a1 d_int (d_a1 d_int d_a0)))) (d_a1 (d_tup (d_a1 d_int (d_a1 d_int d_a0))) (d_a1 (d_tup (d_a1 d_int (d_a1 d_int d_a0))) (d_a1 (d_tup (d_a1 d_int (d_a1 d_int (d_a1 d_int d_a0)))) (d_a1 (d_tup (d_a1 d_int (d_a1 d_int (d_a1 d_int d_a0)))) (d_a1 (d_tup (d_a1 d_int (d_a1 d_int (d_a1 d_int d_a0)))) d_a0)))))))) (d_call (fun _ => h__law_next) (fun _ => g__law_next) k__law_next b__law_next (d_av 0 (d_a1 d_int d_a0)))))
    (d_cons (d_set 3 (d_add d_int (d_call (fun _ => h__law_next) (fun _ => g__law_next) k__law_next b__law_next (d_av 0 (d_av 1 d_a0)))))
    (d_cons (d_if (d_cmpT k_gt (d_call (fun _ => h__law_next) (fun _ => g__law_next) k__law_next b__law_next (d_av 0 (d_a1 d_int d_a0))) d_int) (d_st (d_set 3 (d_max2 (fun _ => z_max) d_int (d_var 3)))) d_nil)
    (d_cons (d_set 4 (d_tuple1 (fun _ => z_tuple) (d_qn (d_lc (own := [("arity", 5)]) (d_i (d_var 2)) (fun _ => blkOk_by (N := N__law_automaton) (sc := defScope s__law_automaton) (by decide +kernel)) (fun _ => pg_name (i := 5) sc__law_automaton.nd rfl (.inl rfl)) (img_n 5) (gown_n (by decide)) d_ts0 (d_call (fun _ => h__law_step) (fun _ => g__law_step) k__law_step b__law_step (d_av 0 (d_av 5 (d_av 3 d_a0))))))))
    (d_st (d_ret (d_tup (d_a1 (d_var 2) (d_a1 (d_tuple1 (fun _ => z_tuple) (d_qn (d_lc (own := [("k", 6)]) (d_r1 (fun _ => z_range) (d_var 3)) (fun _ => blkOk_by (N := N__law_automaton) (sc := defScope s__law_automaton) (by decide +kernel)) (fun _ => pg_name (i := 6) sc__law_automaton.nd rfl (.inl rfl)) (img_n 6) (gown_n (by decide)) d_ts0 (d_cmp k_eq (d_call (fun _ => h__law_next) (fun _ => g__law_next) k__law_next b__law_next (d_av 0 (d_a1 d_int d_a0))) d_int)))) (d_a1 (d_var 4) d_a0))))))))))
theorem ok__law_entry {f : Addr} {fd : FuncData} (F : Fun K "_law_entry" "_law_entry" s__law_entry f fd)
    
    : FnOk P w K mg base CX0 (k + 1) f fd ["automaton", "symbol", "states"] (spD K 3 (d__law_entry)) :=
  def_d F sc__law_entry rfl rfl fun cdv A outer s H E b hr =>
    (d_cons (d_set 3 (d_ix (d_ixV 0 d_int) (d_var 1)))
    (d_cons (d_for (d_i (d_var 2)) (d_gn 4) (d_st (d_set 3 (d_ixV 3 (d_var 4)))))
    (d_st (d_ret (d_var 3)))))
theorem ok__law_state {f : Addr} {fd : FuncData} (F : Fun K "_law_state" "_law_state" s__law_state f fd)
    {a__law_entry : Addr} {fd__law_entry : FuncData} {F__law_entry : Fn} (h__law_entry : FnOk P w K mg base CX0 k a__law_entry fd__law_entry ["automaton", "symbol", "states"] (spD K 3 F__law_entry)) (g__law_entry : mg "_law_entry" = some (.ref a__law_entry)) (k__law_entry : PySem.W.keepIn K (.ref a__law_entry) = true) (b__law_entry : Binds K fd__law_entry ["automaton", "symbol", "states"] [])
    {a__law_state : Addr} {fd__law_state : FuncData} {F__law_state : Fn} (h__law_state : FnOk P w K mg base CX0 k a__law_state fd__law_state ["automaton", "tree"] (spD K 2 F__law_state)) (g__law_state : mg "_law_state" = some (.ref a__law_state)) (k__law_state : PySem.W.keepIn K (.ref a__law_state) = true) (b__law_state : Binds K fd__law_state ["automaton", "tree"] [])
    : FnOk P w K mg base CX0 (k + 1) f fd ["automaton", "tree"] (spD K 2 (d__law_state F__law_entry F__law_state)) :=
  def_d F sc__law_state rfl rfl fun cdv A outer s H E b hr =>
    (d_st (d_ret (d_call (fun _ => h__law_entry) (fun _ => g__law_entry) k__law_entry b__law_entry (d_av 0 (d_a1 (d_ixV 1 d_int) (d_a1 (d_en (d_lc (own := [("child", 2)]) (d_i (d_slT (d_var 1) (d_o1 d_int) d_o0)) (fun _ => blkOk_by (N := N__law_state) (sc := defScope s__law_state) (by decide +kernel)) (fun _ => pg_name (i := 2) sc__law_state.nd rfl (.inl rfl)) (img_n 2) (gown_n (by decide)) d_ts0 (d_call (fun _ => h__law_state) (fun _ => g__law_state) k__law_state b__law_state (d_av 0 (d_av 2 d_a0))))) d_a0))))))
theorem ok__law_tree {f : Addr} {fd : FuncData} (F : Fun K "_law_tree" "_law_tree" s__law_tree f fd)
    {a__law_next : Addr} {fd__law_next : FuncData} {F__law_next : Fn} (h__law_next : FnOk P w K mg base CX0 k a__law_next fd__law_next ["stream", "many"] (spD K 2 F__law_next)) (g__law_next : mg "_law_next" = some (.ref a__law_next)) (k__law_next : PySem.W.keepIn K (.ref a__law_next) = true) (b__law_next : Binds K fd__law_next ["stream", "many"] [])
    {a__law_tree : Addr} {fd__law_tree : FuncData} {F__law_tree : Fn} (h__law_tree : FnOk P w K mg base CX0 k a__law_tree fd__law_tree ["stream", "arities", "most"] (spD K 3 F__law_tree)) (g__law_tree : mg "_law_tree" = some (.ref a__law_tree)) (k__law_tree : PySem.W.keepIn K (.ref a__law_tree) = true) (b__law_tree : Binds K fd__law_tree ["stream", "arities", "most"] [])
    (z_range : mg "range" = none)
    (z_len : mg "len" = none)
    : FnOk P w K mg base CX0 (k + 1) f fd ["stream", "arities", "most"] (spD K 3 (d__law_tree F__law_next F__law_tree)) :=
  def_d F sc__law_tree rfl rfl fun cdv A outer s H E b hr =>
    (d_cons (d_lcS (d_lcP 3 (own := [("symbol", 4)]) (d_r1 (fun _ => z_range) (d_len (fun _ => z_len) (d_qvar 1))) (fun _ => blkOk_by (N := N__law_tree) (sc := defScope s__law_tree) (by decide +kernel)) (fun _ => pg_name (i := 4) sc__law_tree.nd rfl (.inl rfl)) (img_n 4) (gown_n (by decide)) (d_ts1 (d_cmpT k_lt (d_ixV 1 (d_var 4)) (d_var 2))) (d_var 4) (fun _ => sw_true rfl rfl rfl (by decide +kernel))))
    (d_cons (d_set 4 (d_ixV 3 (d_call (fun _ => h__law_next) (fun _ => g__law_next) k__law_next b__law_next (d_av 0 (d_a1 (d_len (fun _ => z_len) (d_qvar 3)) d_a0)))))
    (d_cons (d_if (d_w (d_and (d_cmpT k_gt (d_var 2) d_int) (d_and (d_cmpT k_eq (d_ixV 1 (d_var 4)) d_int) (d_and1 (d_cmpT k_gt (d_call (fun _ => h__law_next) (fun _ => g__law_next) k__law_next b__law_next (d_av 0 (d_a1 d_int d_a0))) d_int))))) (d_st (d_set 4 (d_ixV 3 (d_call (fun _ => h__law_next) (fun _ => g__law_next) k__law_next b__law_next (d_av 0 (d_a1 (d_len (fun _ => z_len) (d_qvar 3)) d_a0)))))) d_nil)
    (d_cons (d_if (d_cmpT k_eq (d_ixV 1 (d_var 4)) d_int) (d_st (d_ret (d_tup (d_a1 (d_var 4) d_a0)))) d_nil)
    (d_cons (d_if (d_cmpT k_eq (d_ixV 1 (d_var 4)) d_int) (d_st (d_ret (d_tup (d_a1 (d_var 4) (d_a1 (d_call (fun _ => h__law_tree) (fun _ => g__law_tree) k__law_tree b__law_tree (d_av 0 (d_av 1 (d_a1 (d_sub (d_var 2) d_int) d_a0)))) d_a0))))) d_nil)
    (d_cons (d_set 5 (d_add d_int (d_call (fun _ => h__law_next) (fun _ => g__law_next) k__law_next b__law_next (d_av 0 (d_a1 (d_sub (d_var 2) d_int) d_a0)))))
    (d_st (d_ret (d_tup (d_a1 (d_var 4) (d_a1 (d_call (fun _ => h__law_tree) (fun _ => g__law_tree) k__law_tree b__law_tree (d_av 0 (d_av 1 (d_av 5 d_a0)))) (d_a1 (d_call (fun _ => h__law_tree) (fun _ => g__law_tree) k__law_tree b__law_tree (d_av 0 (d_av 1 (d_a1 (d_sub (d_sub (d_var 2) d_int) (d_var 5)) d_a0)))) d_a0))))))))))))
theorem ok__law_places {f : Addr} {fd : FuncData} (F : Fun K "_law_places" "_law_places" s__law_places f fd)
    {a__law_places : Addr} {fd__law_places : FuncData} {F__law_places : Fn} (h__law_places : FnOk P w K mg base CX0 k a__law_places fd__law_places ["tree"] (spD K 1 F__law_places)) (g__law_places : mg "_law_places" = some (.ref a__law_places)) (k__law_places : PySem.W.keepIn K (.ref a__law_places) = true) (b__law_places : Binds K fd__law_places ["tree"] [])
    (z_range : mg "range" = none)
    (z_len : mg "len" = none)
    : FnOk P w K mg base CX0 (k + 1) f fd ["tree"] (spD K 1 (d__law_places F__law_places)) :=
  def_d F sc__law_places rfl rfl fun cdv A outer s H E b hr =>
    (d_cons (d_set 1 (d_en (d_lst (d_a1 (d_tup d_a0) d_a0))))
    (d_cons (d_for (d_r1 (fun _ => z_range) (d_sub (d_len (fun _ => z_len) (d_qvar 0)) d_int)) (d_gn 2) (d_st (d_set 1 (d_en (d_catV 1 (d_lc (own := [("place", 3)]) (d_i (d_call (fun _ => h__law_places) (fun _ => g__law_places) k__law_places b__law_places (d_a1 (d_ixV 0 (d_add (d_var 2) d_int)) d_a0))) (fun _ => blkOk_by (N := N__law_places) (sc := defScope s__law_places) (by decide +kernel)) (fun _ => pg_name (i := 3) sc__law_places.nd rfl (.inl rfl)) (img_n 3) (gown_n (by decide)) d_ts0 (d_add (d_tup (d_a1 (d_var 2) d_a0)) (d_var 3))))))))
    (d_st (d_ret (d_var 1)))))
theorem ok__law_part {f : Addr} {fd : FuncData} (F : Fun K "_law_part" "_law_part" s__law_part f fd)
    
    : FnOk P w K mg base CX0 (k + 1) f fd ["tree", "place"] (spD K 2 (d__law_part)) :=
  def_d F sc__law_part rfl rfl fun cdv A outer s H E b hr =>
    (d_cons (d_for (d_i (d_var 1)) (d_gn 2) (d_st (d_set 0 (d_ixV 0 (d_add (d_var 2) d_int)))))
    (d_st (d_ret (d_var 0))))
theorem ok__law_bent {f : Addr} {fd : FuncData} (F : Fun K "_law_bent" "_law_bent" s__law_bent f fd)
    {a__law_next : Addr} {fd__law_next : FuncData} {F__law_next : Fn} (h__law_next : FnOk P w K mg base CX0 k a__law_next fd__law_next ["stream", "many"] (spD K 2 F__law_next)) (g__law_next : mg "_law_next" = some (.ref a__law_next)) (k__law_next : PySem.W.keepIn K (.ref a__law_next) = true) (b__law_next : Binds K fd__law_next ["stream", "many"] [])
    (z_len : mg "len" = none)
    (z_list : mg "list" = none)
    (z_bool : mg "bool" = none)
    : FnOk P w K mg base CX0 (k + 1) f fd ["stream", "row", "states"] (spD K 3 (d__law_bent F__law_next)) :=
  def_d F sc__law_bent rfl rfl fun cdv A outer s H E b hr =>
    (d_cons (d_set 3 (d_call (fun _ => h__law_next) (fun _ => g__law_next) k__law_next b__law_next (d_av 0 (d_a1 (d_len (fun _ => z_len) (d_qvar 1)) d_a0))))
    (d_cons (d_unp (d_ixV 1 (d_var 3)) (d_gt 2 (d_g1 (d_gn 4) (d_g1 (d_gn 5) d_g0))))
    (d_cons (d_set 6 (d_call (fun _ => h__law_next) (fun _ => g__law_next) k__law_next b__law_next (d_av 0 (d_a1 d_int d_a0))))
    (d_cons (d_if (d_cmpT k_eq (d_var 6) d_int) (d_st (d_ret (d_add (d_add (d_slT (d_var 1) d_o0 (d_o1 (d_var 3))) (d_tup (d_a1 (d_tup (d_a1 (d_var 4) (d_a1 (d_ix (d_en (d_lst (d_a1 (d_call (fun _ => h__law_next) (fun _ => g__law_next) k__law_next b__law_next (d_av 0 (d_av 2 d_a0))) (d_a1 (d_add (d_var 5) d_int) (d_a1 (d_neg d_int) (d_a1 d_bl (d_a1 d_bl (d_a1 d_non (d_a1 d_str d_a0))))))))) (d_call (fun _ => h__law_next) (fun _ => g__law_next) k__law_next b__law_next (d_av 0 (d_a1 d_int d_a0)))) d_a0))) d_a0))) (d_slT (d_var 1) (d_o1 (d_add (d_var 3) d_int)) d_o0)))) d_nil)
    (d_cons (d_if (d_cmpT k_eq (d_var 6) d_int) (d_st (d_ret (d_add (d_slT (d_var 1) d_o0 (d_o1 (d_var 3))) (d_slT (d_var 1) (d_o1 (d_add (d_var 3) d_int)) d_o0)))) d_nil)
    (d_cons (d_if (d_cmpT k_eq (d_var 6) d_int) (d_cons (d_set 7 (d_en (d_lst (d_a1 d_non (d_a1 (d_tup (d_a1 (d_var 4) d_a0)) (d_a1 (d_en (d_lst (d_a1 (d_var 4) (d_a1 (d_var 5) d_a0)))) (d_a1 (d_tup (d_a1 (d_var 4) (d_a1 (d_var 5) (d_a1 d_int d_a0)))) (d_a1 (d_tup (d_a1 (d_var 5) (d_a1 (d_var 4) d_a0))) (d_a1 (d_tup (d_a1 (d_en (d_list1 (fun _ => z_list) (d_qvar 4))) (d_a1 (d_var 5) d_a0))) (d_a1 (d_tup (d_a1 (d_add (d_var 4) (d_tup (d_a1 d_int d_a0))) (d_a1 (d_var 5) d_a0))) (d_a1 (d_tup (d_a1 (d_add (d_tup (d_a1 d_bl d_a0)) (d_var 4)) (d_a1 (d_var 5) d_a0))) d_a0)))))))))))
    (d_st (d_ret (d_add (d_add (d_slT (d_var 1) d_o0 (d_o1 (d_var 3))) (d_tup (d_a1 (d_ixV 7 (d_call (fun _ => h__law_next) (fun _ => g__law_next) k__law_next b__law_next (d_av 0 (d_a1 d_int d_a0)))) d_a0))) (d_slT (d_var 1) (d_o1 (d_add (d_var 3) d_int)) d_o0))))) d_nil)
    (d_cons (d_if (d_cmpT k_eq (d_var 6) d_int) (d_st (d_ret (d_ix (d_en (d_lst (d_a1 d_non (d_a1 (d_en (d_list1 (fun _ => z_list) (d_qvar 1))) (d_a1 (d_revT (d_var 1)) (d_a1 (d_add (d_var 1) (d_slT (d_var 1) (d_o1 (d_neg d_int)) d_o0)) (d_a1 (d_tup d_a0) (d_a1 (d_add (d_var 1) (d_tup (d_a1 d_non d_a0))) (d_a1 d_int d_a0))))))))) (d_call (fun _ => h__law_next) (fun _ => g__law_next) k__law_next b__law_next (d_av 0 (d_a1 d_int d_a0)))))) d_nil)
    (d_cons (d_if (d_w (d_and (d_cmpT k_eq (d_var 6) d_int) (d_and1 (d_cmpT k_gt (d_len (fun _ => z_len) (d_qvar 4)) d_int)))) (d_st (d_ret (d_add (d_add (d_slT (d_var 1) d_o0 (d_o1 (d_var 3))) (d_tup (d_a1 (d_tup (d_a1 (d_add (d_slT (d_var 4) d_o0 (d_o1 (d_neg d_int))) (d_tup (d_a1 (d_bool1 (fun _ => z_bool) (d_ixV 4 (d_neg d_int))) d_a0))) (d_a1 (d_var 5) d_a0))) d_a0))) (d_slT (d_var 1) (d_o1 (d_add (d_var 3) d_int)) d_o0)))) d_nil)
    (d_st (d_ret (d_var 1)))))))))))
theorem ok__law_is_run {f : Addr} {fd : FuncData} (F : Fun K "_law_is_run" "_law_is_run" s__law_is_run f fd)
    {a__law_places : Addr} {fd__law_places : FuncData} {F__law_places : Fn} (h__law_places : FnOk P w K mg base CX0 k a__law_places fd__law_places ["tree"] (spD K 1 F__law_places)) (g__law_places : mg "_law_places" = some (.ref a__law_places)) (k__law_places : PySem.W.keepIn K (.ref a__law_places) = true) (b__law_places : Binds K fd__law_places ["tree"] [])
    {a__law_is_integer : Addr} {fd__law_is_integer : FuncData} {F__law_is_integer : Fn} (h__law_is_integer : FnOk P w K mg base CX0 k a__law_is_integer fd__law_is_integer ["actual"] (spD K 1 F__law_is_integer)) (g__law_is_integer : mg "_law_is_integer" = some (.ref a__law_is_integer)) (k__law_is_integer : PySem.W.keepIn K (.ref a__law_is_integer) = true) (b__law_is_integer : Binds K fd__law_is_integer ["actual"] [])
    {a__law_state : Addr} {fd__law_state : FuncData} {F__law_state : Fn} (h__law_state : FnOk P w K mg base CX0 k a__law_state fd__law_state ["automaton", "tree"] (spD K 2 F__law_state)) (g__law_state : mg "_law_state" = some (.ref a__law_state)) (k__law_state : PySem.W.keepIn K (.ref a__law_state) = true) (b__law_state : Binds K fd__law_state ["automaton", "tree"] [])
    {a__law_part : Addr} {fd__law_part : FuncData} {F__law_part : Fn} (h__law_part : FnOk P w K mg base CX0 k a__law_part fd__law_part ["tree", "place"] (spD K 2 F__law_part)) (g__law_part : mg "_law_part" = some (.ref a__law_part)) (k__law_part : PySem.W.keepIn K (.ref a__law_part) = true) (b__law_part : Binds K fd__law_part ["tree", "place"] [])
    (z_isinstance : mg "isinstance" = none)
    (z_tuple : mg "tuple" = none)
    (z_len : mg "len" = none)
    (z_range : mg "range" = none)
    (z_all : mg "all" = none)
    : FnOk P w K mg base CX0 (k + 1) f fd ["automaton", "tree", "value"] (spD K 3 (d__law_is_run F__law_places F__law_is_integer F__law_state F__law_part)) :=
  def_d F sc__law_is_run rfl rfl fun cdv A outer s H E b hr =>
    (d_cons (d_set 3 (d_call (fun _ => h__law_places) (fun _ => g__law_places) k__law_places b__law_places (d_av 1 d_a0)))
    (d_cons (d_if (d_w (d_or (d_not (d_tv (d_isi (by decide +kernel) (fun _ => z_isinstance) (fun _ => z_tuple) (d_var 2)))) (d_or1 (d_cmpT k_ne (d_len (fun _ => z_len) (d_qvar 2)) (d_len (fun _ => z_len) (d_qvar 3)))))) (d_st (d_ret d_bl)) d_nil)
    (d_cons (d_for (d_r1 (fun _ => z_range) (d_len (fun _ => z_len) (d_qvar 3))) (d_gn 4) (d_cons (d_set 5 (d_ixV 2 (d_var 4)))
    (d_cons (d_if (d_w (d_or (d_not (d_tv (d_isi (by decide +kernel) (fun _ => z_isinstance) (fun _ => z_tuple) (d_var 5)))) (d_or (d_cmpT k_ne (d_len (fun _ => z_len) (d_qvar 5)) d_int) (d_or1 (d_not (d_tv (d_isi (by decide +kernel) (fun _ => z_isinstance) (fun _ => z_tuple) (d_ixV 5 d_int)))))))) (d_st (d_ret d_bl)) d_nil)
    (d_cons (d_if (d_w (d_or (d_not (d_tv (d_all (fun _ => z_all) (d_ln (d_lc (own := [("one", 6)]) (d_i (d_ixV 5 d_int)) (fun _ => blkOk_by (N := N__law_is_run) (sc := defScope s__law_is_run) (by decide +kernel)) (fun _ => pg_name (i := 6) sc__law_is_run.nd rfl (.inl rfl)) (img_n 6) (gown_n (by decide)) d_ts0 (d_call (fun _ => h__law_is_integer) (fun _ => g__law_is_integer) k__law_is_integer b__law_is_integer (d_av 6 d_a0))))))) (d_or1 (d_cmpT k_ne (d_ixV 5 d_int) (d_ixV 3 (d_var 4)))))) (d_st (d_ret d_bl)) d_nil)
    (d_st (d_if (d_w (d_or (d_not (d_tv (d_call (fun _ => h__law_is_integer) (fun _ => g__law_is_integer) k__law_is_integer b__law_is_integer (d_a1 (d_ixV 5 d_int) d_a0)))) (d_or1 (d_cmpT k_ne (d_ixV 5 d_int) (d_call (fun _ => h__law_state) (fun _ => g__law_state) k__law_state b__law_state (d_av 0 (d_a1 (d_call (fun _ => h__law_part) (fun _ => g__law_part) k__law_part b__law_part (d_av 1 (d_a1 (d_ixV 3 (d_var 4)) d_a0))) d_a0))))))) (d_st (d_ret d_bl)) d_nil))))))
    (d_st (d_ret d_bl)))))
theorem ok_law {f : Addr} {fd : FuncData} (F : Fun K "law" "law" s_law f fd)
    {a__law_stream : Addr} {fd__law_stream : FuncData} {F__law_stream : Fn} (h__law_stream : FnOk P w K mg base CX0 k a__law_stream fd__law_stream ["script"] (spD K 1 F__law_stream)) (g__law_stream : mg "_law_stream" = some (.ref a__law_stream)) (k__law_stream : PySem.W.keepIn K (.ref a__law_stream) = true) (b__law_stream : Binds K fd__law_stream ["script"] [])
    {a__law_automaton : Addr} {fd__law_automaton : FuncData} {F__law_automaton : Fn} (h__law_automaton : FnOk P w K mg base CX0 k a__law_automaton fd__law_automaton ["stream", "most"] (spD K 2 F__law_automaton)) (g__law_automaton : mg "_law_automaton" = some (.ref a__law_automaton)) (k__law_automaton : PySem.W.keepIn K (.ref a__law_automaton) = true) (b__law_automaton : Binds K fd__law_automaton ["stream", "most"] [])
    {a__law_tree : Addr} {fd__law_tree : FuncData} {F__law_tree : Fn} (h__law_tree : FnOk P w K mg base CX0 k a__law_tree fd__law_tree ["stream", "arities", "most"] (spD K 3 F__law_tree)) (g__law_tree : mg "_law_tree" = some (.ref a__law_tree)) (k__law_tree : PySem.W.keepIn K (.ref a__law_tree) = true) (b__law_tree : Binds K fd__law_tree ["stream", "arities", "most"] [])
    {a__law_next : Addr} {fd__law_next : FuncData} {F__law_next : Fn} (h__law_next : FnOk P w K mg base CX0 k a__law_next fd__law_next ["stream", "many"] (spD K 2 F__law_next)) (g__law_next : mg "_law_next" = some (.ref a__law_next)) (k__law_next : PySem.W.keepIn K (.ref a__law_next) = true) (b__law_next : Binds K fd__law_next ["stream", "many"] [])
    {a__law_places : Addr} {fd__law_places : FuncData} {F__law_places : Fn} (h__law_places : FnOk P w K mg base CX0 k a__law_places fd__law_places ["tree"] (spD K 1 F__law_places)) (g__law_places : mg "_law_places" = some (.ref a__law_places)) (k__law_places : PySem.W.keepIn K (.ref a__law_places) = true) (b__law_places : Binds K fd__law_places ["tree"] [])
    {a__law_state : Addr} {fd__law_state : FuncData} {F__law_state : Fn} (h__law_state : FnOk P w K mg base CX0 k a__law_state fd__law_state ["automaton", "tree"] (spD K 2 F__law_state)) (g__law_state : mg "_law_state" = some (.ref a__law_state)) (k__law_state : PySem.W.keepIn K (.ref a__law_state) = true) (b__law_state : Binds K fd__law_state ["automaton", "tree"] [])
    {a__law_part : Addr} {fd__law_part : FuncData} {F__law_part : Fn} (h__law_part : FnOk P w K mg base CX0 k a__law_part fd__law_part ["tree", "place"] (spD K 2 F__law_part)) (g__law_part : mg "_law_part" = some (.ref a__law_part)) (k__law_part : PySem.W.keepIn K (.ref a__law_part) = true) (b__law_part : Binds K fd__law_part ["tree", "place"] [])
    {a__law_bent : Addr} {fd__law_bent : FuncData} {F__law_bent : Fn} (h__law_bent : FnOk P w K mg base CX0 k a__law_bent fd__law_bent ["stream", "row", "states"] (spD K 3 F__law_bent)) (g__law_bent : mg "_law_bent" = some (.ref a__law_bent)) (k__law_bent : PySem.W.keepIn K (.ref a__law_bent) = true) (b__law_bent : Binds K fd__law_bent ["stream", "row", "states"] [])
    {a_accepts_run : Addr} {fd_accepts_run : FuncData} {F_accepts_run : Fn} (h_accepts_run : FnOk P w K mg base CX0 k a_accepts_run fd_accepts_run ["automaton", "tree", "value"] (spD K 3 F_accepts_run)) (g_accepts_run : mg "accepts_run" = some (.ref a_accepts_run)) (k_accepts_run : PySem.W.keepIn K (.ref a_accepts_run) = true) (b_accepts_run : Binds K fd_accepts_run ["automaton", "tree", "value"] [])
    {a__law_is_run : Addr} {fd__law_is_run : FuncData} {F__law_is_run : Fn} (h__law_is_run : FnOk P w K mg base CX0 k a__law_is_run fd__law_is_run ["automaton", "tree", "value"] (spD K 3 F__law_is_run)) (g__law_is_run : mg "_law_is_run" = some (.ref a__law_is_run)) (k__law_is_run : PySem.W.keepIn K (.ref a__law_is_run) = true) (b__law_is_run : Binds K fd__law_is_run ["automaton", "tree", "value"] [])
    (z_tuple : mg "tuple" = none)
    (z_range : mg "range" = none)
    (z_len : mg "len" = none)
    (z_isinstance : mg "isinstance" = none)
    (z_bool : mg "bool" = none)
    : FnOk P w K mg base CX0 (k + 1) f fd ["script"] (spD K 1 (d_law F__law_stream F__law_automaton F__law_tree F__law_next F__law_places F__law_state F__law_part F__law_bent F_accepts_run F__law_is_run)) :=
  def_d F sc_law rfl rfl fun cdv A outer s H E b hr =>
    (d_cons (d_new 1 (d_callN (fun _ => h__law_stream) (fun _ => g__law_stream) k__law_stream b__law_stream (d_av 0 d_a0)))
    (d_cons (d_set 2 (d_call (fun _ => h__law_automaton) (fun _ => g__law_automaton) k__law_automaton b__law_automaton (d_av 1 (d_a1 d_int d_a0))))
    (d_cons (d_set 3 (d_call (fun _ => h__law_tree) (fun _ => g__law_tree) k__law_tree b__law_tree (d_av 1 (d_a1 (d_ixV 2 d_int) (d_a1 (d_add d_int (d_call (fun _ => h__law_next) (fun _ => g__law_next) k__law_next b__law_next (d_av 1 (d_a1 d_int d_a0)))) d_a0)))))
    (d_cons (d_set 4 (d_tuple1 (fun _ => z_tuple) (d_qn (d_lc (own := [("place", 5)]) (d_i (d_call (fun _ => h__law_places) (fun _ => g__law_places) k__law_places b__law_places (d_av 3 d_a0))) (fun _ => blkOk_by (N := N_law) (sc := defScope s_law) (by decide +kernel)) (fun _ => pg_name (i := 5) sc_law.nd rfl (.inl rfl)) (img_n 5) (gown_n (by decide)) d_ts0 (d_tup (d_a1 (d_var 5) (d_a1 (d_call (fun _ => h__law_state) (fun _ => g__law_state) k__law_state b__law_state (d_av 2 (d_a1 (d_call (fun _ => h__law_part) (fun _ => g__law_part) k__law_part b__law_part (d_av 3 (d_av 5 d_a0))) d_a0))) d_a0)))))))
    (d_cons (d_for (d_r1 (fun _ => z_range) d_int) (d_gn 6) (d_cons (d_set 7 (d_call (fun _ => h__law_bent) (fun _ => g__law_bent) k__law_bent b__law_bent (d_av 1 (d_av 4 (d_a1 (d_len (fun _ => z_len) (d_qe (d_ixV 2 d_int))) d_a0)))))
    (d_cons (d_set 8 (d_call (fun _ => h_accepts_run) (fun _ => g_accepts_run) k_accepts_run b_accepts_run (d_av 2 (d_av 3 (d_av 7 d_a0)))))
    (d_st (d_if (d_w (d_or (d_not (d_tv (d_isi (by decide +kernel) (fun _ => z_isinstance) (fun _ => z_bool) (d_var 8)))) (d_or1 (d_cmpT k_ne (d_var 8) (d_call (fun _ => h__law_is_run) (fun _ => g__law_is_run) k__law_is_run b__law_is_run (d_av 2 (d_av 3 (d_av 7 d_a0)))))))) (d_st (d_ret d_bl)) d_nil)))))
    (d_st (d_ret (d_cmp k_is (d_call (fun _ => h_accepts_run) (fun _ => g_accepts_run) k_accepts_run b_accepts_run (d_av 2 (d_av 3 (d_av 4 d_a0)))) d_bl))))))))
end
end G
set_option linter.all false
set_option autoImplicit false
set_option maxRecDepth 100000
set_option maxHeartbeats 1000000
namespace G
open PySem L2
/-! values that the law uses: no dicts -/
mutual
def nd : D → Bool
  | .dict _ => false
  | .list xs => nds xs
  | .tuple xs => nds xs
  | _ => true
def nds : List D → Bool
  | [] => true
  | x :: r => nd x && nds r
end
theorem kit1 : kitB "NoneType" "int" = some false ∧ kitB "bool" "int" = some true ∧ kitB "int" "int" = some true ∧ kitB "str" "int" = some false ∧ kitB "list" "int" = some false ∧ kitB "tuple" "int" = some false := by decide +kernel
theorem kit2 : kitB "NoneType" "bool" = some false ∧ kitB "bool" "bool" = some true ∧ kitB "int" "bool" = some false ∧ kitB "str" "bool" = some false ∧ kitB "list" "bool" = some false ∧ kitB "tuple" "bool" = some false := by decide +kernel
theorem kit3 : kitB "NoneType" "tuple" = some false ∧ kitB "bool" "tuple" = some false ∧ kitB "int" "tuple" = some false ∧ kitB "str" "tuple" = some false ∧ kitB "list" "tuple" = some false ∧ kitB "tuple" "tuple" = some true := by decide +kernel
theorem kit4 : kitB "NoneType" "str" = some false ∧ kitB "bool" "str" = some false ∧ kitB "int" "str" = some false ∧ kitB "str" "str" = some true ∧ kitB "list" "str" = some false ∧ kitB "tuple" "str" = some false := by decide +kernel
theorem kit5 : kitB "NoneType" "list" = some false ∧ kitB "bool" "list" = some false ∧ kitB "int" "list" = some false ∧ kitB "str" "list" = some false ∧ kitB "list" "list" = some true ∧ kitB "tuple" "list" = some false := by decide +kernel
/-- is_integer -/
def isInt (v : D) (l m : Int) : Bool := match v with
  | .int i => decide (l ≤ i) && decide (i ≤ m)
  | _ => false
def notDict (v : D) : Bool := match v with | .dict _ => false | _ => true
theorem is_integer_eq (v : D) (l m : Int) (S : Sto) (h : notDict v = true) : d_is_integer [.d v, .d (.int l), .d (.int m)] S = some (.val (.bool (isInt v l m)), S) := by
  obtain ⟨a1, a2, a3, a4, a5, a6⟩ := kit1
  obtain ⟨b1, b2, b3, b4, b5, b6⟩ := kit2
  cases v with
  | dict _ => cases h
  | int i =>
    by_cases c : l ≤ i <;> simp [d_is_integer, mDef, mSeq, mRet, mRetL, mRetV, mRetN, mIfS, mAsg, mNew, mAug, mSub, mApp, mExtN, mExtT, mPop, mDrop, mNext, mNever, mOp, mUn, mVar, mC, mQVar, mLVar, mIxV, mQE, mLE, mEN, asL, asQ, mTup, mLst, mDs, datas, mA0, mA1, mAV, mCat, mTB, mTru, tru, mTruQ, mAnd, mOr, mNot, mAndV, mOrV, mNotV, mIf, mChain, mLen, mAll, mAny, mBools, mSum, mList, mTuple, mB, fAbs, fInt, fMax2, fMin2, mIsi, fIsi, tyN, fAdd, fTT, fSub, fMulX, fMul, fRep, fII, fI0, bMul, bDiv, bMod, bPow, fDiv, fMod, fPow, fLt, fLe, fGt, fGe, fIs, fIsNot, fIsB, fNotB, fIsN, fNotN, isN, fNeg, fIx, mCall, mCallN, rtD, rtN, mgN, mg0, mg1, mgT, mO0, mO1, mSlT, mSlL, mYes, mR1, mR2, mNotT, mNotTQ, mSortI, mZip, mEnum, mInQ, mCatV, mCatX, mCatY, mSlV, mForV, mLcV, mIdx, mPopI, mRg1, mR3, mRevT, fBool, Option.bind, isInt, *]
  | _ => simp [d_is_integer, mDef, mSeq, mRet, mRetL, mRetV, mRetN, mIfS, mAsg, mNew, mAug, mSub, mApp, mExtN, mExtT, mPop, mDrop, mNext, mNever, mOp, mUn, mVar, mC, mQVar, mLVar, mIxV, mQE, mLE, mEN, asL, asQ, mTup, mLst, mDs, datas, mA0, mA1, mAV, mCat, mTB, mTru, tru, mTruQ, mAnd, mOr, mNot, mAndV, mOrV, mNotV, mIf, mChain, mLen, mAll, mAny, mBools, mSum, mList, mTuple, mB, fAbs, fInt, fMax2, fMin2, mIsi, fIsi, tyN, fAdd, fTT, fSub, fMulX, fMul, fRep, fII, fI0, bMul, bDiv, bMod, bPow, fDiv, fMod, fPow, fLt, fLe, fGt, fGe, fIs, fIsNot, fIsB, fNotB, fIsN, fNotN, isN, fNeg, fIx, mCall, mCallN, rtD, rtN, mgN, mg0, mg1, mgT, mO0, mO1, mSlT, mSlL, mYes, mR1, mR2, mNotT, mNotTQ, mSortI, mZip, mEnum, mInQ, mCatV, mCatX, mCatY, mSlV, mForV, mLcV, mIdx, mPopI, mRg1, mR3, mRevT, fBool, Option.bind, isInt, *]
/-- is_tuple -/
def isTup (v : D) (l m : Int) : Bool := match v with
  | .tuple xs => decide (l ≤ xs.length) && decide ((xs.length : Int) ≤ m)
  | _ => false
theorem is_tuple_eq (v : D) (l m : Int) (S : Sto) (h : notDict v = true) : d_is_tuple [.d v, .d (.int l), .d (.int m)] S = some (.val (.bool (isTup v l m)), S) := by
  obtain ⟨a1, a2, a3, a4, a5, a6⟩ := kit3
  cases v with
  | dict _ => cases h
  | tuple xs =>
    by_cases c : l ≤ xs.length <;> simp [d_is_tuple, mDef, mSeq, mRet, mRetL, mRetV, mRetN, mIfS, mAsg, mNew, mAug, mSub, mApp, mExtN, mExtT, mPop, mDrop, mNext, mNever, mOp, mUn, mVar, mC, mQVar, mLVar, mIxV, mQE, mLE, mEN, asL, asQ, mTup, mLst, mDs, datas, mA0, mA1, mAV, mCat, mTB, mTru, tru, mTruQ, mAnd, mOr, mNot, mAndV, mOrV, mNotV, mIf, mChain, mLen, mAll, mAny, mBools, mSum, mList, mTuple, mB, fAbs, fInt, fMax2, fMin2, mIsi, fIsi, tyN, fAdd, fTT, fSub, fMulX, fMul, fRep, fII, fI0, bMul, bDiv, bMod, bPow, fDiv, fMod, fPow, fLt, fLe, fGt, fGe, fIs, fIsNot, fIsB, fNotB, fIsN, fNotN, isN, fNeg, fIx, mCall, mCallN, rtD, rtN, mgN, mg0, mg1, mgT, mO0, mO1, mSlT, mSlL, mYes, mR1, mR2, mNotT, mNotTQ, mSortI, mZip, mEnum, mInQ, mCatV, mCatX, mCatY, mSlV, mForV, mLcV, mIdx, mPopI, mRg1, mR3, mRevT, fBool, Option.bind, isTup, *]
  | _ => simp [d_is_tuple, mDef, mSeq, mRet, mRetL, mRetV, mRetN, mIfS, mAsg, mNew, mAug, mSub, mApp, mExtN, mExtT, mPop, mDrop, mNext, mNever, mOp, mUn, mVar, mC, mQVar, mLVar, mIxV, mQE, mLE, mEN, asL, asQ, mTup, mLst, mDs, datas, mA0, mA1, mAV, mCat, mTB, mTru, tru, mTruQ, mAnd, mOr, mNot, mAndV, mOrV, mNotV, mIf, mChain, mLen, mAll, mAny, mBools, mSum, mList, mTuple, mB, fAbs, fInt, fMax2, fMin2, mIsi, fIsi, tyN, fAdd, fTT, fSub, fMulX, fMul, fRep, fII, fI0, bMul, bDiv, bMod, bPow, fDiv, fMod, fPow, fLt, fLe, fGt, fGe, fIs, fIsNot, fIsB, fNotB, fIsN, fNotN, isN, fNeg, fIx, mCall, mCallN, rtD, rtN, mgN, mg0, mg1, mgT, mO0, mO1, mSlT, mSlL, mYes, mR1, mR2, mNotT, mNotTQ, mSortI, mZip, mEnum, mInQ, mCatV, mCatX, mCatY, mSlV, mForV, mLcV, mIdx, mPopI, mRg1, mR3, mRevT, fBool, Option.bind, isTup, *]
end G
set_option linter.all false
set_option autoImplicit false
set_option maxRecDepth 100000
set_option maxHeartbeats 1000000
namespace G
open PySem L2
theorem lc_filter {mg : MG} {mt : MT} {me : ME} {ρ : Rho} {S : Sto} (f : D → D) (p : D → Bool) (ρf : D → Rho) : ∀ {xs : List D}, (∀ x ∈ xs, mg x ρ = some (ρf x)) → (∀ x ∈ xs, mt (ρf x) S = some (p x, S)) → (∀ x ∈ xs, me (ρf x) S = some (f x, S)) →
    lcRun mg mt me xs ρ S = some ((xs.filter p).map f, S)
  | [], _, _, _ => rfl
  | x :: xs, hg, ht, he => by
    have ih := lc_filter f p ρf (fun y hy => hg y (List.mem_cons_of_mem _ hy)) (fun y hy => ht y (List.mem_cons_of_mem _ hy)) (fun y hy => he y (List.mem_cons_of_mem _ hy))
    unfold lcRun
    rw [hg x List.mem_cons_self, Option.bind_some, ht x List.mem_cons_self, Option.bind_some]
    cases e : p x with
    | true => simp [he x List.mem_cons_self, ih, e]
    | false => simp [ih, e]
theorem lc_map {mg : MG} {me : ME} {ρ : Rho} {S : Sto} (f : D → D) (ρf : D → Rho) {xs : List D} (hg : ∀ x ∈ xs, mg x ρ = some (ρf x)) (he : ∀ x ∈ xs, me (ρf x) S = some (f x, S)) : lcRun mg mYes me xs ρ S = some (xs.map f, S) := by
  have := lc_filter (mt := mYes) f (fun _ => true) ρf hg (fun _ _ => rfl) he
  rw [this, List.filter_eq_self.mpr fun _ _ => rfl]
theorem bools_map {α : Type} (f : α → Bool) : ∀ xs : List α, bools (xs.map fun x => PyData.bool (f x)) = some (xs.map f)
  | [] => rfl
  | x :: xs => by
    show (bools (xs.map fun x => PyData.bool (f x))).map (f x :: ·) = _
    rw [bools_map f xs]
    rfl
theorem all_map_id {α : Type} (f : α → Bool) (xs : List α) : (xs.map f).all id = xs.all f := by
  induction xs with
  | nil => rfl
  | cons x xs ih => simp [ih]
/-- are_integers -/
theorem are_integers_eq (xs : List D) (l m : Int) (S : Sto) (h : ∀ x ∈ xs, notDict x = true) (hz : xs.length ≤ 1000000) :
    d_are_integers d_is_integer [.d (.tuple xs), .d (.int l), .d (.int m)] S = some (.val (.bool (xs.all fun x => isInt x l m)), S) := by
  have key : lcRun (mgN 3) mYes (mCall 3 d_is_integer (mAV 3 (mAV 1 (mAV 2 mA0)))) xs (wipeR [some (.d (.tuple xs)), some (.d (.int l)), some (.d (.int m)), none] [3]) S = some (xs.map (fun x => .bool (isInt x l m)), S) := by
    refine lc_map _ (fun x => [some (.d (.tuple xs)), some (.d (.int l)), some (.d (.int m)), some (.d x)]) (fun x _ => by simp [mgN, wipeR]) fun x hx => ?_
    simp [mCall, mAV, mA0, is_integer_eq x l m S (h x hx), rtD]
  simp only [List.set_cons_succ, List.set_cons_zero, wipeR] at key
  simp [d_are_integers, mLc, mDef, mSeq, mRet, mRetL, mRetV, mRetN, mIfS, mAsg, mNew, mAug, mSub, mApp, mExtN, mExtT, mPop, mDrop, mNext, mNever, mOp, mUn, mVar, mC, mQVar, mLVar, mIxV, mQE, mLE, mEN, asL, asQ, mTup, mLst, mDs, datas, mA0, mA1, mAV, mCat, mTB, mTru, tru, mTruQ, mAnd, mOr, mNot, mAndV, mOrV, mNotV, mIf, mChain, mLen, mAll, mAny, mBools, mSum, mList, mTuple, mB, fAbs, fInt, fMax2, fMin2, mIsi, fIsi, tyN, fAdd, fTT, fSub, fMulX, fMul, fRep, fII, fI0, bMul, bDiv, bMod, bPow, fDiv, fMod, fPow, fLt, fLe, fGt, fGe, fIs, fIsNot, fIsB, fNotB, fIsN, fNotN, isN, fNeg, fIx, mCall, mCallN, rtD, rtN, mgN, mg0, mg1, mgT, mO0, mO1, mSlT, mSlL, mYes, mR1, mR2, mNotT, mNotTQ, mSortI, mZip, mEnum, mInQ, mCatV, mCatX, mCatY, mSlV, mForV, mLcV, mIdx, mPopI, mRg1, mR3, mRevT, fBool, Option.bind, wipeR, hz, key, bools_map, all_map_id]
def isAr (v : D) : Bool := match v with
  | .tuple xs => decide (1 ≤ xs.length) && decide (xs.length ≤ 4) && xs.all fun x => isInt x 0 2
  | _ => false
def okv (v : D) : Bool := match v with
  | .tuple xs => xs.all notDict && decide (xs.length ≤ 1000000)
  | .dict _ => false
  | _ => true
theorem okv_nd {v : D} (h : okv v = true) : notDict v = true := by
  cases v <;> first | rfl | exact h
theorem is_arities_eq (v : D) (S : Sto) (h : okv v = true) : d_is_arities d_is_tuple (d_are_integers d_is_integer) [.d v] S = some (.val (.bool (isAr v)), S) := by
  have h1 := fun l m => is_tuple_eq v l m S (okv_nd h)
  cases v with
  | tuple xs =>
    have h' : (xs.all notDict && decide (xs.length ≤ 1000000)) = true := h
    rw [Bool.and_eq_true, List.all_eq_true, decide_eq_true_eq] at h'
    have h2 := are_integers_eq xs 0 2 S h'.1 h'.2
    by_cases c1 : 1 ≤ xs.length <;> by_cases c2 : xs.length ≤ 4 <;>
      simp [d_is_arities, mDef, mSeq, mRet, mRetL, mRetV, mRetN, mIfS, mAsg, mNew, mAug, mSub, mApp, mExtN, mExtT, mPop, mDrop, mNext, mNever, mOp, mUn, mVar, mC, mQVar, mLVar, mIxV, mQE, mLE, mEN, asL, asQ, mTup, mLst, mDs, datas, mA0, mA1, mAV, mCat, mTB, mTru, tru, mTruQ, mAnd, mOr, mNot, mAndV, mOrV, mNotV, mIf, mChain, mLen, mAll, mAny, mBools, mSum, mList, mTuple, mB, fAbs, fInt, fMax2, fMin2, mIsi, fIsi, tyN, fAdd, fTT, fSub, fMulX, fMul, fRep, fII, fI0, bMul, bDiv, bMod, bPow, fDiv, fMod, fPow, fLt, fLe, fGt, fGe, fIs, fIsNot, fIsB, fNotB, fIsN, fNotN, isN, fNeg, fIx, mCall, mCallN, rtD, rtN, mgN, mg0, mg1, mgT, mO0, mO1, mSlT, mSlL, mYes, mR1, mR2, mNotT, mNotTQ, mSortI, mZip, mEnum, mInQ, mCatV, mCatX, mCatY, mSlV, mForV, mLcV, mIdx, mPopI, mRg1, mR3, mRevT, fBool, Option.bind, h1, h2, isTup, isAr, c1, c2, show ((xs.length : Int) ≤ 4) ↔ xs.length ≤ 4 by omega, show (1 ≤ (xs.length : Int)) ↔ 1 ≤ xs.length by omega]
  | dict _ => cases h
  | _ => simp [d_is_arities, mDef, mSeq, mRet, mRetL, mRetV, mRetN, mIfS, mAsg, mNew, mAug, mSub, mApp, mExtN, mExtT, mPop, mDrop, mNext, mNever, mOp, mUn, mVar, mC, mQVar, mLVar, mIxV, mQE, mLE, mEN, asL, asQ, mTup, mLst, mDs, datas, mA0, mA1, mAV, mCat, mTB, mTru, tru, mTruQ, mAnd, mOr, mNot, mAndV, mOrV, mNotV, mIf, mChain, mLen, mAll, mAny, mBools, mSum, mList, mTuple, mB, fAbs, fInt, fMax2, fMin2, mIsi, fIsi, tyN, fAdd, fTT, fSub, fMulX, fMul, fRep, fII, fI0, bMul, bDiv, bMod, bPow, fDiv, fMod, fPow, fLt, fLe, fGt, fGe, fIs, fIsNot, fIsB, fNotB, fIsN, fNotN, isN, fNeg, fIx, mCall, mCallN, rtD, rtN, mgN, mg0, mg1, mgT, mO0, mO1, mSlT, mSlL, mYes, mR1, mR2, mNotT, mNotTQ, mSortI, mZip, mEnum, mInQ, mCatV, mCatX, mCatY, mSlV, mForV, mLcV, mIdx, mPopI, mRg1, mR3, mRevT, fBool, Option.bind, h1, isTup, isAr]
end G
set_option linter.all false
set_option autoImplicit false
set_option maxRecDepth 100000
set_option maxHeartbeats 1000000
namespace G
open PySem L2
theorem sh_int (i : Int) : SeqAt.shaped (.int i) = true := rfl
theorem ev_int (i j : Int) : PyData.eqv (.int i) (.int j) = decide (i = j) := by
  have h : PyData.eqv (.int i) (.int j) = (i == j) := rfl
  rw [h, Bool.beq_eq_decide_eq]
theorem atI_0 {α : Type} (x : α) (r : List α) : atI (x :: r) 0 = some x := by simp [atI, ixN]
theorem atI_n {α : Type} {xs : List α} {i : Int} (h0 : 0 ≤ i) (h : i < xs.length) : atI xs i = xs[i.toNat]? := by
  unfold atI ixN
  rw [if_pos h0, if_pos h]
  rfl
abbrev dA (A : List Int) : D := .tuple (A.map .int)
def nodeOk (A : List Int) (v : D) : Bool := match v with
  | .tuple (.int s :: r) => decide (r.length ≤ 2) && (decide (0 ≤ s) && (decide (s < A.length) && decide ((r.length : Int) = A.getD s.toNat 0)))
  | _ => false
def kids (v : D) : List D := match v with
  | .tuple (_ :: r) => r
  | _ => []
theorem is_node_eq (A : List Int) (v : D) (S : Sto) (h : okv v = true) : d__is_node d_is_tuple d_is_integer [.d (dA A), .d v] S = some (.val (.bool (nodeOk A v)), S) := by
  have h1 := fun l m => is_tuple_eq v l m S (okv_nd h)
  cases v with
  | tuple xs =>
    have h' : (xs.all notDict && decide (xs.length ≤ 1000000)) = true := h
    rw [Bool.and_eq_true, List.all_eq_true, decide_eq_true_eq] at h'
    cases xs with
    | nil => simp [d__is_node, mDef, mSeq, mRet, mRetL, mRetV, mRetN, mIfS, mAsg, mNew, mAug, mSub, mApp, mExtN, mExtT, mPop, mDrop, mNext, mNever, mOp, mUn, mVar, mC, mQVar, mLVar, mIxV, mQE, mLE, mEN, asL, asQ, mTup, mLst, mDs, datas, mA0, mA1, mAV, mCat, mTB, mTru, tru, mTruQ, mAnd, mOr, mNot, mAndV, mOrV, mNotV, mIf, mChain, mLen, mAll, mAny, mBools, mSum, mList, mTuple, mB, fAbs, fInt, fMax2, fMin2, mIsi, fIsi, tyN, fAdd, fTT, fSub, fMulX, fMul, fRep, fII, fI0, bMul, bDiv, bMod, bPow, fDiv, fMod, fPow, fLt, fLe, fGt, fGe, fIs, fIsNot, fIsB, fNotB, fIsN, fNotN, isN, fNeg, fIx, mCall, mCallN, rtD, rtN, mgN, mg0, mg1, mgT, mO0, mO1, mSlT, mSlL, mYes, mR1, mR2, mNotT, mNotTQ, mSortI, mZip, mEnum, mInQ, mCatV, mCatX, mCatY, mSlV, mForV, mLcV, mIdx, mPopI, mRg1, mR3, mRevT, fBool, Option.bind, h1, isTup, nodeOk]
    | cons x r =>
      have h2 := fun l m => is_integer_eq x l m S (h'.1 x List.mem_cons_self)
      by_cases c : r.length ≤ 2
      · have c' : ((r.length : Int) + 1 ≤ 3) := by omega
        cases x with
        | int s =>
          by_cases c0 : 0 ≤ s
          · by_cases c1 : s < A.length
            · have e1 : s ≤ (A.length : Int) - 1 := by omega
              obtain ⟨a, ha⟩ : ∃ a, A.getD s.toNat 0 = a := ⟨_, rfl⟩
              have e2 : atI (A.map PyData.int) s = some (.int a) := by
                rw [← ha, atI_n c0 (by rw [List.length_map]; exact c1), List.getElem?_map, List.getD_eq_getElem?_getD]
                rw [List.getElem?_eq_getElem (by omega)]
                rfl
              have hn : nodeOk A (.tuple (.int s :: r)) = decide ((r.length : Int) = a) := by
                unfold nodeOk
                simp only [ha, c, c0, c1, decide_true, Bool.true_and]
              have e3 : decide ((r.length : Int) + 1 = 1 + a) = decide ((r.length : Int) = a) := by
                rw [decide_eq_decide]; omega
              rw [hn]
              simp [d__is_node, mDef, mSeq, mRet, mRetL, mRetV, mRetN, mIfS, mAsg, mNew, mAug, mSub, mApp, mExtN, mExtT, mPop, mDrop, mNext, mNever, mOp, mUn, mVar, mC, mQVar, mLVar, mIxV, mQE, mLE, mEN, asL, asQ, mTup, mLst, mDs, datas, mA0, mA1, mAV, mCat, mTB, mTru, tru, mTruQ, mAnd, mOr, mNot, mAndV, mOrV, mNotV, mIf, mChain, mLen, mAll, mAny, mBools, mSum, mList, mTuple, mB, fAbs, fInt, fMax2, fMin2, mIsi, fIsi, tyN, fAdd, fTT, fSub, fMulX, fMul, fRep, fII, fI0, bMul, bDiv, bMod, bPow, fDiv, fMod, fPow, fLt, fLe, fGt, fGe, fIs, fIsNot, fIsB, fNotB, fIsN, fNotN, isN, fNeg, fIx, mCall, mCallN, rtD, rtN, mgN, mg0, mg1, mgT, mO0, mO1, mSlT, mSlL, mYes, mR1, mR2, mNotT, mNotTQ, mSortI, mZip, mEnum, mInQ, mCatV, mCatX, mCatY, mSlV, mForV, mLcV, mIdx, mPopI, mRg1, mR3, mRevT, fBool, Option.bind, h1, h2, isTup, isInt, atI_0, c', c0, e1, e2, fEq, sh_int, ev_int, show ¬ ((r.length : Int) + 1 < 1) by omega, show (0 : Int) ≤ r.length by omega]
              simpa using e3
            · have e1 : ¬ s ≤ (A.length : Int) - 1 := by omega
              simp [d__is_node, mDef, mSeq, mRet, mRetL, mRetV, mRetN, mIfS, mAsg, mNew, mAug, mSub, mApp, mExtN, mExtT, mPop, mDrop, mNext, mNever, mOp, mUn, mVar, mC, mQVar, mLVar, mIxV, mQE, mLE, mEN, asL, asQ, mTup, mLst, mDs, datas, mA0, mA1, mAV, mCat, mTB, mTru, tru, mTruQ, mAnd, mOr, mNot, mAndV, mOrV, mNotV, mIf, mChain, mLen, mAll, mAny, mBools, mSum, mList, mTuple, mB, fAbs, fInt, fMax2, fMin2, mIsi, fIsi, tyN, fAdd, fTT, fSub, fMulX, fMul, fRep, fII, fI0, bMul, bDiv, bMod, bPow, fDiv, fMod, fPow, fLt, fLe, fGt, fGe, fIs, fIsNot, fIsB, fNotB, fIsN, fNotN, isN, fNeg, fIx, mCall, mCallN, rtD, rtN, mgN, mg0, mg1, mgT, mO0, mO1, mSlT, mSlL, mYes, mR1, mR2, mNotT, mNotTQ, mSortI, mZip, mEnum, mInQ, mCatV, mCatX, mCatY, mSlV, mForV, mLcV, mIdx, mPopI, mRg1, mR3, mRevT, fBool, Option.bind, h1, h2, isTup, isInt, nodeOk, atI_0, c, c', c0, c1, e1, show (0 : Int) ≤ r.length by omega]
          · simp [d__is_node, mDef, mSeq, mRet, mRetL, mRetV, mRetN, mIfS, mAsg, mNew, mAug, mSub, mApp, mExtN, mExtT, mPop, mDrop, mNext, mNever, mOp, mUn, mVar, mC, mQVar, mLVar, mIxV, mQE, mLE, mEN, asL, asQ, mTup, mLst, mDs, datas, mA0, mA1, mAV, mCat, mTB, mTru, tru, mTruQ, mAnd, mOr, mNot, mAndV, mOrV, mNotV, mIf, mChain, mLen, mAll, mAny, mBools, mSum, mList, mTuple, mB, fAbs, fInt, fMax2, fMin2, mIsi, fIsi, tyN, fAdd, fTT, fSub, fMulX, fMul, fRep, fII, fI0, bMul, bDiv, bMod, bPow, fDiv, fMod, fPow, fLt, fLe, fGt, fGe, fIs, fIsNot, fIsB, fNotB, fIsN, fNotN, isN, fNeg, fIx, mCall, mCallN, rtD, rtN, mgN, mg0, mg1, mgT, mO0, mO1, mSlT, mSlL, mYes, mR1, mR2, mNotT, mNotTQ, mSortI, mZip, mEnum, mInQ, mCatV, mCatX, mCatY, mSlV, mForV, mLcV, mIdx, mPopI, mRg1, mR3, mRevT, fBool, Option.bind, h1, h2, isTup, isInt, nodeOk, atI_0, c, c', c0, show (0 : Int) ≤ r.length by omega]
        | dict _ => exact absurd (h'.1 _ List.mem_cons_self) (by simp [notDict])
        | _ => simp [d__is_node, mDef, mSeq, mRet, mRetL, mRetV, mRetN, mIfS, mAsg, mNew, mAug, mSub, mApp, mExtN, mExtT, mPop, mDrop, mNext, mNever, mOp, mUn, mVar, mC, mQVar, mLVar, mIxV, mQE, mLE, mEN, asL, asQ, mTup, mLst, mDs, datas, mA0, mA1, mAV, mCat, mTB, mTru, tru, mTruQ, mAnd, mOr, mNot, mAndV, mOrV, mNotV, mIf, mChain, mLen, mAll, mAny, mBools, mSum, mList, mTuple, mB, fAbs, fInt, fMax2, fMin2, mIsi, fIsi, tyN, fAdd, fTT, fSub, fMulX, fMul, fRep, fII, fI0, bMul, bDiv, bMod, bPow, fDiv, fMod, fPow, fLt, fLe, fGt, fGe, fIs, fIsNot, fIsB, fNotB, fIsN, fNotN, isN, fNeg, fIx, mCall, mCallN, rtD, rtN, mgN, mg0, mg1, mgT, mO0, mO1, mSlT, mSlL, mYes, mR1, mR2, mNotT, mNotTQ, mSortI, mZip, mEnum, mInQ, mCatV, mCatX, mCatY, mSlV, mForV, mLcV, mIdx, mPopI, mRg1, mR3, mRevT, fBool, Option.bind, h1, h2, isTup, isInt, nodeOk, atI_0, c', show (0 : Int) ≤ r.length by omega]
      · have c' : ¬ ((r.length : Int) + 1 ≤ 3) := by omega
        cases x <;> simp [d__is_node, mDef, mSeq, mRet, mRetL, mRetV, mRetN, mIfS, mAsg, mNew, mAug, mSub, mApp, mExtN, mExtT, mPop, mDrop, mNext, mNever, mOp, mUn, mVar, mC, mQVar, mLVar, mIxV, mQE, mLE, mEN, asL, asQ, mTup, mLst, mDs, datas, mA0, mA1, mAV, mCat, mTB, mTru, tru, mTruQ, mAnd, mOr, mNot, mAndV, mOrV, mNotV, mIf, mChain, mLen, mAll, mAny, mBools, mSum, mList, mTuple, mB, fAbs, fInt, fMax2, fMin2, mIsi, fIsi, tyN, fAdd, fTT, fSub, fMulX, fMul, fRep, fII, fI0, bMul, bDiv, bMod, bPow, fDiv, fMod, fPow, fLt, fLe, fGt, fGe, fIs, fIsNot, fIsB, fNotB, fIsN, fNotN, isN, fNeg, fIx, mCall, mCallN, rtD, rtN, mgN, mg0, mg1, mgT, mO0, mO1, mSlT, mSlL, mYes, mR1, mR2, mNotT, mNotTQ, mSortI, mZip, mEnum, mInQ, mCatV, mCatX, mCatY, mSlV, mForV, mLcV, mIdx, mPopI, mRg1, mR3, mRevT, fBool, Option.bind, h1, isTup, nodeOk, c, c']
  | dict _ => cases h
  | _ => simp [d__is_node, mDef, mSeq, mRet, mRetL, mRetV, mRetN, mIfS, mAsg, mNew, mAug, mSub, mApp, mExtN, mExtT, mPop, mDrop, mNext, mNever, mOp, mUn, mVar, mC, mQVar, mLVar, mIxV, mQE, mLE, mEN, asL, asQ, mTup, mLst, mDs, datas, mA0, mA1, mAV, mCat, mTB, mTru, tru, mTruQ, mAnd, mOr, mNot, mAndV, mOrV, mNotV, mIf, mChain, mLen, mAll, mAny, mBools, mSum, mList, mTuple, mB, fAbs, fInt, fMax2, fMin2, mIsi, fIsi, tyN, fAdd, fTT, fSub, fMulX, fMul, fRep, fII, fI0, bMul, bDiv, bMod, bPow, fDiv, fMod, fPow, fLt, fLe, fGt, fGe, fIs, fIsNot, fIsB, fNotB, fIsN, fNotN, isN, fNeg, fIx, mCall, mCallN, rtD, rtN, mgN, mg0, mg1, mgT, mO0, mO1, mSlT, mSlL, mYes, mR1, mR2, mNotT, mNotTQ, mSortI, mZip, mEnum, mInQ, mCatV, mCatX, mCatY, mSlV, mForV, mLcV, mIdx, mPopI, mRg1, mR3, mRevT, fBool, Option.bind, h1, isTup, nodeOk]
/-! the stack -/
def trRun (A : List Int) : Nat → List D → Int → Option Bool
  | 0, _, _ => none
  | f + 1, stk, k => match stk.getLast? with
    | none => some true
    | some v => if 15 < k + 1 ∨ nodeOk A v = false then some false else trRun A f (stk.dropLast ++ kids v) (k + 1)
abbrev isNodeF : Fn := d__is_node d_is_tuple d_is_integer
theorem ok_kids {A : List Int} {v : D} (h : nodeOk A v = true) : ∃ x r, v = .tuple (x :: r) ∧ kids v = r ∧ r.length ≤ 2 := by
  unfold nodeOk at h
  split at h
  · rename_i s r
    rw [Bool.and_eq_true] at h
    exact ⟨_, _, rfl, rfl, of_decide_eq_true h.1⟩
  · cases h
end G
set_option linter.all false
set_option autoImplicit false
set_option maxRecDepth 100000
set_option maxHeartbeats 1000000
namespace G
open PySem L2
theorem cut_from {α : Type} (xs : List α) (k : Nat) : cut xs (some (k : Int)) none = xs.drop k := by
  unfold cut
  rw [HT.sIx_nat, HT.sIx_none]
  by_cases h : k ≤ xs.length
  · rw [Nat.min_eq_left h]
    exact List.take_of_length_le (by rw [List.length_drop]; omega)
  · rw [Nat.min_eq_right (by omega), List.drop_eq_nil_of_le (Nat.le_refl _), List.drop_eq_nil_of_le (by omega)]
    simp
theorem cut_to {α : Type} (xs : List α) (k : Nat) : cut xs none (some (k : Int)) = xs.take k := by
  unfold cut
  rw [HT.sIx_nat, HT.sIx_none, List.drop_zero, Nat.sub_zero]
  by_cases h : k ≤ xs.length
  · rw [Nat.min_eq_left h]
  · rw [Nat.min_eq_right (by omega), List.take_of_length_le (Nat.le_refl _), List.take_of_length_le (by omega)]
theorem cut_f1 {α : Type} (x : α) (r : List α) : cut (x :: r) (some 1) none = r := cut_from (x :: r) 1
abbrev trC : MT := mTruQ (mQVar 2)
abbrev trB (F__is_node : Fn) : MS := (mSeq (mAsg (mPop 2) (mgN 4))
  (mSeq (mAug 3 (fI0 fun i j => .int (i + j)) (mC (.int 1)))
  (mSeq (mIfS (mOr (mTB (mOp fGt (mVar 3) (mC (.int 15)))) (mNot (mTru (mCall 2 F__is_node (mAV 0 (mAV 4 mA0)))))) (mRet (mC (.bool false))) mNext)
  (mDrop (mExtT 2 (mSlT (mVar 4) (mO1 (mC (.int 1))) mO0))))))
theorem tr_last {α : Type} (S0 : List α) (x : α) : (S0 ++ [x])[S0.length]? = some x := by simp
theorem tr_set {α : Type} (S0 : List α) (x y : α) : (S0 ++ [x]).set S0.length y = S0 ++ [y] := by simp
theorem tr_body (A : List Int) (w : Sl) (S0 : Sto) (init : List D) (v : D) (k : Int) (nd : Option Sl) (h : okv v = true) (hl : init.length ≤ 1000) :
    ∃ ρ' S', trB isNodeF [some (.d (dA A)), some w, some (.loc S0.length), some (.d (.int k)), nd] (S0 ++ [some (init ++ [v])]) =
      if 15 < k + 1 ∨ nodeOk A v = false then some (.rt (.val (.bool false)), ρ', S0 ++ S') else some (.nx, [some (.d (dA A)), some w, some (.loc S0.length), some (.d (.int (k + 1))), some (.d v)], S0 ++ [some (init ++ kids v)]) := by
  have h1 := fun S => is_node_eq A v S h
  by_cases c : 15 < k + 1
  · refine ⟨[some (.d (dA A)), some w, some (.loc S0.length), some (.d (.int (k + 1))), some (.d v)], [some init], ?_⟩
    rw [if_pos (.inl c)]
    simp [trB, mDef, mSeq, mRet, mRetL, mRetV, mRetN, mIfS, mAsg, mNew, mAug, mSub, mApp, mExtN, mExtT, mPop, mDrop, mNext, mNever, mOp, mUn, mVar, mC, mQVar, mLVar, mIxV, mQE, mLE, mEN, asL, asQ, mTup, mLst, mDs, datas, mA0, mA1, mAV, mCat, mTB, mTru, tru, mTruQ, mAnd, mOr, mNot, mAndV, mOrV, mNotV, mIf, mChain, mLen, mAll, mAny, mBools, mSum, mList, mTuple, mB, fAbs, fInt, fMax2, fMin2, mIsi, fIsi, tyN, fAdd, fTT, fSub, fMulX, fMul, fRep, fII, fI0, bMul, bDiv, bMod, bPow, fDiv, fMod, fPow, fLt, fLe, fGt, fGe, fIs, fIsNot, fIsB, fNotB, fIsN, fNotN, isN, fNeg, fIx, mCall, mCallN, rtD, rtN, mgN, mg0, mg1, mgT, mO0, mO1, mSlT, mSlL, mYes, mR1, mR2, mNotT, mNotTQ, mSortI, mZip, mEnum, mInQ, mCatV, mCatX, mCatY, mSlV, mForV, mLcV, mIdx, mPopI, mRg1, mR3, mRevT, fBool, Option.bind, tr_last, tr_set, c]
  · by_cases c2 : nodeOk A v = true
    · obtain ⟨x, r, rfl, hk, hr⟩ := ok_kids c2
      refine ⟨[], [], ?_⟩
      rw [if_neg (by simp [c, c2])]
      simp [trB, mDef, mSeq, mRet, mRetL, mRetV, mRetN, mIfS, mAsg, mNew, mAug, mSub, mApp, mExtN, mExtT, mPop, mDrop, mNext, mNever, mOp, mUn, mVar, mC, mQVar, mLVar, mIxV, mQE, mLE, mEN, asL, asQ, mTup, mLst, mDs, datas, mA0, mA1, mAV, mCat, mTB, mTru, tru, mTruQ, mAnd, mOr, mNot, mAndV, mOrV, mNotV, mIf, mChain, mLen, mAll, mAny, mBools, mSum, mList, mTuple, mB, fAbs, fInt, fMax2, fMin2, mIsi, fIsi, tyN, fAdd, fTT, fSub, fMulX, fMul, fRep, fII, fI0, bMul, bDiv, bMod, bPow, fDiv, fMod, fPow, fLt, fLe, fGt, fGe, fIs, fIsNot, fIsB, fNotB, fIsN, fNotN, isN, fNeg, fIx, mCall, mCallN, rtD, rtN, mgN, mg0, mg1, mgT, mO0, mO1, mSlT, mSlL, mYes, mR1, mR2, mNotT, mNotTQ, mSortI, mZip, mEnum, mInQ, mCatV, mCatX, mCatY, mSlV, mForV, mLcV, mIdx, mPopI, mRg1, mR3, mRevT, fBool, Option.bind, tr_last, tr_set, c, c2, h1, isNodeF, cut_f1, hk, show init.length + r.length ≤ 1000000 by omega]
    · have c3 : nodeOk A v = false := by simpa using c2
      refine ⟨[some (.d (dA A)), some w, some (.loc S0.length), some (.d (.int (k + 1))), some (.d v)], [some init], ?_⟩
      rw [if_pos (.inr c3)]
      simp [trB, mDef, mSeq, mRet, mRetL, mRetV, mRetN, mIfS, mAsg, mNew, mAug, mSub, mApp, mExtN, mExtT, mPop, mDrop, mNext, mNever, mOp, mUn, mVar, mC, mQVar, mLVar, mIxV, mQE, mLE, mEN, asL, asQ, mTup, mLst, mDs, datas, mA0, mA1, mAV, mCat, mTB, mTru, tru, mTruQ, mAnd, mOr, mNot, mAndV, mOrV, mNotV, mIf, mChain, mLen, mAll, mAny, mBools, mSum, mList, mTuple, mB, fAbs, fInt, fMax2, fMin2, mIsi, fIsi, tyN, fAdd, fTT, fSub, fMulX, fMul, fRep, fII, fI0, bMul, bDiv, bMod, bPow, fDiv, fMod, fPow, fLt, fLe, fGt, fGe, fIs, fIsNot, fIsB, fNotB, fIsN, fNotN, isN, fNeg, fIx, mCall, mCallN, rtD, rtN, mgN, mg0, mg1, mgT, mO0, mO1, mSlT, mSlL, mYes, mR1, mR2, mNotT, mNotTQ, mSortI, mZip, mEnum, mInQ, mCatV, mCatX, mCatY, mSlV, mForV, mLcV, mIdx, mPopI, mRg1, mR3, mRevT, fBool, Option.bind, tr_last, tr_set, c, c3, h1, isNodeF]

theorem last_some {α : Type} {xs : List α} {v : α} (h : xs.getLast? = some v) : xs = xs.dropLast ++ [v] := by
  obtain ⟨ys, rfl⟩ := List.getLast?_eq_some_iff.mp h
  simp
/-- the loop by the stack -/
theorem tr_loop (A : List Int) (w : Sl) (S0 : Sto) (PP : D → Prop) (hP : ∀ v, PP v → okv v = true) : ∀ (f : Nat) (stk : List D) (k : Int) (nd : Option Sl) (r : Bool), (∀ v ∈ stk, PP v) → (∀ v, PP v → nodeOk A v = true → ∀ u ∈ kids v, PP u) → stk.length + 2 * f ≤ 1000 → trRun A f stk k = some r →
    ∃ ρ' S', whRun trC (trB isNodeF) f [some (.d (dA A)), some w, some (.loc S0.length), some (.d (.int k)), nd] (S0 ++ [some stk]) = some (if r then .nx else .rt (.val (.bool false)), ρ', S0 ++ S')
  | 0, _, _, _, _, _, _, _, h => by cases h
  | f + 1, stk, k, nd, r, hok, hk, hl, h => by
    unfold trRun at h
    unfold whRun
    cases e : stk.getLast? with
    | none =>
      rw [e] at h
      cases h
      have e0 : stk = [] := List.getLast?_eq_none_iff.mp e
      subst e0
      exact ⟨[some (.d (dA A)), some w, some (.loc S0.length), some (.d (.int k)), nd], [some []], by simp [mDef, mSeq, mRet, mRetL, mRetV, mRetN, mIfS, mAsg, mNew, mAug, mSub, mApp, mExtN, mExtT, mPop, mDrop, mNext, mNever, mOp, mUn, mVar, mC, mQVar, mLVar, mIxV, mQE, mLE, mEN, asL, asQ, mTup, mLst, mDs, datas, mA0, mA1, mAV, mCat, mTB, mTru, tru, mTruQ, mAnd, mOr, mNot, mAndV, mOrV, mNotV, mIf, mChain, mLen, mAll, mAny, mBools, mSum, mList, mTuple, mB, fAbs, fInt, fMax2, fMin2, mIsi, fIsi, tyN, fAdd, fTT, fSub, fMulX, fMul, fRep, fII, fI0, bMul, bDiv, bMod, bPow, fDiv, fMod, fPow, fLt, fLe, fGt, fGe, fIs, fIsNot, fIsB, fNotB, fIsN, fNotN, isN, fNeg, fIx, mCall, mCallN, rtD, rtN, mgN, mg0, mg1, mgT, mO0, mO1, mSlT, mSlL, mYes, mR1, mR2, mNotT, mNotTQ, mSortI, mZip, mEnum, mInQ, mCatV, mCatX, mCatY, mSlV, mForV, mLcV, mIdx, mPopI, mRg1, mR3, mRevT, fBool, Option.bind, tr_last]⟩
    | some v =>
      rw [e] at h
      simp only at h
      have es := last_some e
      have hvP : PP v := hok v (by rw [es]; simp)
      have hv : okv v = true := hP v hvP
      have hlen : stk.length = stk.dropLast.length + 1 := by
        have := congrArg List.length es
        simpa using this
      obtain ⟨ρ1, S1, e1⟩ := tr_body A w S0 stk.dropLast v k nd hv (by omega)
      have ec : trC [some (.d (dA A)), some w, some (.loc S0.length), some (.d (.int k)), nd] (S0 ++ [some stk]) = some (true, S0 ++ [some stk]) := by
        have : stk.isEmpty = false := by rw [es]; simp
        simp [trC, mDef, mSeq, mRet, mRetL, mRetV, mRetN, mIfS, mAsg, mNew, mAug, mSub, mApp, mExtN, mExtT, mPop, mDrop, mNext, mNever, mOp, mUn, mVar, mC, mQVar, mLVar, mIxV, mQE, mLE, mEN, asL, asQ, mTup, mLst, mDs, datas, mA0, mA1, mAV, mCat, mTB, mTru, tru, mTruQ, mAnd, mOr, mNot, mAndV, mOrV, mNotV, mIf, mChain, mLen, mAll, mAny, mBools, mSum, mList, mTuple, mB, fAbs, fInt, fMax2, fMin2, mIsi, fIsi, tyN, fAdd, fTT, fSub, fMulX, fMul, fRep, fII, fI0, bMul, bDiv, bMod, bPow, fDiv, fMod, fPow, fLt, fLe, fGt, fGe, fIs, fIsNot, fIsB, fNotB, fIsN, fNotN, isN, fNeg, fIx, mCall, mCallN, rtD, rtN, mgN, mg0, mg1, mgT, mO0, mO1, mSlT, mSlL, mYes, mR1, mR2, mNotT, mNotTQ, mSortI, mZip, mEnum, mInQ, mCatV, mCatX, mCatY, mSlV, mForV, mLcV, mIdx, mPopI, mRg1, mR3, mRevT, fBool, Option.bind, tr_last, this]
      rw [ec, Option.bind_some, if_pos rfl]
      rw [← es] at e1
      by_cases c : 15 < k + 1 ∨ nodeOk A v = false
      · rw [if_pos c] at h e1
        cases h
        rw [e1, Option.bind_some]
        exact ⟨ρ1, S1, rfl⟩
      · rw [if_neg c] at h e1
        rw [e1, Option.bind_some]
        have c2 : nodeOk A v = true := by
          cases q : nodeOk A v with
          | true => rfl
          | false => exact absurd (.inr q) c
        obtain ⟨x, rr, rfl, hkk, hr⟩ := ok_kids c2
        refine tr_loop A w S0 PP hP f (stk.dropLast ++ kids _) (k + 1) _ r (fun u hu => ?_) hk ?_ h
        · rcases List.mem_append.mp hu with hu | hu
          · exact hok u (by rw [es]; exact List.mem_append_left _ hu)
          · exact hk _ hvP c2 u hu
        · rw [List.length_append, hkk]; omega
mutual
def dk : D → Bool
  | .dict _ => false
  | .tuple xs => dks xs && decide (xs.length ≤ 1000000)
  | _ => true
def dks : List D → Bool
  | [] => true
  | x :: r => dk x && dks r
end
theorem dks_mem : ∀ {xs : List D}, dks xs = true → ∀ x ∈ xs, dk x = true
  | y :: r, h, x, hx => by
    unfold dks at h
    rw [Bool.and_eq_true] at h
    rcases List.mem_cons.mp hx with e | hx
    · rw [e]; exact h.1
    · exact dks_mem h.2 x hx
theorem dk_nd {v : D} (h : dk v = true) : notDict v = true := by
  cases v with
  | dict _ => unfold dk at h; cases h
  | _ => rfl
theorem dk_ok {v : D} (h : dk v = true) : okv v = true := by
  cases v with
  | tuple xs =>
    unfold dk at h
    rw [Bool.and_eq_true] at h
    show (xs.all notDict && decide (xs.length ≤ 1000000)) = true
    rw [h.2, Bool.and_true, List.all_eq_true]
    exact fun x hx => dk_nd (dks_mem h.1 x hx)
  | dict _ => unfold dk at h; cases h
  | _ => rfl
theorem dk_kids {A : List Int} {v : D} (h : dk v = true) (c : nodeOk A v = true) : ∀ u ∈ kids v, dk u = true := by
  obtain ⟨x, r, rfl, hk, hr⟩ := ok_kids c
  rw [hk]
  unfold dk at h
  rw [Bool.and_eq_true] at h
  exact fun u hu => dks_mem h.1 u (List.mem_cons_of_mem _ hu)
theorem is_tree_run (A : List Int) (v : D) (S : Sto) (r : Bool) (hv : dk v = true) (h : trRun A 60 [v] 0 = some r) :
    d_is_tree isNodeF [.d (dA A), .d v] S = some (.val (.bool r), S) := by
  obtain ⟨ρ', S', e⟩ := tr_loop A (.d v) S (fun v => dk v = true) (fun v h => dk_ok h) 60 [v] 0 none r (fun u hu => by rw [List.mem_singleton.mp hu]; exact hv) (fun v h c u hu => dk_kids h c u hu) (by simp) h
  simp only [trC, trB, fGt] at e
  cases r <;> simp [d_is_tree, mDef, mSeq, mRet, mRetL, mRetV, mRetN, mIfS, mAsg, mNew, mAug, mSub, mApp, mExtN, mExtT, mPop, mDrop, mNext, mNever, mOp, mUn, mVar, mC, mQVar, mLVar, mIxV, mQE, mLE, mEN, asL, asQ, mTup, mLst, mDs, datas, mA0, mA1, mAV, mCat, mTB, mTru, tru, mTruQ, mAnd, mOr, mNot, mAndV, mOrV, mNotV, mIf, mChain, mLen, mAll, mAny, mBools, mSum, mList, mTuple, mB, fAbs, fInt, fMax2, fMin2, mIsi, fIsi, tyN, fAdd, fTT, fSub, fMulX, fMul, fRep, fII, fI0, bMul, bDiv, bMod, bPow, fDiv, fMod, fPow, fLt, fLe, fGt, fGe, fIs, fIsNot, fIsB, fNotB, fIsN, fNotN, isN, fNeg, fIx, mCall, mCallN, rtD, rtN, mgN, mg0, mg1, mgT, mO0, mO1, mSlT, mSlL, mYes, mR1, mR2, mNotT, mNotTQ, mSortI, mZip, mEnum, mInQ, mCatV, mCatX, mCatY, mSlV, mForV, mLcV, mIdx, mPopI, mRg1, mR3, mRevT, fBool, Option.bind, e]
/-! trees -/
inductive T where
  | l (s : Nat)
  | u (s : Nat) (a : T)
  | b (s : Nat) (x y : T)
def T.d : T → D
  | .l s => .tuple [.int s]
  | .u s a => .tuple [.int s, a.d]
  | .b s x y => .tuple [.int s, x.d, y.d]
def T.n : T → Nat
  | .l _ => 1
  | .u _ a => a.n + 1
  | .b _ x y => x.n + y.n + 1
def T.ok (A : List Int) : T → Prop
  | .l s => A[s]? = some 0
  | .u s a => A[s]? = some 1 ∧ a.ok A
  | .b s x y => A[s]? = some 2 ∧ x.ok A ∧ y.ok A
def T.kids : T → List T
  | .l _ => []
  | .u _ a => [a]
  | .b _ x y => [x, y]
theorem T.dk : ∀ t : T, G.dk t.d = true
  | .l s => by simp [T.d, G.dk, G.dks]
  | .u s a => by simp [T.d, G.dk, G.dks, T.dk a]
  | .b s x y => by simp [T.d, G.dk, G.dks, T.dk x, T.dk y]
theorem T.kd (t : T) : G.kids t.d = t.kids.map T.d := by cases t <;> rfl
theorem T.n_pos (t : T) : 1 ≤ t.n := by cases t <;> simp [T.n]
def sumn (ts : List T) : Nat := (ts.map T.n).sum
theorem sumn_append (a b : List T) : sumn (a ++ b) = sumn a + sumn b := by simp [sumn]
theorem T.n_kids (t : T) : t.n = sumn t.kids + 1 := by cases t <;> simp [T.n, T.kids, sumn]
theorem nodeOk_mk {A : List Int} {s : Nat} {r : List D} {a : Nat} (h : A[s]? = some (a : Int)) (ha : a ≤ 2) (hr : r.length = a) : nodeOk A (.tuple (.int s :: r)) = true := by
  have hl := (List.getElem?_eq_some_iff.mp h).1
  unfold nodeOk
  have e : A.getD ((s : Int)).toNat 0 = (a : Int) := by
    rw [List.getD_eq_getElem?_getD, Int.toNat_natCast, h]
    rfl
  simp only [e, hr, decide_eq_true_eq, Bool.and_eq_true]
  exact ⟨ha, by omega, by omega, trivial⟩
theorem T.node {A : List Int} {t : T} (h : t.ok A) : nodeOk A t.d = true := by
  cases t with
  | l s => exact nodeOk_mk (a := 0) h (by omega) rfl
  | u s a => exact nodeOk_mk (a := 1) h.1 (by omega) rfl
  | b s x y => exact nodeOk_mk (a := 2) h.1 (by omega) rfl
theorem T.kok {A : List Int} {t : T} (h : t.ok A) : ∀ u ∈ t.kids, u.ok A := by
  cases t with
  | l s => intro u hu; cases hu
  | u s a => intro u hu; rw [List.mem_singleton.mp hu]; exact h.2
  | b s x y =>
    intro u hu
    rcases List.mem_cons.mp hu with e | hu
    · rw [e]; exact h.2.1
    · rw [List.mem_singleton.mp hu]; exact h.2.2
theorem tr_step {A : List Int} {f : Nat} {ts : List T} {t : T} {k : Int} (h : t.ok A) (hk : ¬ 15 < k + 1) : trRun A (f + 1) ((ts ++ [t]).map T.d) k = trRun A f ((ts ++ t.kids).map T.d) (k + 1) := by
  have e1 : ((ts ++ [t]).map T.d).getLast? = some t.d := by simp
  have e2 : ((ts ++ [t]).map T.d).dropLast = ts.map T.d := by simp
  show (match ((ts ++ [t]).map T.d).getLast? with | none => some true | some v => if 15 < k + 1 ∨ nodeOk A v = false then some false else trRun A f (((ts ++ [t]).map T.d).dropLast ++ G.kids v) (k + 1)) = _
  rw [e1]
  simp only
  rw [if_neg (by rw [T.node h]; simp; omega), e2, T.kd, List.map_append]
theorem tr_good {A : List Int} : ∀ (f : Nat) (ts : List T) (k : Int), (∀ t ∈ ts, t.ok A) → k + sumn ts ≤ 15 → sumn ts < f → trRun A f (ts.map T.d) k = some true
  | f + 1, ts, k, ho, hk, hf => by
    rcases List.eq_nil_or_concat ts with e | ⟨us, t, e⟩
    · subst e; rfl
    · rw [List.concat_eq_append] at e
      subst e
      rw [sumn_append] at hk hf
      have h1 : sumn [t] = t.n := by simp [sumn]
      have h2 := t.n_kids
      rw [tr_step (ho t (by simp)) (by omega)]
      refine tr_good f _ _ (fun u hu => ?_) ?_ ?_
      · rcases List.mem_append.mp hu with hu | hu
        · exact ho u (by simp [hu])
        · exact T.kok (ho t (by simp)) u hu
      · rw [sumn_append]; omega
      · rw [sumn_append]; omega
theorem tr_big {A : List Int} : ∀ (f : Nat) (ts : List T) (k : Int), (∀ t ∈ ts, t.ok A) → k ≤ 15 → 15 < k + sumn ts → 17 ≤ f + k → trRun A f (ts.map T.d) k = some false
  | 0, ts, k, ho, h15, hk, hf => by omega
  | f + 1, ts, k, ho, h15, hk, hf => by
    rcases List.eq_nil_or_concat ts with e | ⟨us, t, e⟩
    · subst e
      have : sumn [] = 0 := rfl
      omega
    · rw [List.concat_eq_append] at e
      subst e
      by_cases c : 15 < k + 1
      · show (match ((us ++ [t]).map T.d).getLast? with | none => some true | some v => if 15 < k + 1 ∨ nodeOk A v = false then some false else trRun A f (((us ++ [t]).map T.d).dropLast ++ G.kids v) (k + 1)) = _
        have e1 : ((us ++ [t]).map T.d).getLast? = some t.d := by simp
        rw [e1]
        simp only
        rw [if_pos (.inl c)]
      · rw [sumn_append] at hk
        have h1 : sumn [t] = t.n := by simp [sumn]
        have h2 := t.n_kids
        rw [tr_step (ho t (by simp)) c]
        refine tr_big f _ _ (fun u hu => ?_) (by omega) ?_ (by omega)
        · rcases List.mem_append.mp hu with hu | hu
          · exact ho u (by simp [hu])
          · exact T.kok (ho t (by simp)) u hu
        · rw [sumn_append]; omega
inductive Bad (A : List Int) : D → Prop
  | here {v : D} : nodeOk A v = false → Bad A v
  | kid {v u : D} : u ∈ kids v → Bad A u → Bad A v
theorem tr_bad {A : List Int} : ∀ (f : Nat) (stk : List D) (k : Int), (∃ v ∈ stk, Bad A v) → k ≤ 15 → 17 ≤ f + k → trRun A f stk k = some false
  | 0, stk, k, hb, h15, hf => by omega
  | f + 1, stk, k, hb, h15, hf => by
    obtain ⟨v, hv, bv⟩ := hb
    cases e : stk.getLast? with
    | none =>
      have e0 : stk = [] := List.getLast?_eq_none_iff.mp e
      subst e0
      cases hv
    | some x =>
      unfold trRun
      rw [e]
      simp only
      by_cases c : 15 < k + 1 ∨ nodeOk A x = false
      · rw [if_pos c]
      · rw [if_neg c]
        have es := last_some e
        refine tr_bad f _ _ ?_ (by omega) (by omega)
        rw [es] at hv
        rcases List.mem_append.mp hv with hv | hv
        · exact ⟨v, List.mem_append_left _ hv, bv⟩
        · rw [List.mem_singleton] at hv
          subst hv
          cases bv with
          | here h => exact absurd (.inr h) c
          | kid h1 h2 => exact ⟨_, List.mem_append_right _ h1, h2⟩
theorem is_tree_good {A : List Int} {t : T} (S : Sto) (h : t.ok A) (hn : t.n ≤ 15) : d_is_tree isNodeF [.d (dA A), .d t.d] S = some (.val (.bool true), S) :=
  is_tree_run A t.d S true t.dk (tr_good 60 [t] 0 (fun u hu => by rw [List.mem_singleton.mp hu]; exact h) (by simp [sumn]; omega) (by simp [sumn]; omega))
theorem is_tree_big {A : List Int} {t : T} (S : Sto) (h : t.ok A) (hn : 15 < t.n) : d_is_tree isNodeF [.d (dA A), .d t.d] S = some (.val (.bool false), S) :=
  is_tree_run A t.d S false t.dk (tr_big 60 [t] 0 (fun u hu => by rw [List.mem_singleton.mp hu]; exact h) (by omega) (by simp [sumn]; omega) (by omega))
theorem is_tree_bad {A : List Int} {v : D} (S : Sto) (hv : dk v = true) (h : Bad A v) : d_is_tree isNodeF [.d (dA A), .d v] S = some (.val (.bool false), S) :=
  is_tree_run A v S false hv (tr_bad 60 [v] 0 ⟨v, List.mem_singleton_self v, h⟩ (by omega) (by omega))
end G
set_option linter.all false
set_option autoImplicit false
set_option maxRecDepth 100000
set_option maxHeartbeats 2000000
namespace G
open PySem L2
abbrev Cell (ns : List Int) (c k : Int) : List D := [.list (ns.map .int), .int c, .int k]
def first (ns : List Int) (k : Int) : Int := if k < (ns.length : Int) then (if ns.getD k.toNat 0 < 0 then -(ns.getD k.toNat 0) else ns.getD k.toNat 0) else 7 + k
def mix (c k : Int) : Int := if c < 1000000000000000000 then ((c * 48271 + k * 69621 + 11) % 2147483647 * 16807 + 13) % 2147483647 * 65537 + (c * 48271 + k * 69621 + 11) % 2147483647 else c
def nxt (ns : List Int) (c k : Int) : Int × Int := if c = 0 then (mix (first ns k) k, k + 1) else (c, k)
theorem a30 {α : Type} (x y z : α) : atI [x, y, z] 0 = some x := rfl
theorem a31 {α : Type} (x y z : α) : atI [x, y, z] 1 = some y := rfl
theorem a32 {α : Type} (x y z : α) : atI [x, y, z] 2 = some z := rfl
theorem i31 : ixN 3 1 = some 1 := rfl
theorem i32 : ixN 3 2 = some 2 := rfl
theorem take_set {α : Type} (S : List α) (n : Nat) (x : α) : (S.set n x).take S.length = S.set n x := by
  have : S.length = (S.set n x).length := (List.length_set ..).symm
  rw [this, List.take_length]
theorem next_eq (ns : List Int) (c k m : Int) (n : Nat) (S : Sto) (hS : S[n]? = some (some (Cell ns c k))) (hk : 0 ≤ k) (hm : 0 < m) (hm2 : m < 1073741824) :
    d__law_next [.loc n, .d (.int m)] S = some (.val (.int ((nxt ns c k).1 % m)), S.set n (some (Cell ns ((nxt ns c k).1 / m) (nxt ns c k).2))) := by
  have hn : ∀ x, (S.set n x)[n]? = some x := fun x => List.getElem?_set_self (List.getElem?_eq_some_iff.mp hS).1
  by_cases c0 : c = 0
  · subst c0
    by_cases ck : k < (ns.length : Int)
    · have e1 : atI (ns.map PyData.int) k = some (.int (ns.getD k.toNat 0)) := by
        rw [atI_n hk (by rw [List.length_map]; exact ck), List.getElem?_map, List.getD_eq_getElem?_getD, List.getElem?_eq_getElem (by omega)]
        rfl
      have ef : first ns k = if ns.getD k.toNat 0 < 0 then -(ns.getD k.toNat 0) else ns.getD k.toNat 0 := by unfold first; rw [if_pos ck]
      obtain ⟨a, ha⟩ : ∃ a, ns.getD k.toNat 0 = a := ⟨_, rfl⟩
      rw [ha] at e1 ef
      obtain ⟨f, hf⟩ : ∃ f, (if a < 0 then -a else a) = f := ⟨_, rfl⟩
      rw [hf] at ef
      by_cases cm : f < 1000000000000000000
      · simp [d__law_next, mDef, mSeq, mRet, mRetL, mRetV, mRetN, mIfS, mAsg, mNew, mAug, mSub, mApp, mExtN, mExtT, mPop, mDrop, mNext, mNever, mOp, mUn, mVar, mC, mQVar, mLVar, mIxV, mQE, mLE, mEN, asL, asQ, mTup, mLst, mDs, datas, mA0, mA1, mAV, mCat, mTB, mTru, tru, mTruQ, mAnd, mOr, mNot, mAndV, mOrV, mNotV, mIf, mChain, mLen, mAll, mAny, mBools, mSum, mList, mTuple, mB, fAbs, fInt, fMax2, fMin2, mIsi, fIsi, tyN, fAdd, fTT, fSub, fMulX, fMul, fRep, fII, fI0, bMul, bDiv, bMod, bPow, fDiv, fMod, fPow, fLt, fLe, fGt, fGe, fIs, fIsNot, fIsB, fNotB, fIsN, fNotN, isN, fNeg, fIx, mCall, mCallN, rtD, rtN, mgN, mg0, mg1, mgT, mO0, mO1, mSlT, mSlL, mYes, mR1, mR2, mNotT, mNotTQ, mSortI, mZip, mEnum, mInQ, mCatV, mCatX, mCatY, mSlV, mForV, mLcV, mIdx, mPopI, mRg1, mR3, mRevT, fBool, Option.bind, nxt, mix, ef, cm, hf, hS, hn, a30, a31, a32, i31, i32, fEq, sh_int, ev_int, ck, e1, hm, hm2, Option.or, take_set, Cell]
      · simp [d__law_next, mDef, mSeq, mRet, mRetL, mRetV, mRetN, mIfS, mAsg, mNew, mAug, mSub, mApp, mExtN, mExtT, mPop, mDrop, mNext, mNever, mOp, mUn, mVar, mC, mQVar, mLVar, mIxV, mQE, mLE, mEN, asL, asQ, mTup, mLst, mDs, datas, mA0, mA1, mAV, mCat, mTB, mTru, tru, mTruQ, mAnd, mOr, mNot, mAndV, mOrV, mNotV, mIf, mChain, mLen, mAll, mAny, mBools, mSum, mList, mTuple, mB, fAbs, fInt, fMax2, fMin2, mIsi, fIsi, tyN, fAdd, fTT, fSub, fMulX, fMul, fRep, fII, fI0, bMul, bDiv, bMod, bPow, fDiv, fMod, fPow, fLt, fLe, fGt, fGe, fIs, fIsNot, fIsB, fNotB, fIsN, fNotN, isN, fNeg, fIx, mCall, mCallN, rtD, rtN, mgN, mg0, mg1, mgT, mO0, mO1, mSlT, mSlL, mYes, mR1, mR2, mNotT, mNotTQ, mSortI, mZip, mEnum, mInQ, mCatV, mCatX, mCatY, mSlV, mForV, mLcV, mIdx, mPopI, mRg1, mR3, mRevT, fBool, Option.bind, nxt, mix, ef, cm, hf, hS, hn, a30, a31, a32, i31, i32, fEq, sh_int, ev_int, ck, e1, hm, hm2, Option.or, take_set, Cell]
    · have ef : first ns k = 7 + k := by unfold first; rw [if_neg ck]
      by_cases cm : 7 + k < 1000000000000000000
      · simp [d__law_next, mDef, mSeq, mRet, mRetL, mRetV, mRetN, mIfS, mAsg, mNew, mAug, mSub, mApp, mExtN, mExtT, mPop, mDrop, mNext, mNever, mOp, mUn, mVar, mC, mQVar, mLVar, mIxV, mQE, mLE, mEN, asL, asQ, mTup, mLst, mDs, datas, mA0, mA1, mAV, mCat, mTB, mTru, tru, mTruQ, mAnd, mOr, mNot, mAndV, mOrV, mNotV, mIf, mChain, mLen, mAll, mAny, mBools, mSum, mList, mTuple, mB, fAbs, fInt, fMax2, fMin2, mIsi, fIsi, tyN, fAdd, fTT, fSub, fMulX, fMul, fRep, fII, fI0, bMul, bDiv, bMod, bPow, fDiv, fMod, fPow, fLt, fLe, fGt, fGe, fIs, fIsNot, fIsB, fNotB, fIsN, fNotN, isN, fNeg, fIx, mCall, mCallN, rtD, rtN, mgN, mg0, mg1, mgT, mO0, mO1, mSlT, mSlL, mYes, mR1, mR2, mNotT, mNotTQ, mSortI, mZip, mEnum, mInQ, mCatV, mCatX, mCatY, mSlV, mForV, mLcV, mIdx, mPopI, mRg1, mR3, mRevT, fBool, Option.bind, nxt, mix, ef, cm, hS, hn, a30, a31, a32, i31, i32, fEq, sh_int, ev_int, ck, hm, hm2, Option.or, take_set, Cell]
      · simp [d__law_next, mDef, mSeq, mRet, mRetL, mRetV, mRetN, mIfS, mAsg, mNew, mAug, mSub, mApp, mExtN, mExtT, mPop, mDrop, mNext, mNever, mOp, mUn, mVar, mC, mQVar, mLVar, mIxV, mQE, mLE, mEN, asL, asQ, mTup, mLst, mDs, datas, mA0, mA1, mAV, mCat, mTB, mTru, tru, mTruQ, mAnd, mOr, mNot, mAndV, mOrV, mNotV, mIf, mChain, mLen, mAll, mAny, mBools, mSum, mList, mTuple, mB, fAbs, fInt, fMax2, fMin2, mIsi, fIsi, tyN, fAdd, fTT, fSub, fMulX, fMul, fRep, fII, fI0, bMul, bDiv, bMod, bPow, fDiv, fMod, fPow, fLt, fLe, fGt, fGe, fIs, fIsNot, fIsB, fNotB, fIsN, fNotN, isN, fNeg, fIx, mCall, mCallN, rtD, rtN, mgN, mg0, mg1, mgT, mO0, mO1, mSlT, mSlL, mYes, mR1, mR2, mNotT, mNotTQ, mSortI, mZip, mEnum, mInQ, mCatV, mCatX, mCatY, mSlV, mForV, mLcV, mIdx, mPopI, mRg1, mR3, mRevT, fBool, Option.bind, nxt, mix, ef, cm, hS, hn, a30, a31, a32, i31, i32, fEq, sh_int, ev_int, ck, hm, hm2, Option.or, take_set, Cell]
  · simp [d__law_next, mDef, mSeq, mRet, mRetL, mRetV, mRetN, mIfS, mAsg, mNew, mAug, mSub, mApp, mExtN, mExtT, mPop, mDrop, mNext, mNever, mOp, mUn, mVar, mC, mQVar, mLVar, mIxV, mQE, mLE, mEN, asL, asQ, mTup, mLst, mDs, datas, mA0, mA1, mAV, mCat, mTB, mTru, tru, mTruQ, mAnd, mOr, mNot, mAndV, mOrV, mNotV, mIf, mChain, mLen, mAll, mAny, mBools, mSum, mList, mTuple, mB, fAbs, fInt, fMax2, fMin2, mIsi, fIsi, tyN, fAdd, fTT, fSub, fMulX, fMul, fRep, fII, fI0, bMul, bDiv, bMod, bPow, fDiv, fMod, fPow, fLt, fLe, fGt, fGe, fIs, fIsNot, fIsB, fNotB, fIsN, fNotN, isN, fNeg, fIx, mCall, mCallN, rtD, rtN, mgN, mg0, mg1, mgT, mO0, mO1, mSlT, mSlL, mYes, mR1, mR2, mNotT, mNotTQ, mSortI, mZip, mEnum, mInQ, mCatV, mCatX, mCatY, mSlV, mForV, mLcV, mIdx, mPopI, mRg1, mR3, mRevT, fBool, Option.bind, nxt, c0, hS, hn, a30, a31, a32, i31, i32, fEq, sh_int, ev_int, hm, hm2, Option.or, take_set, Cell]
/-- a stream stands at n -/
structure Sg (n : Nat) (S : Sto) : Prop where
  is : ∃ ns c k, S[n]? = some (some (Cell ns c k)) ∧ 0 ≤ c ∧ 0 ≤ k
/-- .. and has gone on -/
structure Ad (n : Nat) (S S' : Sto) : Prop where
  is : ∃ ns c k, S' = S.set n (some (Cell ns c k)) ∧ 0 ≤ c ∧ 0 ≤ k ∧ n < S.length
theorem Sg.lt {n : Nat} {S : Sto} (h : Sg n S) : n < S.length := by obtain ⟨_, _, _, e, _⟩ := h.is; exact (List.getElem?_eq_some_iff.mp e).1
theorem Ad.sg {n : Nat} {S S' : Sto} (h : Ad n S S') : Sg n S' := by
  obtain ⟨ns, c, k, e, h1, h2, h3⟩ := h.is
  exact ⟨⟨ns, c, k, by rw [e, List.getElem?_set_self h3], h1, h2⟩⟩
theorem Ad.len {n : Nat} {S S' : Sto} (h : Ad n S S') : S'.length = S.length := by
  obtain ⟨ns, c, k, e, h1, h2, h3⟩ := h.is
  rw [e, List.length_set]
theorem Ad.ne {n j : Nat} {S S' : Sto} (h : Ad n S S') (hj : j ≠ n) : S'[j]? = S[j]? := by
  obtain ⟨ns, c, k, e, h1, h2, h3⟩ := h.is
  rw [e, List.getElem?_set_ne (Ne.symm hj)]
theorem Ad.trans {n : Nat} {S S' S'' : Sto} (h : Ad n S S') (g : Ad n S' S'') : Ad n S S'' := by
  obtain ⟨ns, c, k, e, h1, h2, h3⟩ := h.is
  obtain ⟨ns', c', k', e', h1', h2', h3'⟩ := g.is
  exact ⟨⟨ns', c', k', by rw [e', e, List.set_set], h1', h2', h3⟩⟩
theorem Ad.refl {n : Nat} {S : Sto} (h : Sg n S) : Ad n S S := by
  obtain ⟨ns, c, k, e, h1, h2⟩ := h.is
  have hl := h.lt
  refine ⟨⟨ns, c, k, ?_, h1, h2, hl⟩⟩
  rw [List.getElem?_eq_getElem hl] at e
  rw [← Option.some.inj e, List.set_getElem_self]
theorem Ad.take {n : Nat} {S S' : Sto} (h : Ad n S S') : S'.take S.length = S' := by rw [← h.len, List.take_length]
theorem first_nn (ns : List Int) (k : Int) (hk : 0 ≤ k) : 0 ≤ first ns k := by
  unfold first
  split
  · split <;> omega
  · omega
theorem mix_nn (c k : Int) (hc : 0 ≤ c) : 0 ≤ mix c k := by
  unfold mix
  split
  · have a1 := Int.emod_nonneg (c * 48271 + k * 69621 + 11) (show (2147483647 : Int) ≠ 0 by decide)
    have a2 := Int.emod_nonneg ((c * 48271 + k * 69621 + 11) % 2147483647 * 16807 + 13) (show (2147483647 : Int) ≠ 0 by decide)
    omega
  · exact hc
theorem next_sp (m : Int) (n : Nat) (S : Sto) (h : Sg n S) (hm : 0 < m) (hm2 : m < 1073741824) : ∃ g S', 0 ≤ g ∧ g < m ∧ Ad n S S' ∧ d__law_next [.loc n, .d (.int m)] S = some (.val (.int g), S') := by
  obtain ⟨ns, c, k, e, h1, h2⟩ := h.is
  have hx : 0 ≤ (nxt ns c k).1 ∧ 0 ≤ (nxt ns c k).2 := by
    unfold nxt
    split
    · exact ⟨mix_nn _ _ (first_nn ns k h2), by show 0 ≤ k + 1; omega⟩
    · exact ⟨h1, h2⟩
  exact ⟨_, _, Int.emod_nonneg _ (by omega), Int.emod_lt_of_pos _ hm, ⟨⟨ns, _, _, rfl, Int.ediv_nonneg hx.1 (by omega), hx.2, h.lt⟩⟩, next_eq ns c k m n S e h2 hm hm2⟩
end G
set_option linter.all false
set_option autoImplicit false
set_option maxRecDepth 100000
set_option maxHeartbeats 2000000
namespace G
open PySem L2
theorem at_get {α : Type} {xs : List α} {g : Int} (h0 : 0 ≤ g) (h1 : g < xs.length) : ∃ x, x ∈ xs ∧ atI xs g = some x := by
  have hg : g.toNat < xs.length := by omega
  exact ⟨xs[g.toNat], List.getElem_mem hg, by rw [atI_n h0 h1, List.getElem?_eq_getElem hg]⟩
/-! a stream gone on, and cells behind -/
structure AtX (n : Nat) (S0 X S : Sto) : Prop where
  is : ∃ ns c k, S = S0.set n (some (Cell ns c k)) ++ X ∧ 0 ≤ c ∧ 0 ≤ k ∧ n < S0.length
section
variable {n : Nat} {S0 X S S' : Sto}
theorem AtX.start (h : Sg n S) : AtX n S [] S := by
  obtain ⟨ns, c, k, e, h1, h2, h3⟩ := (Ad.refl h).is
  exact ⟨⟨ns, c, k, by rw [List.append_nil]; exact e, h1, h2, h3⟩⟩
theorem AtX.sg (h : AtX n S0 X S) : Sg n S := by
  obtain ⟨ns, c, k, e, h1, h2, h3⟩ := h.is
  refine ⟨⟨ns, c, k, ?_, h1, h2⟩⟩
  rw [e, List.getElem?_append_left (by rw [List.length_set]; exact h3), List.getElem?_set_self h3]
theorem AtX.next (h : AtX n S0 X S) (ad : Ad n S S') : AtX n S0 X S' := by
  obtain ⟨ns, c, k, e, h1, h2, h3⟩ := h.is
  obtain ⟨ns', c', k', e', h1', h2', h3'⟩ := ad.is
  refine ⟨⟨ns', c', k', ?_, h1', h2', h3⟩⟩
  rw [e', e, List.set_append_left _ _ (by rw [List.length_set]; exact h3), List.set_set]
theorem AtX.len (h : AtX n S0 X S) : S.length = S0.length + X.length := by
  obtain ⟨ns, c, k, e, h1, h2, h3⟩ := h.is
  rw [e, List.length_append, List.length_set]
theorem AtX.app (h : AtX n S0 X S) (c : Option (List D)) : AtX n S0 (X ++ [c]) (S ++ [c]) := by
  obtain ⟨ns, c', k, e, h1, h2, h3⟩ := h.is
  exact ⟨⟨ns, c', k, by rw [e, List.append_assoc], h1, h2, h3⟩⟩
theorem AtX.get (h : AtX n S0 X S) (i : Nat) : S[S0.length + i]? = X[i]? := by
  obtain ⟨ns, c', k, e, h1, h2, h3⟩ := h.is
  rw [e, List.getElem?_append_right (by rw [List.length_set]; omega), List.length_set]
  congr 1
  omega
theorem AtX.put (h : AtX n S0 X S) (i : Nat) (c : Option (List D)) : AtX n S0 (X.set i c) (S.set (S0.length + i) c) := by
  obtain ⟨ns, c', k, e, h1, h2, h3⟩ := h.is
  refine ⟨⟨ns, c', k, ?_, h1, h2, h3⟩⟩
  rw [e, List.set_append_right _ _ (by rw [List.length_set]; omega), List.length_set]
  congr 2
  omega
theorem AtX.fin (h : AtX n S0 X S) : Ad n S0 (S.take S0.length) := by
  obtain ⟨ns, c', k, e, h1, h2, h3⟩ := h.is
  refine ⟨⟨ns, c', k, ?_, h1, h2, h3⟩⟩
  rw [e, List.take_append_of_le_length (by rw [List.length_set]; omega), List.take_of_length_le (by rw [List.length_set]; omega)]
end
/-! draws in a comprehension -/
theorem lc_draw {α : Type} (f : α → D) (P : α → Prop) {n : Nat} {mg : MG} {me : ME} {ρ : Rho} (xs : List D) (hb : ∀ x ∈ xs, ∀ S, Sg n S → ∃ ρ1 v S', mg x ρ = some ρ1 ∧ P v ∧ Ad n S S' ∧ me ρ1 S = some (f v, S')) (S : Sto) (h : Sg n S) :
    ∃ (vs : List α) (S' : Sto), vs.length = xs.length ∧ (∀ v ∈ vs, P v) ∧ Ad n S S' ∧ lcRun mg mYes me xs ρ S = some (vs.map f, S') := by
  induction xs generalizing S with
  | nil => exact ⟨[], S, rfl, (fun v hv => by cases hv), Ad.refl h, rfl⟩
  | cons x xs ih =>
    obtain ⟨ρ1, v, S1, e1, p, ad, e2⟩ := hb x List.mem_cons_self S h
    obtain ⟨vs, S2, h1, h2, ad2, e3⟩ := ih (fun y hy => hb y (List.mem_cons_of_mem _ hy)) S1 ad.sg
    refine ⟨v :: vs, S2, by simp [h1], fun w hw => ?_, ad.trans ad2, ?_⟩
    · rcases List.mem_cons.mp hw with rfl | hw
      · exact p
      · exact h2 w hw
    · simp [lcRun, mYes, e1, e2, e3]
/-! automata -/
abbrev iD (l : List Nat) : List D := l.map fun (i : Nat) => PyData.int (i : Int)
abbrev pD (p : List Nat) : D := .tuple (iD p)
inductive Stp where
  | s0 (c : Nat)
  | s1 (l : List Nat)
  | s2 (l : List (List Nat))
def Stp.d : Stp → D
  | .s0 c => .int c
  | .s1 l => pD l
  | .s2 l => .tuple (l.map pD)
def ltl (m : Nat) (l : List Nat) : Prop := l.length = m ∧ ∀ c ∈ l, c < m
def Stp.ok (m : Nat) : Int → Stp → Prop := fun a s => match s with
  | .s0 c => a = 0 ∧ c < m
  | .s1 l => a = 1 ∧ ltl m l
  | .s2 l => a = 2 ∧ l.length = m ∧ ∀ r ∈ l, ltl m r
theorem lev_step (k : Nat) : (lev (k + 2))._law_step = d__law_step d__law_next (lev (k + 1))._law_step := rfl
theorem bR {m : Nat} (h : m ≤ 1000) : bRng (m : Int) = true := by unfold bRng; exact decide_eq_true (by omega)
theorem step0 (n m k : Nat) (hm : 0 < m) (hm2 : m ≤ 4) (S : Sto) (h : Sg n S) : ∃ (c : Nat) (S' : Sto), c < m ∧ Ad n S S' ∧ (lev (k + 2))._law_step [.loc n, .d (.int 0), .d (.int m)] S = some (.val (.int c), S') := by
  rw [lev_step]
  obtain ⟨g, S', g0, g1, ad, e⟩ := next_sp m n S h (by omega) (by omega)
  refine ⟨g.toNat, S', by omega, ad, ?_⟩
  simp [d__law_step, mDef, mSeq, mRet, mRetL, mRetV, mRetN, mIfS, mAsg, mNew, mAug, mSub, mApp, mExtN, mExtT, mPop, mDrop, mNext, mNever, mOp, mUn, mVar, mC, mQVar, mLVar, mIxV, mQE, mLE, mEN, asL, asQ, mTup, mLst, mDs, datas, mA0, mA1, mAV, mCat, mTB, mTru, tru, mTruQ, mAnd, mOr, mNot, mAndV, mOrV, mNotV, mIf, mChain, mLen, mAll, mAny, mBools, mSum, mList, mTuple, mB, fAbs, fInt, fMax2, fMin2, mIsi, fIsi, tyN, fAdd, fTT, fSub, fMulX, fMul, fRep, fII, fI0, bMul, bDiv, bMod, bPow, fDiv, fMod, fPow, fLt, fLe, fGt, fGe, fIs, fIsNot, fIsB, fNotB, fIsN, fNotN, isN, fNeg, fIx, mCall, mCallN, rtD, rtN, mgN, mg0, mg1, mgT, mO0, mO1, mSlT, mSlL, mYes, mR1, mR2, mNotT, mNotTQ, mSortI, mZip, mEnum, mInQ, mCatV, mCatX, mCatY, mSlV, mForV, mLcV, mIdx, mPopI, mRg1, mR3, mRevT, fBool, Option.bind, e, fEq, sh_int, ev_int, ad.take, show ((g.toNat : Nat) : Int) = g by omega]
theorem step1 (n m k : Nat) (hm : 0 < m) (hm2 : m ≤ 4) (S : Sto) (h : Sg n S) : ∃ (l : List Nat) (S' : Sto), ltl m l ∧ Ad n S S' ∧ (lev (k + 3))._law_step [.loc n, .d (.int 1), .d (.int m)] S = some (.val (pD l), S') := by
  obtain ⟨l, S', h1, h2, ad, e⟩ := lc_draw (n := n) (fun (i : Nat) => PyData.int (i : Int)) (fun c => c < m) (mg := mgN 3) (me := mCall 3 (lev (k + 2))._law_step (mAV 0 (mA1 (mOp fSub (mVar 1) (mC (.int 1))) (mAV 2 mA0)))) (ρ := [some (.loc n), some (.d (.int 1)), some (.d (.int m)), none]) (rng 0 m) (fun x _ S h => by
    obtain ⟨c, S', c1, ad, e⟩ := step0 n m k hm hm2 S h
    exact ⟨_, c, S', rfl, c1, ad, by simp [mDef, mSeq, mRet, mRetL, mRetV, mRetN, mIfS, mAsg, mNew, mAug, mSub, mApp, mExtN, mExtT, mPop, mDrop, mNext, mNever, mOp, mUn, mVar, mC, mQVar, mLVar, mIxV, mQE, mLE, mEN, asL, asQ, mTup, mLst, mDs, datas, mA0, mA1, mAV, mCat, mTB, mTru, tru, mTruQ, mAnd, mOr, mNot, mAndV, mOrV, mNotV, mIf, mChain, mLen, mAll, mAny, mBools, mSum, mList, mTuple, mB, fAbs, fInt, fMax2, fMin2, mIsi, fIsi, tyN, fAdd, fTT, fSub, fMulX, fMul, fRep, fII, fI0, bMul, bDiv, bMod, bPow, fDiv, fMod, fPow, fLt, fLe, fGt, fGe, fIs, fIsNot, fIsB, fNotB, fIsN, fNotN, isN, fNeg, fIx, mCall, mCallN, rtD, rtN, mgN, mg0, mg1, mgT, mO0, mO1, mSlT, mSlL, mYes, mR1, mR2, mNotT, mNotTQ, mSortI, mZip, mEnum, mInQ, mCatV, mCatX, mCatY, mSlV, mForV, mLcV, mIdx, mPopI, mRg1, mR3, mRevT, fBool, Option.bind, e]⟩) S h
  rw [rng_len] at h1
  refine ⟨l, S', ⟨h1, h2⟩, ad, ?_⟩
  rw [lev_step]
  simp [d__law_step, mDef, mSeq, mRet, mRetL, mRetV, mRetN, mIfS, mAsg, mNew, mAug, mSub, mApp, mExtN, mExtT, mPop, mDrop, mNext, mNever, mOp, mUn, mVar, mC, mQVar, mLVar, mIxV, mQE, mLE, mEN, asL, asQ, mTup, mLst, mDs, datas, mA0, mA1, mAV, mCat, mTB, mTru, tru, mTruQ, mAnd, mOr, mNot, mAndV, mOrV, mNotV, mIf, mChain, mLen, mAll, mAny, mBools, mSum, mList, mTuple, mB, fAbs, fInt, fMax2, fMin2, mIsi, fIsi, tyN, fAdd, fTT, fSub, fMulX, fMul, fRep, fII, fI0, bMul, bDiv, bMod, bPow, fDiv, fMod, fPow, fLt, fLe, fGt, fGe, fIs, fIsNot, fIsB, fNotB, fIsN, fNotN, isN, fNeg, fIx, mCall, mCallN, rtD, rtN, mgN, mg0, mg1, mgT, mO0, mO1, mSlT, mSlL, mYes, mR1, mR2, mNotT, mNotTQ, mSortI, mZip, mEnum, mInQ, mCatV, mCatX, mCatY, mSlV, mForV, mLcV, mIdx, mPopI, mRg1, mR3, mRevT, fBool, Option.bind, fEq, sh_int, ev_int, mLc, wipeR, bR (show m ≤ 1000 by omega), rng_len, show m ≤ 1000000 by omega, e, ad.take]
theorem step2 (n m k : Nat) (hm : 0 < m) (hm2 : m ≤ 4) (S : Sto) (h : Sg n S) : ∃ (l : List (List Nat)) (S' : Sto), (l.length = m ∧ ∀ r ∈ l, ltl m r) ∧ Ad n S S' ∧ (lev (k + 4))._law_step [.loc n, .d (.int 2), .d (.int m)] S = some (.val (.tuple (l.map pD)), S') := by
  obtain ⟨l, S', h1, h2, ad, e⟩ := lc_draw (n := n) pD (ltl m) (mg := mgN 3) (me := mCall 3 (lev (k + 3))._law_step (mAV 0 (mA1 (mOp fSub (mVar 1) (mC (.int 1))) (mAV 2 mA0)))) (ρ := [some (.loc n), some (.d (.int 2)), some (.d (.int m)), none]) (rng 0 m) (fun x _ S h => by
    obtain ⟨c, S', c1, ad, e⟩ := step1 n m k hm hm2 S h
    exact ⟨_, c, S', rfl, c1, ad, by simp [mDef, mSeq, mRet, mRetL, mRetV, mRetN, mIfS, mAsg, mNew, mAug, mSub, mApp, mExtN, mExtT, mPop, mDrop, mNext, mNever, mOp, mUn, mVar, mC, mQVar, mLVar, mIxV, mQE, mLE, mEN, asL, asQ, mTup, mLst, mDs, datas, mA0, mA1, mAV, mCat, mTB, mTru, tru, mTruQ, mAnd, mOr, mNot, mAndV, mOrV, mNotV, mIf, mChain, mLen, mAll, mAny, mBools, mSum, mList, mTuple, mB, fAbs, fInt, fMax2, fMin2, mIsi, fIsi, tyN, fAdd, fTT, fSub, fMulX, fMul, fRep, fII, fI0, bMul, bDiv, bMod, bPow, fDiv, fMod, fPow, fLt, fLe, fGt, fGe, fIs, fIsNot, fIsB, fNotB, fIsN, fNotN, isN, fNeg, fIx, mCall, mCallN, rtD, rtN, mgN, mg0, mg1, mgT, mO0, mO1, mSlT, mSlL, mYes, mR1, mR2, mNotT, mNotTQ, mSortI, mZip, mEnum, mInQ, mCatV, mCatX, mCatY, mSlV, mForV, mLcV, mIdx, mPopI, mRg1, mR3, mRevT, fBool, Option.bind, e]⟩) S h
  rw [rng_len] at h1
  refine ⟨l, S', ⟨h1, h2⟩, ad, ?_⟩
  rw [lev_step]
  simp [d__law_step, mDef, mSeq, mRet, mRetL, mRetV, mRetN, mIfS, mAsg, mNew, mAug, mSub, mApp, mExtN, mExtT, mPop, mDrop, mNext, mNever, mOp, mUn, mVar, mC, mQVar, mLVar, mIxV, mQE, mLE, mEN, asL, asQ, mTup, mLst, mDs, datas, mA0, mA1, mAV, mCat, mTB, mTru, tru, mTruQ, mAnd, mOr, mNot, mAndV, mOrV, mNotV, mIf, mChain, mLen, mAll, mAny, mBools, mSum, mList, mTuple, mB, fAbs, fInt, fMax2, fMin2, mIsi, fIsi, tyN, fAdd, fTT, fSub, fMulX, fMul, fRep, fII, fI0, bMul, bDiv, bMod, bPow, fDiv, fMod, fPow, fLt, fLe, fGt, fGe, fIs, fIsNot, fIsB, fNotB, fIsN, fNotN, isN, fNeg, fIx, mCall, mCallN, rtD, rtN, mgN, mg0, mg1, mgT, mO0, mO1, mSlT, mSlL, mYes, mR1, mR2, mNotT, mNotTQ, mSortI, mZip, mEnum, mInQ, mCatV, mCatX, mCatY, mSlV, mForV, mLcV, mIdx, mPopI, mRg1, mR3, mRevT, fBool, Option.bind, fEq, sh_int, ev_int, mLc, wipeR, bR (show m ≤ 1000 by omega), rng_len, show m ≤ 1000000 by omega, e, ad.take]
theorem step_sp (n m k : Nat) (hm : 0 < m) (hm2 : m ≤ 4) (a : Int) (ha : 0 ≤ a ∧ a ≤ 2) (S : Sto) (h : Sg n S) : ∃ (s : Stp) (S' : Sto), s.ok m a ∧ Ad n S S' ∧ (lev (k + 4))._law_step [.loc n, .d (.int a), .d (.int m)] S = some (.val s.d, S') := by
  have : a = 0 ∨ a = 1 ∨ a = 2 := by omega
  rcases this with rfl | rfl | rfl
  · obtain ⟨c, S', h1, ad, e⟩ := step0 n m (k + 2) hm hm2 S h
    exact ⟨.s0 c, S', ⟨rfl, h1⟩, ad, e⟩
  · obtain ⟨c, S', h1, ad, e⟩ := step1 n m (k + 1) hm hm2 S h
    exact ⟨.s1 c, S', ⟨rfl, h1⟩, ad, e⟩
  · obtain ⟨c, S', h1, ad, e⟩ := step2 n m k hm hm2 S h
    exact ⟨.s2 c, S', ⟨rfl, h1⟩, ad, e⟩
end G
set_option linter.all false
set_option autoImplicit false
set_option maxRecDepth 100000
set_option maxHeartbeats 2000000
namespace G
open PySem L2
structure Ar (A : List Int) : Prop where
  leaf : ∃ i : Nat, A[i]? = some 0
  le : ∀ a ∈ A, 0 ≤ a ∧ a ≤ 2
  len : 1 ≤ A.length ∧ A.length ≤ 4
def ars : List (List Int) := [[0, 0, 2], [0, 1], [0, 2], [0, 1, 2], [2, 0, 1], [0, 0, 1]]
theorem ars_ar : ∀ A ∈ ars, Ar A := by
  intro A h
  simp only [ars, List.mem_cons, List.not_mem_nil, or_false] at h
  rcases h with rfl | rfl | rfl | rfl | rfl | rfl
  · exact ⟨⟨0, rfl⟩, by decide, by decide⟩
  · exact ⟨⟨0, rfl⟩, by decide, by decide⟩
  · exact ⟨⟨0, rfl⟩, by decide, by decide⟩
  · exact ⟨⟨0, rfl⟩, by decide, by decide⟩
  · exact ⟨⟨1, rfl⟩, by decide, by decide⟩
  · exact ⟨⟨0, rfl⟩, by decide, by decide⟩
inductive StOk (m : Nat) : List Int → List Stp → Prop
  | nil : StOk m [] []
  | cons {a : Int} {s : Stp} {A : List Int} {r : List Stp} : s.ok m a → StOk m A r → StOk m (a :: A) (s :: r)
theorem StOk.len {m : Nat} {A : List Int} {r : List Stp} (h : StOk m A r) : r.length = A.length := by
  induction h with
  | nil => rfl
  | cons _ _ ih => simp [ih]
theorem StOk.get {m : Nat} {A : List Int} {r : List Stp} (h : StOk m A r) : ∀ {i : Nat} {a : Int}, A[i]? = some a → ∃ s, r[i]? = some s ∧ s.ok m a := by
  induction h with
  | nil => intro i a e; cases e
  | cons h1 h2 ih =>
    intro i a e
    cases i with
    | zero => cases e; exact ⟨_, rfl, h1⟩
    | succ i => exact ih e
def auD (A : List Int) (good : List Bool) (sts : List Stp) : D := .tuple [dA A, .tuple (good.map .bool), .tuple (sts.map Stp.d)]
structure AuOk (A : List Int) (good : List Bool) (sts : List Stp) : Prop where
  ar : Ar A
  len : 1 ≤ good.length ∧ good.length ≤ 4
  st : StOk good.length A sts
/-- draws along a list -/
theorem lc_drawA {β α : Type} (g : β → D) (f : α → D) (R : β → α → Prop) {n : Nat} {mg : MG} {me : ME} {ρ : Rho} : ∀ (ys : List β), (∀ y ∈ ys, ∀ S, Sg n S → ∃ ρ1 v S', mg (g y) ρ = some ρ1 ∧ R y v ∧ Ad n S S' ∧ me ρ1 S = some (f v, S')) → ∀ (S : Sto), Sg n S →
    ∃ (vs : List α) (S' : Sto), vs.length = ys.length ∧ (∀ (i : Nat) (y : β), ys[i]? = some y → ∃ v : α, vs[i]? = some v ∧ R y v) ∧ Ad n S S' ∧ lcRun mg mYes me (ys.map g) ρ S = some (vs.map f, S')
  | [], hb, S, h => ⟨[], S, rfl, (fun i y e => by cases e), Ad.refl h, rfl⟩
  | y :: ys, hb, S, h => by
    obtain ⟨ρ1, v, S1, e1, p, ad, e2⟩ := hb y List.mem_cons_self S h
    obtain ⟨vs, S2, h1, h2, ad2, e3⟩ := lc_drawA g f R ys (fun y hy => hb y (List.mem_cons_of_mem _ hy)) S1 ad.sg
    refine ⟨v :: vs, S2, by simp [h1], fun i z e => ?_, ad.trans ad2, ?_⟩
    · cases i with
      | zero => cases e; exact ⟨v, rfl, p⟩
      | succ i => exact h2 i z e
    · simp [lcRun, mYes, e1, e2, e3]
theorem stOk_of {m : Nat} : ∀ {A : List Int} {sts : List Stp}, sts.length = A.length → (∀ (i : Nat) (a : Int), A[i]? = some a → ∃ s : Stp, sts[i]? = some s ∧ s.ok m a) → StOk m A sts
  | [], [], _, _ => .nil
  | a :: A, s :: sts, hl, h => by
    obtain ⟨s', e, o⟩ := h 0 a rfl
    cases e
    exact .cons o (stOk_of (by simpa using hl) fun i b e => h (i + 1) b e)
theorem automaton_sp (n k most : Nat) (h1 : 1 ≤ most) (h4 : most ≤ 4) (hm2 : 2 ≤ most) (S : Sto) (h : Sg n S) : ∃ A good sts S', AuOk A good sts ∧ Ad n S S' ∧ d__law_automaton d__law_next (lev (k + 4))._law_step [.loc n, .d (.int most)] S = some (.val (auD A good sts), S') := by
  obtain ⟨g, S1, g0, g1, ad, e⟩ := next_sp 6 n S h (by omega) (by omega)
  obtain ⟨v, hv, e2⟩ := at_get (xs := ars.map dA) g0 (by simpa [ars] using g1)
  obtain ⟨A, hA, rfl⟩ := List.mem_map.mp hv
  have hA := ars_ar A hA
  have hl := hA.len
  obtain ⟨g2, S2, a0, a1, ad2, e3⟩ := next_sp most n S1 ad.sg (by omega) (by omega)
  obtain ⟨g3, S3, b0, b1, ad3, e4⟩ := next_sp 3 n S2 ad2.sg (by omega) (by omega)
  obtain ⟨m, hm, m1, m4⟩ : ∃ m : Nat, (m : Int) = (if 0 < g3 then (if 1 + g2 > 2 then 1 + g2 else 2) else 1 + g2) ∧ 1 ≤ m ∧ m ≤ 4 := by
    refine ⟨(if 0 < g3 then (if 1 + g2 > 2 then 1 + g2 else 2) else 1 + g2).toNat, ?_⟩
    split
    · split <;> omega
    · omega
  have ad123 := (ad.trans ad2).trans ad3
  obtain ⟨sts, S4, l1, l2, ad4, e5⟩ := lc_drawA (n := n) PyData.int Stp.d (fun a s => s.ok m a) (mg := mgN 5) (me := mCall 3 (lev (k + 4))._law_step (mAV 0 (mAV 5 (mAV 3 mA0)))) (ρ := [some (.loc n), some (.d (.int most)), some (.d (dA A)), some (.d (.int m)), none, none, none]) A (fun a ha S h => by
    obtain ⟨s, S', o, ad, e⟩ := step_sp n m k (by omega) m4 a (hA.le a ha) S h
    exact ⟨_, s, S', rfl, o, ad, by simp [mDef, mSeq, mRet, mRetL, mRetV, mRetN, mIfS, mAsg, mNew, mAug, mSub, mApp, mExtN, mExtT, mPop, mDrop, mNext, mNever, mOp, mUn, mVar, mC, mQVar, mLVar, mIxV, mQE, mLE, mEN, asL, asQ, mTup, mLst, mDs, datas, mA0, mA1, mAV, mCat, mTB, mTru, tru, mTruQ, mAnd, mOr, mNot, mAndV, mOrV, mNotV, mIf, mChain, mLen, mAll, mAny, mBools, mSum, mList, mTuple, mB, fAbs, fInt, fMax2, fMin2, mIsi, fIsi, tyN, fAdd, fTT, fSub, fMulX, fMul, fRep, fII, fI0, bMul, bDiv, bMod, bPow, fDiv, fMod, fPow, fLt, fLe, fGt, fGe, fIs, fIsNot, fIsB, fNotB, fIsN, fNotN, isN, fNeg, fIx, mCall, mCallN, rtD, rtN, mgN, mg0, mg1, mgT, mO0, mO1, mSlT, mSlL, mYes, mR1, mR2, mNotT, mNotTQ, mSortI, mZip, mEnum, mInQ, mCatV, mCatX, mCatY, mSlV, mForV, mLcV, mIdx, mPopI, mRg1, mR3, mRevT, fBool, Option.bind, e]⟩) S3 ad123.sg
  obtain ⟨good, S5, k1, k2, ad5, e6⟩ := lc_draw (n := n) PyData.bool (fun _ => True) (mg := mgN 6) (me := mOp fEq (mCall 2 d__law_next (mAV 0 (mA1 (mC (.int 2)) mA0))) (mC (.int 1))) (ρ := [some (.loc n), some (.d (.int most)), some (.d (dA A)), some (.d (.int m)), some (.d (.tuple (sts.map Stp.d))), none, none]) (rng 0 m) (fun x _ S h => by
    obtain ⟨g, S', g0, g1, ad, e⟩ := next_sp 2 n S h (by omega) (by omega)
    exact ⟨_, decide (g = 1), S', rfl, trivial, ad, by simp [mDef, mSeq, mRet, mRetL, mRetV, mRetN, mIfS, mAsg, mNew, mAug, mSub, mApp, mExtN, mExtT, mPop, mDrop, mNext, mNever, mOp, mUn, mVar, mC, mQVar, mLVar, mIxV, mQE, mLE, mEN, asL, asQ, mTup, mLst, mDs, datas, mA0, mA1, mAV, mCat, mTB, mTru, tru, mTruQ, mAnd, mOr, mNot, mAndV, mOrV, mNotV, mIf, mChain, mLen, mAll, mAny, mBools, mSum, mList, mTuple, mB, fAbs, fInt, fMax2, fMin2, mIsi, fIsi, tyN, fAdd, fTT, fSub, fMulX, fMul, fRep, fII, fI0, bMul, bDiv, bMod, bPow, fDiv, fMod, fPow, fLt, fLe, fGt, fGe, fIs, fIsNot, fIsB, fNotB, fIsN, fNotN, isN, fNeg, fIx, mCall, mCallN, rtD, rtN, mgN, mg0, mg1, mgT, mO0, mO1, mSlT, mSlL, mYes, mR1, mR2, mNotT, mNotTQ, mSortI, mZip, mEnum, mInQ, mCatV, mCatX, mCatY, mSlV, mForV, mLcV, mIdx, mPopI, mRg1, mR3, mRevT, fBool, Option.bind, e, fEq, sh_int, ev_int]⟩) S4 ad4.sg
  rw [rng_len] at k1
  have adf := (ad123.trans ad4).trans ad5
  refine ⟨A, good, sts, S5, ⟨hA, by omega, by rw [k1]; exact stOk_of l1 l2⟩, adf, ?_⟩
  simp only [ars, dA, List.map_cons, List.map_nil] at e2
  by_cases c : 0 < g3
  · rw [if_pos c] at hm
    simp [d__law_automaton, mDef, mSeq, mRet, mRetL, mRetV, mRetN, mIfS, mAsg, mNew, mAug, mSub, mApp, mExtN, mExtT, mPop, mDrop, mNext, mNever, mOp, mUn, mVar, mC, mQVar, mLVar, mIxV, mQE, mLE, mEN, asL, asQ, mTup, mLst, mDs, datas, mA0, mA1, mAV, mCat, mTB, mTru, tru, mTruQ, mAnd, mOr, mNot, mAndV, mOrV, mNotV, mIf, mChain, mLen, mAll, mAny, mBools, mSum, mList, mTuple, mB, fAbs, fInt, fMax2, fMin2, mIsi, fIsi, tyN, fAdd, fTT, fSub, fMulX, fMul, fRep, fII, fI0, bMul, bDiv, bMod, bPow, fDiv, fMod, fPow, fLt, fLe, fGt, fGe, fIs, fIsNot, fIsB, fNotB, fIsN, fNotN, isN, fNeg, fIx, mCall, mCallN, rtD, rtN, mgN, mg0, mg1, mgT, mO0, mO1, mSlT, mSlL, mYes, mR1, mR2, mNotT, mNotTQ, mSortI, mZip, mEnum, mInQ, mCatV, mCatX, mCatY, mSlV, mForV, mLcV, mIdx, mPopI, mRg1, mR3, mRevT, fBool, Option.bind, e, e2, e3, e4, c, ← hm, mLc, wipeR, e5, e6, show A.length ≤ 1000000 by omega, bR (show m ≤ 1000 by omega), rng_len, show m ≤ 1000000 by omega, adf.take, auD]
  · rw [if_neg c] at hm
    simp [d__law_automaton, mDef, mSeq, mRet, mRetL, mRetV, mRetN, mIfS, mAsg, mNew, mAug, mSub, mApp, mExtN, mExtT, mPop, mDrop, mNext, mNever, mOp, mUn, mVar, mC, mQVar, mLVar, mIxV, mQE, mLE, mEN, asL, asQ, mTup, mLst, mDs, datas, mA0, mA1, mAV, mCat, mTB, mTru, tru, mTruQ, mAnd, mOr, mNot, mAndV, mOrV, mNotV, mIf, mChain, mLen, mAll, mAny, mBools, mSum, mList, mTuple, mB, fAbs, fInt, fMax2, fMin2, mIsi, fIsi, tyN, fAdd, fTT, fSub, fMulX, fMul, fRep, fII, fI0, bMul, bDiv, bMod, bPow, fDiv, fMod, fPow, fLt, fLe, fGt, fGe, fIs, fIsNot, fIsB, fNotB, fIsN, fNotN, isN, fNeg, fIx, mCall, mCallN, rtD, rtN, mgN, mg0, mg1, mgT, mO0, mO1, mSlT, mSlL, mYes, mR1, mR2, mNotT, mNotTQ, mSortI, mZip, mEnum, mInQ, mCatV, mCatX, mCatY, mSlV, mForV, mLcV, mIdx, mPopI, mRg1, mR3, mRevT, fBool, Option.bind, e, e2, e3, e4, c, ← hm, mLc, wipeR, e5, e6, show A.length ≤ 1000000 by omega, bR (show m ≤ 1000 by omega), rng_len, show m ≤ 1000000 by omega, adf.take, auD]
end G
set_option linter.all false
set_option autoImplicit false
set_option maxRecDepth 100000
set_option maxHeartbeats 2000000
namespace G
open PySem L2
theorem isAr_dA {A : List Int} (hA : Ar A) : isAr (dA A) = true ∧ okv (dA A) = true := by
  have hl := hA.len
  refine ⟨?_, ?_⟩
  · show (decide (1 ≤ (A.map PyData.int).length) && decide ((A.map PyData.int).length ≤ 4) && (A.map PyData.int).all fun x => isInt x 0 2) = true
    rw [Bool.and_eq_true, Bool.and_eq_true, decide_eq_true_eq, decide_eq_true_eq, List.length_map, List.all_eq_true]
    refine ⟨hl, fun x hx => ?_⟩
    obtain ⟨a, ha, rfl⟩ := List.mem_map.mp hx
    have := hA.le a ha
    show (decide (0 ≤ a) && decide (a ≤ 2)) = true
    rw [Bool.and_eq_true, decide_eq_true_eq, decide_eq_true_eq]
    exact this
  · show ((A.map PyData.int).all notDict && decide ((A.map PyData.int).length ≤ 1000000)) = true
    rw [Bool.and_eq_true, decide_eq_true_eq, List.length_map, List.all_eq_true]
    refine ⟨fun x hx => ?_, by omega⟩
    obtain ⟨a, ha, rfl⟩ := List.mem_map.mp hx
    rfl
abbrev arInts : Fn := d_are_integers d_is_integer
theorem lev_entry (k : Nat) : (lev (k + 2))._is_entry = d__is_entry d_is_integer d_is_tuple (lev (k + 1))._is_entry := rfl
theorem all_tt {α : Type} (xs : List α) : (xs.map fun _ => true).all id = true := by rw [List.all_eq_true]; intro x hx; obtain ⟨_, _, rfl⟩ := List.mem_map.mp hx; rfl
theorem bools_c {α : Type} (xs : List α) : bools (xs.map fun _ => PyData.bool true) = some (xs.map fun _ => true) := bools_map (fun _ => true) xs
theorem bools_o {α β : Type} (f : α → β) (xs : List α) : bools (List.map ((fun _ => PyData.bool true) ∘ f) xs) = some (xs.map fun _ => true) := bools_map (fun _ => true) xs
theorem entry0 {m c : Nat} (hc : c < m) (k : Nat) (S : Sto) : (lev (k + 2))._is_entry [.d (.int c), .d (.int 0), .d (.int m)] S = some (.val (.bool true), S) := by
  have e := is_integer_eq (.int c) 0 ((m : Int) - 1) S rfl
  have e2 : isInt (.int c) 0 ((m : Int) - 1) = true := by
    show (decide (0 ≤ (c : Int)) && decide ((c : Int) ≤ (m : Int) - 1)) = true
    rw [Bool.and_eq_true, decide_eq_true_eq, decide_eq_true_eq]
    omega
  rw [e2] at e
  rw [lev_entry]
  simp [d__is_entry, mDef, mSeq, mRet, mRetL, mRetV, mRetN, mIfS, mAsg, mNew, mAug, mSub, mApp, mExtN, mExtT, mPop, mDrop, mNext, mNever, mOp, mUn, mVar, mC, mQVar, mLVar, mIxV, mQE, mLE, mEN, asL, asQ, mTup, mLst, mDs, datas, mA0, mA1, mAV, mCat, mTB, mTru, tru, mTruQ, mAnd, mOr, mNot, mAndV, mOrV, mNotV, mIf, mChain, mLen, mAll, mAny, mBools, mSum, mList, mTuple, mB, fAbs, fInt, fMax2, fMin2, mIsi, fIsi, tyN, fAdd, fTT, fSub, fMulX, fMul, fRep, fII, fI0, bMul, bDiv, bMod, bPow, fDiv, fMod, fPow, fLt, fLe, fGt, fGe, fIs, fIsNot, fIsB, fNotB, fIsN, fNotN, isN, fNeg, fIx, mCall, mCallN, rtD, rtN, mgN, mg0, mg1, mgT, mO0, mO1, mSlT, mSlL, mYes, mR1, mR2, mNotT, mNotTQ, mSortI, mZip, mEnum, mInQ, mCatV, mCatX, mCatY, mSlV, mForV, mLcV, mIdx, mPopI, mRg1, mR3, mRevT, fBool, Option.bind, fEq, sh_int, ev_int, e]
theorem entry1 {m : Nat} {l : List Nat} (hl : ltl m l) (hm : m ≤ 1000) (k : Nat) (S : Sto) : (lev (k + 3))._is_entry [.d (pD l), .d (.int 1), .d (.int m)] S = some (.val (.bool true), S) := by
  have e := is_tuple_eq (pD l) m m S rfl
  have key := lc_map (mg := mgN 3) (me := mCall 3 (lev (k + 2))._is_entry (mAV 3 (mA1 (mOp fSub (mVar 1) (mC (.int 1))) (mAV 2 mA0)))) (ρ := [some (.d (pD l)), some (.d (.int 1)), some (.d (.int m)), none]) (S := S) (fun _ => .bool true) (fun d => [some (.d (pD l)), some (.d (.int 1)), some (.d (.int m)), some (.d d)]) (xs := iD l) (fun x hx => by simp [mgN]) (fun x hx => by
    obtain ⟨c, hc, rfl⟩ := List.mem_map.mp hx
    simp [mDef, mSeq, mRet, mRetL, mRetV, mRetN, mIfS, mAsg, mNew, mAug, mSub, mApp, mExtN, mExtT, mPop, mDrop, mNext, mNever, mOp, mUn, mVar, mC, mQVar, mLVar, mIxV, mQE, mLE, mEN, asL, asQ, mTup, mLst, mDs, datas, mA0, mA1, mAV, mCat, mTB, mTru, tru, mTruQ, mAnd, mOr, mNot, mAndV, mOrV, mNotV, mIf, mChain, mLen, mAll, mAny, mBools, mSum, mList, mTuple, mB, fAbs, fInt, fMax2, fMin2, mIsi, fIsi, tyN, fAdd, fTT, fSub, fMulX, fMul, fRep, fII, fI0, bMul, bDiv, bMod, bPow, fDiv, fMod, fPow, fLt, fLe, fGt, fGe, fIs, fIsNot, fIsB, fNotB, fIsN, fNotN, isN, fNeg, fIx, mCall, mCallN, rtD, rtN, mgN, mg0, mg1, mgT, mO0, mO1, mSlT, mSlL, mYes, mR1, mR2, mNotT, mNotTQ, mSortI, mZip, mEnum, mInQ, mCatV, mCatX, mCatY, mSlV, mForV, mLcV, mIdx, mPopI, mRg1, mR3, mRevT, fBool, Option.bind, entry0 (hl.2 c hc) k S])
  rw [lev_entry]
  simp [d__is_entry, mDef, mSeq, mRet, mRetL, mRetV, mRetN, mIfS, mAsg, mNew, mAug, mSub, mApp, mExtN, mExtT, mPop, mDrop, mNext, mNever, mOp, mUn, mVar, mC, mQVar, mLVar, mIxV, mQE, mLE, mEN, asL, asQ, mTup, mLst, mDs, datas, mA0, mA1, mAV, mCat, mTB, mTru, tru, mTruQ, mAnd, mOr, mNot, mAndV, mOrV, mNotV, mIf, mChain, mLen, mAll, mAny, mBools, mSum, mList, mTuple, mB, fAbs, fInt, fMax2, fMin2, mIsi, fIsi, tyN, fAdd, fTT, fSub, fMulX, fMul, fRep, fII, fI0, bMul, bDiv, bMod, bPow, fDiv, fMod, fPow, fLt, fLe, fGt, fGe, fIs, fIsNot, fIsB, fNotB, fIsN, fNotN, isN, fNeg, fIx, mCall, mCallN, rtD, rtN, mgN, mg0, mg1, mgT, mO0, mO1, mSlT, mSlL, mYes, mR1, mR2, mNotT, mNotTQ, mSortI, mZip, mEnum, mInQ, mCatV, mCatX, mCatY, mSlV, mForV, mLcV, mIdx, mPopI, mRg1, mR3, mRevT, fBool, Option.bind, fEq, sh_int, ev_int, e, isTup, hl.1, mLc, wipeR, show m ≤ 1000000 by omega, key, bools_o, bools_c, all_tt]
theorem entry2 {m : Nat} {l : List (List Nat)} (hl : l.length = m ∧ ∀ r ∈ l, ltl m r) (hm : m ≤ 1000) (k : Nat) (S : Sto) : (lev (k + 4))._is_entry [.d (.tuple (l.map pD)), .d (.int 2), .d (.int m)] S = some (.val (.bool true), S) := by
  have e := is_tuple_eq (.tuple (l.map pD)) m m S rfl
  have key := lc_map (mg := mgN 3) (me := mCall 3 (lev (k + 3))._is_entry (mAV 3 (mA1 (mOp fSub (mVar 1) (mC (.int 1))) (mAV 2 mA0)))) (ρ := [some (.d (.tuple (l.map pD))), some (.d (.int 2)), some (.d (.int m)), none]) (S := S) (fun _ => .bool true) (fun d => [some (.d (.tuple (l.map pD))), some (.d (.int 2)), some (.d (.int m)), some (.d d)]) (xs := l.map pD) (fun x hx => by simp [mgN]) (fun x hx => by
    obtain ⟨c, hc, rfl⟩ := List.mem_map.mp hx
    simp [mDef, mSeq, mRet, mRetL, mRetV, mRetN, mIfS, mAsg, mNew, mAug, mSub, mApp, mExtN, mExtT, mPop, mDrop, mNext, mNever, mOp, mUn, mVar, mC, mQVar, mLVar, mIxV, mQE, mLE, mEN, asL, asQ, mTup, mLst, mDs, datas, mA0, mA1, mAV, mCat, mTB, mTru, tru, mTruQ, mAnd, mOr, mNot, mAndV, mOrV, mNotV, mIf, mChain, mLen, mAll, mAny, mBools, mSum, mList, mTuple, mB, fAbs, fInt, fMax2, fMin2, mIsi, fIsi, tyN, fAdd, fTT, fSub, fMulX, fMul, fRep, fII, fI0, bMul, bDiv, bMod, bPow, fDiv, fMod, fPow, fLt, fLe, fGt, fGe, fIs, fIsNot, fIsB, fNotB, fIsN, fNotN, isN, fNeg, fIx, mCall, mCallN, rtD, rtN, mgN, mg0, mg1, mgT, mO0, mO1, mSlT, mSlL, mYes, mR1, mR2, mNotT, mNotTQ, mSortI, mZip, mEnum, mInQ, mCatV, mCatX, mCatY, mSlV, mForV, mLcV, mIdx, mPopI, mRg1, mR3, mRevT, fBool, Option.bind, entry1 (hl.2 c hc) hm k S])
  rw [lev_entry]
  simp [d__is_entry, mDef, mSeq, mRet, mRetL, mRetV, mRetN, mIfS, mAsg, mNew, mAug, mSub, mApp, mExtN, mExtT, mPop, mDrop, mNext, mNever, mOp, mUn, mVar, mC, mQVar, mLVar, mIxV, mQE, mLE, mEN, asL, asQ, mTup, mLst, mDs, datas, mA0, mA1, mAV, mCat, mTB, mTru, tru, mTruQ, mAnd, mOr, mNot, mAndV, mOrV, mNotV, mIf, mChain, mLen, mAll, mAny, mBools, mSum, mList, mTuple, mB, fAbs, fInt, fMax2, fMin2, mIsi, fIsi, tyN, fAdd, fTT, fSub, fMulX, fMul, fRep, fII, fI0, bMul, bDiv, bMod, bPow, fDiv, fMod, fPow, fLt, fLe, fGt, fGe, fIs, fIsNot, fIsB, fNotB, fIsN, fNotN, isN, fNeg, fIx, mCall, mCallN, rtD, rtN, mgN, mg0, mg1, mgT, mO0, mO1, mSlT, mSlL, mYes, mR1, mR2, mNotT, mNotTQ, mSortI, mZip, mEnum, mInQ, mCatV, mCatX, mCatY, mSlV, mForV, mLcV, mIdx, mPopI, mRg1, mR3, mRevT, fBool, Option.bind, fEq, sh_int, ev_int, e, isTup, hl.1, mLc, wipeR, show m ≤ 1000000 by omega, key, bools_o, bools_c, all_tt]
theorem entry_eq {m : Nat} {a : Int} {s : Stp} (h : s.ok m a) (hm : m ≤ 1000) (k : Nat) (S : Sto) : (lev (k + 4))._is_entry [.d s.d, .d (.int a), .d (.int m)] S = some (.val (.bool true), S) := by
  cases s with
  | s0 c => obtain ⟨rfl, h⟩ := h; exact entry0 h (k + 2) S
  | s1 l => obtain ⟨rfl, h⟩ := h; exact entry1 h hm (k + 1) S
  | s2 l => obtain ⟨rfl, h⟩ := h; exact entry2 h hm k S
theorem st_mem {m : Nat} {A : List Int} {r : List Stp} (h : StOk m A r) : ∀ x ∈ zipD (r.map Stp.d) (A.map .int), ∃ (e : Stp) (a : Int), x = .tuple [e.d, .int a] ∧ e.ok m a := by
  induction h with
  | nil => intro x hx; cases hx
  | @cons a e A r h1 h2 ih =>
    intro x hx
    rcases List.mem_cons.mp hx with rfl | hx
    · exact ⟨e, a, rfl, h1⟩
    · exact ih x hx
theorem zip_len {m : Nat} {A : List Int} {r : List Stp} (h : StOk m A r) : (zipD (r.map Stp.d) (A.map .int)).length = A.length := by rw [zipD_len, List.length_map, List.length_map, h.len, Nat.min_self]
theorem a30' {α : Type} (x y z : α) : atI [x, y, z] 0 = some x := rfl
abbrev isAut (k : Nat) : Fn := d_is_automaton d_is_tuple (d_is_arities d_is_tuple arInts) (lev (k + 4))._is_entry
theorem automaton_eq {A : List Int} {good : List Bool} {sts : List Stp} (h : AuOk A good sts) (k : Nat) (S : Sto) : isAut k [.d (auD A good sts)] S = some (.val (.bool true), S) := by
  have hl := h.ar.len
  have hg := h.len
  have hs := h.st.len
  obtain ⟨b1, b2, b3, b4, b5, b6⟩ := kit2
  have e0 := is_arities_eq (dA A) S (isAr_dA h.ar).2
  rw [(isAr_dA h.ar).1] at e0
  have e1 := is_tuple_eq (auD A good sts) 3 3 S rfl
  have e2 := is_tuple_eq (.tuple (good.map .bool)) 1 4 S rfl
  have e3 := is_tuple_eq (.tuple (sts.map Stp.d)) A.length A.length S rfl
  have key1 := fun w1 w2 w3 w5 w6 => lc_map (mg := mgN 4) (me := mIsi "bool" (mVar 4)) (ρ := [some (.d (auD A good sts)), w1, w2, w3, none, w5, w6]) (S := S) (fun _ => .bool true) (fun d => [some (.d (auD A good sts)), w1, w2, w3, some (.d d), w5, w6]) (xs := good.map .bool) (fun x hx => by simp [mgN]) (fun x hx => by
    obtain ⟨c, hc, rfl⟩ := List.mem_map.mp hx
    simp [mDef, mSeq, mRet, mRetL, mRetV, mRetN, mIfS, mAsg, mNew, mAug, mSub, mApp, mExtN, mExtT, mPop, mDrop, mNext, mNever, mOp, mUn, mVar, mC, mQVar, mLVar, mIxV, mQE, mLE, mEN, asL, asQ, mTup, mLst, mDs, datas, mA0, mA1, mAV, mCat, mTB, mTru, tru, mTruQ, mAnd, mOr, mNot, mAndV, mOrV, mNotV, mIf, mChain, mLen, mAll, mAny, mBools, mSum, mList, mTuple, mB, fAbs, fInt, fMax2, fMin2, mIsi, fIsi, tyN, fAdd, fTT, fSub, fMulX, fMul, fRep, fII, fI0, bMul, bDiv, bMod, bPow, fDiv, fMod, fPow, fLt, fLe, fGt, fGe, fIs, fIsNot, fIsB, fNotB, fIsN, fNotN, isN, fNeg, fIx, mCall, mCallN, rtD, rtN, mgN, mg0, mg1, mgT, mO0, mO1, mSlT, mSlL, mYes, mR1, mR2, mNotT, mNotTQ, mSortI, mZip, mEnum, mInQ, mCatV, mCatX, mCatY, mSlV, mForV, mLcV, mIdx, mPopI, mRg1, mR3, mRevT, fBool, Option.bind, b2])
  have key2 := fun w1 w3 w4 => lc_map (mg := mgT 2 (mg1 (mgN 5) (mg1 (mgN 6) mg0))) (me := mCall 3 (lev (k + 4))._is_entry (mAV 5 (mAV 6 (mA1 (mLen (mQVar 2)) mA0)))) (ρ := [some (.d (auD A good sts)), w1, some (.d (.tuple (good.map .bool))), w3, w4, none, none]) (S := S) (fun _ => .bool true) (fun d => match d with | .tuple [x, y] => [some (.d (auD A good sts)), w1, some (.d (.tuple (good.map .bool))), w3, w4, some (.d x), some (.d y)] | _ => []) (xs := zipD (sts.map Stp.d) (A.map .int)) (fun x hx => by
      obtain ⟨e, a, rfl, _⟩ := st_mem h.st x hx
      simp [mgT, mg1, mg0, mgN, Option.bind]) (fun x hx => by
      obtain ⟨e, a, rfl, he⟩ := st_mem h.st x hx
      simp [mDef, mSeq, mRet, mRetL, mRetV, mRetN, mIfS, mAsg, mNew, mAug, mSub, mApp, mExtN, mExtT, mPop, mDrop, mNext, mNever, mOp, mUn, mVar, mC, mQVar, mLVar, mIxV, mQE, mLE, mEN, asL, asQ, mTup, mLst, mDs, datas, mA0, mA1, mAV, mCat, mTB, mTru, tru, mTruQ, mAnd, mOr, mNot, mAndV, mOrV, mNotV, mIf, mChain, mLen, mAll, mAny, mBools, mSum, mList, mTuple, mB, fAbs, fInt, fMax2, fMin2, mIsi, fIsi, tyN, fAdd, fTT, fSub, fMulX, fMul, fRep, fII, fI0, bMul, bDiv, bMod, bPow, fDiv, fMod, fPow, fLt, fLe, fGt, fGe, fIs, fIsNot, fIsB, fNotB, fIsN, fNotN, isN, fNeg, fIx, mCall, mCallN, rtD, rtN, mgN, mg0, mg1, mgT, mO0, mO1, mSlT, mSlL, mYes, mR1, mR2, mNotT, mNotTQ, mSortI, mZip, mEnum, mInQ, mCatV, mCatX, mCatY, mSlV, mForV, mLcV, mIdx, mPopI, mRg1, mR3, mRevT, fBool, Option.bind, entry_eq he (by omega) k S])
  have hz := zip_len h.st
  simp only [auD] at e1 key1 key2
  simp [isAut, d_is_automaton, mDef, mSeq, mRet, mRetL, mRetV, mRetN, mIfS, mAsg, mNew, mAug, mSub, mApp, mExtN, mExtT, mPop, mDrop, mNext, mNever, mOp, mUn, mVar, mC, mQVar, mLVar, mIxV, mQE, mLE, mEN, asL, asQ, mTup, mLst, mDs, datas, mA0, mA1, mAV, mCat, mTB, mTru, tru, mTruQ, mAnd, mOr, mNot, mAndV, mOrV, mNotV, mIf, mChain, mLen, mAll, mAny, mBools, mSum, mList, mTuple, mB, fAbs, fInt, fMax2, fMin2, mIsi, fIsi, tyN, fAdd, fTT, fSub, fMulX, fMul, fRep, fII, fI0, bMul, bDiv, bMod, bPow, fDiv, fMod, fPow, fLt, fLe, fGt, fGe, fIs, fIsNot, fIsB, fNotB, fIsN, fNotN, isN, fNeg, fIx, mCall, mCallN, rtD, rtN, mgN, mg0, mg1, mgT, mO0, mO1, mSlT, mSlL, mYes, mR1, mR2, mNotT, mNotTQ, mSortI, mZip, mEnum, mInQ, mCatV, mCatX, mCatY, mSlV, mForV, mLcV, mIdx, mPopI, mRg1, mR3, mRevT, fBool, Option.bind, auD, e0, e1, e2, e3, isTup, a30', a31, a32, show (1 : Int) ≤ good.length by omega, show (good.length : Int) ≤ 4 by omega, hs, mLc, wipeR, show good.length ≤ 1000000 by omega, key1, key2, bools_o, bools_c, all_tt, hz, show A.length ≤ 1000000 by omega, mZip, arInts]
end G
set_option linter.all false
set_option autoImplicit false
set_option maxRecDepth 100000
set_option maxHeartbeats 2000000
namespace G
open PySem L2
def nth (cs : List Nat) (i : Nat) : Nat := cs.getD i 0
def app : Stp → List Nat → Nat
  | .s0 c, _ => c
  | .s1 l, [q] => nth l q
  | .s2 l, [q, r] => nth (l.getD q []) r
  | _, _ => 0
theorem at_i {cs : List Nat} {i : Nat} (h : i < cs.length) : atI (iD cs) (i : Int) = some (.int (nth cs i : Nat)) := by
  unfold nth
  rw [atI_n (by omega) (by rw [List.length_map]; omega), Int.toNat_natCast, List.getElem?_map, List.getElem?_eq_getElem h, List.getD_eq_getElem?_getD, List.getElem?_eq_getElem h]
  rfl
theorem at_l {cs : List (List Nat)} {i : Nat} (h : i < cs.length) : atI (cs.map pD) (i : Int) = some (pD (cs.getD i [])) := by
  rw [atI_n (by omega) (by rw [List.length_map]; omega), Int.toNat_natCast, List.getElem?_map, List.getElem?_eq_getElem h, List.getD_eq_getElem?_getD, List.getElem?_eq_getElem h]
  rfl
theorem getD_mem {α : Type} {cs : List α} {i : Nat} {d : α} (h : i < cs.length) : cs.getD i d ∈ cs := by
  rw [List.getD_eq_getElem?_getD, List.getElem?_eq_getElem h]
  exact List.getElem_mem h
theorem app_lt {m : Nat} {a : Int} {s : Stp} (h : s.ok m a) {qs : List Nat} (hl : (qs.length : Int) = a) (hq : ∀ q ∈ qs, q < m) : app s qs < m := by
  cases s with
  | s0 c => exact h.2
  | s1 l =>
    obtain ⟨rfl, h1, h2⟩ := h
    match qs, hl, hq with
    | [q], _, hq =>
      exact h2 _ (getD_mem (by have := hq q (by simp); omega))
    | [], hl, _ => simp at hl
    | _ :: _ :: _, hl, _ => simp at hl; omega
  | s2 l =>
    obtain ⟨rfl, h1, h2⟩ := h
    match qs, hl, hq with
    | [q, r], _, hq =>
      have hr := h2 _ (getD_mem (d := []) (i := q) (cs := l) (by have := hq q (by simp); omega))
      exact hr.2 _ (getD_mem (by have := hq r (by simp); rw [hr.1]; omega))
    | [], hl, _ => simp at hl
    | [_], hl, _ => simp at hl
    | _ :: _ :: _ :: _, hl, _ => simp at hl; omega
/-- lead -/
theorem lead_eq {m : Nat} {a : Int} {s : Stp} (h : s.ok m a) {qs : List Nat} (hl : (qs.length : Int) = a) (hq : ∀ q ∈ qs, q < m) (S : Sto) : d_lead [.d s.d, .d (.list (iD qs))] S = some (.val (.int (app s qs)), S) := by
  cases s with
  | s0 c =>
    obtain ⟨rfl, h⟩ := h
    match qs, hl with
    | [], _ => simp [d_lead, mFor, forRun, mDef, mSeq, mRet, mRetL, mRetV, mRetN, mIfS, mAsg, mNew, mAug, mSub, mApp, mExtN, mExtT, mPop, mDrop, mNext, mNever, mOp, mUn, mVar, mC, mQVar, mLVar, mIxV, mQE, mLE, mEN, asL, asQ, mTup, mLst, mDs, datas, mA0, mA1, mAV, mCat, mTB, mTru, tru, mTruQ, mAnd, mOr, mNot, mAndV, mOrV, mNotV, mIf, mChain, mLen, mAll, mAny, mBools, mSum, mList, mTuple, mB, fAbs, fInt, fMax2, fMin2, mIsi, fIsi, tyN, fAdd, fTT, fSub, fMulX, fMul, fRep, fII, fI0, bMul, bDiv, bMod, bPow, fDiv, fMod, fPow, fLt, fLe, fGt, fGe, fIs, fIsNot, fIsB, fNotB, fIsN, fNotN, isN, fNeg, fIx, mCall, mCallN, rtD, rtN, mgN, mg0, mg1, mgT, mO0, mO1, mSlT, mSlL, mYes, mR1, mR2, mNotT, mNotTQ, mSortI, mZip, mEnum, mInQ, mCatV, mCatX, mCatY, mSlV, mForV, mLcV, mIdx, mPopI, mRg1, mR3, mRevT, fBool, Option.bind, Stp.d, app]
    | _ :: _, hl => simp at hl; omega
  | s1 l =>
    obtain ⟨rfl, h1, h2⟩ := h
    match qs, hl, hq with
    | [q], _, hq =>
      have e := at_i (cs := l) (i := q) (by have := hq q (by simp); omega)
      simp [d_lead, mFor, forRun, mDef, mSeq, mRet, mRetL, mRetV, mRetN, mIfS, mAsg, mNew, mAug, mSub, mApp, mExtN, mExtT, mPop, mDrop, mNext, mNever, mOp, mUn, mVar, mC, mQVar, mLVar, mIxV, mQE, mLE, mEN, asL, asQ, mTup, mLst, mDs, datas, mA0, mA1, mAV, mCat, mTB, mTru, tru, mTruQ, mAnd, mOr, mNot, mAndV, mOrV, mNotV, mIf, mChain, mLen, mAll, mAny, mBools, mSum, mList, mTuple, mB, fAbs, fInt, fMax2, fMin2, mIsi, fIsi, tyN, fAdd, fTT, fSub, fMulX, fMul, fRep, fII, fI0, bMul, bDiv, bMod, bPow, fDiv, fMod, fPow, fLt, fLe, fGt, fGe, fIs, fIsNot, fIsB, fNotB, fIsN, fNotN, isN, fNeg, fIx, mCall, mCallN, rtD, rtN, mgN, mg0, mg1, mgT, mO0, mO1, mSlT, mSlL, mYes, mR1, mR2, mNotT, mNotTQ, mSortI, mZip, mEnum, mInQ, mCatV, mCatX, mCatY, mSlV, mForV, mLcV, mIdx, mPopI, mRg1, mR3, mRevT, fBool, Option.bind, Stp.d, app, e]
    | [], hl, _ => simp at hl
    | _ :: _ :: _, hl, _ => simp at hl; omega
  | s2 l =>
    obtain ⟨rfl, h1, h2⟩ := h
    match qs, hl, hq with
    | [q, r], _, hq =>
      have hql : q < l.length := by have := hq q (by simp); omega
      have hr := h2 _ (getD_mem (d := []) hql)
      have e := at_l hql
      obtain ⟨row, hrow⟩ : ∃ row, l.getD q [] = row := ⟨_, rfl⟩
      have e2 := at_i (cs := l.getD q []) (i := r) (by have := hq r (by simp); rw [hr.1]; omega)
      rw [hrow] at e e2
      have ea : app (.s2 l) [q, r] = nth row r := by rw [← hrow]; rfl
      simp [d_lead, mFor, forRun, mDef, mSeq, mRet, mRetL, mRetV, mRetN, mIfS, mAsg, mNew, mAug, mSub, mApp, mExtN, mExtT, mPop, mDrop, mNext, mNever, mOp, mUn, mVar, mC, mQVar, mLVar, mIxV, mQE, mLE, mEN, asL, asQ, mTup, mLst, mDs, datas, mA0, mA1, mAV, mCat, mTB, mTru, tru, mTruQ, mAnd, mOr, mNot, mAndV, mOrV, mNotV, mIf, mChain, mLen, mAll, mAny, mBools, mSum, mList, mTuple, mB, fAbs, fInt, fMax2, fMin2, mIsi, fIsi, tyN, fAdd, fTT, fSub, fMulX, fMul, fRep, fII, fI0, bMul, bDiv, bMod, bPow, fDiv, fMod, fPow, fLt, fLe, fGt, fGe, fIs, fIsNot, fIsB, fNotB, fIsN, fNotN, isN, fNeg, fIx, mCall, mCallN, rtD, rtN, mgN, mg0, mg1, mgT, mO0, mO1, mSlT, mSlL, mYes, mR1, mR2, mNotT, mNotTQ, mSortI, mZip, mEnum, mInQ, mCatV, mCatX, mCatY, mSlV, mForV, mLcV, mIdx, mPopI, mRg1, mR3, mRevT, fBool, Option.bind, Stp.d, ea, e, e2]
    | [], hl, _ => simp at hl
    | [_], hl, _ => simp at hl
    | _ :: _ :: _ :: _, hl, _ => simp at hl; omega
def stp (sts : List Stp) (i : Nat) : Stp := sts.getD i (.s0 0)
def st (sts : List Stp) : T → Nat
  | .l s => app (stp sts s) []
  | .u s a => app (stp sts s) [st sts a]
  | .b s x y => app (stp sts s) [st sts x, st sts y]
theorem stp_get {m : Nat} {A : List Int} {sts : List Stp} (h : StOk m A sts) {i : Nat} {a : Int} (e : A[i]? = some a) : (stp sts i).ok m a ∧ atI (sts.map Stp.d) (i : Int) = some (stp sts i).d := by
  obtain ⟨s, e1, o⟩ := h.get e
  have hi := (List.getElem?_eq_some_iff.mp e1).1
  have es : stp sts i = s := by unfold stp; rw [List.getD_eq_getElem?_getD, e1]; rfl
  rw [es]
  refine ⟨o, ?_⟩
  rw [atI_n (by omega) (by rw [List.length_map]; omega), Int.toNat_natCast, List.getElem?_map, e1]
  rfl
theorem st_lt {m : Nat} {A : List Int} {sts : List Stp} (h : StOk m A sts) : ∀ t : T, t.ok A → st sts t < m
  | .l s, o => app_lt (stp_get h o).1 rfl (by simp)
  | .u s a, o => app_lt (stp_get h o.1).1 rfl (by intro q hq; rw [List.mem_singleton.mp hq]; exact st_lt h a o.2)
  | .b s x y, o => app_lt (stp_get h o.1).1 rfl (by
      intro q hq
      rcases List.mem_cons.mp hq with rfl | hq
      · exact st_lt h x o.2.1
      · rw [List.mem_singleton.mp hq]; exact st_lt h y o.2.2)
theorem lev_state_of (k : Nat) : (lev (k + 2)).state_of = d_state_of (lev (k + 1)).state_of d_lead := rfl
theorem state_of_eq {A : List Int} {good : List Bool} {sts : List Stp} (h : AuOk A good sts) : ∀ (t : T) (k : Nat) (S : Sto), t.ok A → t.n + 1 ≤ k → (lev k).state_of [.d (auD A good sts), .d t.d] S = some (.val (.int (st sts t)), S)
  | .l s, k, S, o, hk => by
    simp only [T.n] at hk
    obtain ⟨k, rfl⟩ : ∃ j, k = j + 2 := ⟨k - 2, by omega⟩
    rw [lev_state_of]
    obtain ⟨h1, h2⟩ := stp_get h.st o
    have e := lead_eq h1 (qs := []) rfl (by simp) S
    simp at e
    simp [d_state_of, mDef, mSeq, mRet, mRetL, mRetV, mRetN, mIfS, mAsg, mNew, mAug, mSub, mApp, mExtN, mExtT, mPop, mDrop, mNext, mNever, mOp, mUn, mVar, mC, mQVar, mLVar, mIxV, mQE, mLE, mEN, asL, asQ, mTup, mLst, mDs, datas, mA0, mA1, mAV, mCat, mTB, mTru, tru, mTruQ, mAnd, mOr, mNot, mAndV, mOrV, mNotV, mIf, mChain, mLen, mAll, mAny, mBools, mSum, mList, mTuple, mB, fAbs, fInt, fMax2, fMin2, mIsi, fIsi, tyN, fAdd, fTT, fSub, fMulX, fMul, fRep, fII, fI0, bMul, bDiv, bMod, bPow, fDiv, fMod, fPow, fLt, fLe, fGt, fGe, fIs, fIsNot, fIsB, fNotB, fIsN, fNotN, isN, fNeg, fIx, mCall, mCallN, rtD, rtN, mgN, mg0, mg1, mgT, mO0, mO1, mSlT, mSlL, mYes, mR1, mR2, mNotT, mNotTQ, mSortI, mZip, mEnum, mInQ, mCatV, mCatX, mCatY, mSlV, mForV, mLcV, mIdx, mPopI, mRg1, mR3, mRevT, fBool, Option.bind, auD, T.d, st, cut_f1, mLc, wipeR, lcRun, a32, atI_0, h2, e]
  | .u s a, k, S, o, hk => by
    simp only [T.n] at hk
    obtain ⟨k, rfl⟩ : ∃ j, k = j + 2 := ⟨k - 2, by omega⟩
    rw [lev_state_of]
    obtain ⟨h1, h2⟩ := stp_get h.st o.1
    have e1 := state_of_eq h a (k + 1) S o.2 (by omega)
    have e := lead_eq h1 (qs := [st sts a]) rfl (by intro q hq; rw [List.mem_singleton.mp hq]; exact st_lt h.st a o.2) S
    simp only [auD] at e1
    simp only [iD, List.map_cons, List.map_nil] at e
    simp [d_state_of, mDef, mSeq, mRet, mRetL, mRetV, mRetN, mIfS, mAsg, mNew, mAug, mSub, mApp, mExtN, mExtT, mPop, mDrop, mNext, mNever, mOp, mUn, mVar, mC, mQVar, mLVar, mIxV, mQE, mLE, mEN, asL, asQ, mTup, mLst, mDs, datas, mA0, mA1, mAV, mCat, mTB, mTru, tru, mTruQ, mAnd, mOr, mNot, mAndV, mOrV, mNotV, mIf, mChain, mLen, mAll, mAny, mBools, mSum, mList, mTuple, mB, fAbs, fInt, fMax2, fMin2, mIsi, fIsi, tyN, fAdd, fTT, fSub, fMulX, fMul, fRep, fII, fI0, bMul, bDiv, bMod, bPow, fDiv, fMod, fPow, fLt, fLe, fGt, fGe, fIs, fIsNot, fIsB, fNotB, fIsN, fNotN, isN, fNeg, fIx, mCall, mCallN, rtD, rtN, mgN, mg0, mg1, mgT, mO0, mO1, mSlT, mSlL, mYes, mR1, mR2, mNotT, mNotTQ, mSortI, mZip, mEnum, mInQ, mCatV, mCatX, mCatY, mSlV, mForV, mLcV, mIdx, mPopI, mRg1, mR3, mRevT, fBool, Option.bind, auD, T.d, st, cut_f1, mLc, wipeR, lcRun, a32, atI_0, h2, e1, e]
  | .b s x y, k, S, o, hk => by
    simp only [T.n] at hk
    obtain ⟨k, rfl⟩ : ∃ j, k = j + 2 := ⟨k - 2, by omega⟩
    rw [lev_state_of]
    obtain ⟨h1, h2⟩ := stp_get h.st o.1
    have e1 := state_of_eq h x (k + 1) S o.2.1 (by omega)
    have e2 := state_of_eq h y (k + 1) S o.2.2 (by omega)
    have e := lead_eq h1 (qs := [st sts x, st sts y]) rfl (by
      intro q hq
      rcases List.mem_cons.mp hq with rfl | hq
      · exact st_lt h.st x o.2.1
      · rw [List.mem_singleton.mp hq]; exact st_lt h.st y o.2.2) S
    simp only [auD] at e1 e2
    simp only [iD, List.map_cons, List.map_nil] at e
    simp [d_state_of, mDef, mSeq, mRet, mRetL, mRetV, mRetN, mIfS, mAsg, mNew, mAug, mSub, mApp, mExtN, mExtT, mPop, mDrop, mNext, mNever, mOp, mUn, mVar, mC, mQVar, mLVar, mIxV, mQE, mLE, mEN, asL, asQ, mTup, mLst, mDs, datas, mA0, mA1, mAV, mCat, mTB, mTru, tru, mTruQ, mAnd, mOr, mNot, mAndV, mOrV, mNotV, mIf, mChain, mLen, mAll, mAny, mBools, mSum, mList, mTuple, mB, fAbs, fInt, fMax2, fMin2, mIsi, fIsi, tyN, fAdd, fTT, fSub, fMulX, fMul, fRep, fII, fI0, bMul, bDiv, bMod, bPow, fDiv, fMod, fPow, fLt, fLe, fGt, fGe, fIs, fIsNot, fIsB, fNotB, fIsN, fNotN, isN, fNeg, fIx, mCall, mCallN, rtD, rtN, mgN, mg0, mg1, mgT, mO0, mO1, mSlT, mSlL, mYes, mR1, mR2, mNotT, mNotTQ, mSortI, mZip, mEnum, mInQ, mCatV, mCatX, mCatY, mSlV, mForV, mLcV, mIdx, mPopI, mRg1, mR3, mRevT, fBool, Option.bind, auD, T.d, st, cut_f1, mLc, wipeR, lcRun, a32, atI_0, h2, e1, e2, e]

/-! the law's own way to states -/
theorem entry_list {m : Nat} {a : Int} {s : Stp} (h : s.ok m a) {qs : List Nat} (hl : (qs.length : Int) = a) (hq : ∀ q ∈ qs, q < m) (S : Sto) (w0 w1 w2 w4 : Option Sl) :
    ∃ w4', forRun (mgN 4) (mAsg (mIxV 3 (mVar 4)) (mgN 3)) (iD qs) [w0, w1, w2, some (.d s.d), w4] S = some (.nx, [w0, w1, w2, some (.d (.int (app s qs))), w4'], S) := by
  cases s with
  | s0 c =>
    obtain ⟨rfl, h⟩ := h
    match qs, hl with
    | [], _ => exact ⟨w4, rfl⟩
    | _ :: _, hl => simp at hl; omega
  | s1 l =>
    obtain ⟨rfl, h1, h2⟩ := h
    match qs, hl, hq with
    | [q], _, hq =>
      have e := at_i (cs := l) (i := q) (by have := hq q (by simp); omega)
      exact ⟨some (.d (.int q)), by simp [forRun, mDef, mSeq, mRet, mRetL, mRetV, mRetN, mIfS, mAsg, mNew, mAug, mSub, mApp, mExtN, mExtT, mPop, mDrop, mNext, mNever, mOp, mUn, mVar, mC, mQVar, mLVar, mIxV, mQE, mLE, mEN, asL, asQ, mTup, mLst, mDs, datas, mA0, mA1, mAV, mCat, mTB, mTru, tru, mTruQ, mAnd, mOr, mNot, mAndV, mOrV, mNotV, mIf, mChain, mLen, mAll, mAny, mBools, mSum, mList, mTuple, mB, fAbs, fInt, fMax2, fMin2, mIsi, fIsi, tyN, fAdd, fTT, fSub, fMulX, fMul, fRep, fII, fI0, bMul, bDiv, bMod, bPow, fDiv, fMod, fPow, fLt, fLe, fGt, fGe, fIs, fIsNot, fIsB, fNotB, fIsN, fNotN, isN, fNeg, fIx, mCall, mCallN, rtD, rtN, mgN, mg0, mg1, mgT, mO0, mO1, mSlT, mSlL, mYes, mR1, mR2, mNotT, mNotTQ, mSortI, mZip, mEnum, mInQ, mCatV, mCatX, mCatY, mSlV, mForV, mLcV, mIdx, mPopI, mRg1, mR3, mRevT, fBool, Option.bind, Stp.d, app, e]⟩
    | [], hl, _ => simp at hl
    | _ :: _ :: _, hl, _ => simp at hl; omega
  | s2 l =>
    obtain ⟨rfl, h1, h2⟩ := h
    match qs, hl, hq with
    | [q, r], _, hq =>
      have hql : q < l.length := by have := hq q (by simp); omega
      have hr := h2 _ (getD_mem (d := []) hql)
      have e := at_l hql
      obtain ⟨row, hrow⟩ : ∃ row, l.getD q [] = row := ⟨_, rfl⟩
      have e2 := at_i (cs := l.getD q []) (i := r) (by have := hq r (by simp); rw [hr.1]; omega)
      rw [hrow] at e e2
      have ea : app (.s2 l) [q, r] = nth row r := by rw [← hrow]; rfl
      exact ⟨some (.d (.int r)), by simp [forRun, mDef, mSeq, mRet, mRetL, mRetV, mRetN, mIfS, mAsg, mNew, mAug, mSub, mApp, mExtN, mExtT, mPop, mDrop, mNext, mNever, mOp, mUn, mVar, mC, mQVar, mLVar, mIxV, mQE, mLE, mEN, asL, asQ, mTup, mLst, mDs, datas, mA0, mA1, mAV, mCat, mTB, mTru, tru, mTruQ, mAnd, mOr, mNot, mAndV, mOrV, mNotV, mIf, mChain, mLen, mAll, mAny, mBools, mSum, mList, mTuple, mB, fAbs, fInt, fMax2, fMin2, mIsi, fIsi, tyN, fAdd, fTT, fSub, fMulX, fMul, fRep, fII, fI0, bMul, bDiv, bMod, bPow, fDiv, fMod, fPow, fLt, fLe, fGt, fGe, fIs, fIsNot, fIsB, fNotB, fIsN, fNotN, isN, fNeg, fIx, mCall, mCallN, rtD, rtN, mgN, mg0, mg1, mgT, mO0, mO1, mSlT, mSlL, mYes, mR1, mR2, mNotT, mNotTQ, mSortI, mZip, mEnum, mInQ, mCatV, mCatX, mCatY, mSlV, mForV, mLcV, mIdx, mPopI, mRg1, mR3, mRevT, fBool, Option.bind, Stp.d, ea, e, e2]⟩
    | [], hl, _ => simp at hl
    | [_], hl, _ => simp at hl
    | _ :: _ :: _ :: _, hl, _ => simp at hl; omega
theorem entry_law {A : List Int} {good : List Bool} {sts : List Stp} (h : AuOk A good sts) {i : Nat} {a : Int} (hi : A[i]? = some a) {qs : List Nat} (hl : (qs.length : Int) = a) (hq : ∀ q ∈ qs, q < good.length) (S : Sto) :
    d__law_entry [.d (auD A good sts), .d (.int i), .d (.list (iD qs))] S = some (.val (.int (app (stp sts i) qs)), S) := by
  obtain ⟨h1, h2⟩ := stp_get h.st hi
  obtain ⟨w, e⟩ := entry_list h1 hl hq S (some (.d (auD A good sts))) (some (.d (.int i))) (some (.d (.list (iD qs)))) none
  simp only [auD] at e
  simp [d__law_entry, mFor, mDef, mSeq, mRet, mRetL, mRetV, mRetN, mIfS, mAsg, mNew, mAug, mSub, mApp, mExtN, mExtT, mPop, mDrop, mNext, mNever, mOp, mUn, mVar, mC, mQVar, mLVar, mIxV, mQE, mLE, mEN, asL, asQ, mTup, mLst, mDs, datas, mA0, mA1, mAV, mCat, mTB, mTru, tru, mTruQ, mAnd, mOr, mNot, mAndV, mOrV, mNotV, mIf, mChain, mLen, mAll, mAny, mBools, mSum, mList, mTuple, mB, fAbs, fInt, fMax2, fMin2, mIsi, fIsi, tyN, fAdd, fTT, fSub, fMulX, fMul, fRep, fII, fI0, bMul, bDiv, bMod, bPow, fDiv, fMod, fPow, fLt, fLe, fGt, fGe, fIs, fIsNot, fIsB, fNotB, fIsN, fNotN, isN, fNeg, fIx, mCall, mCallN, rtD, rtN, mgN, mg0, mg1, mgT, mO0, mO1, mSlT, mSlL, mYes, mR1, mR2, mNotT, mNotTQ, mSortI, mZip, mEnum, mInQ, mCatV, mCatX, mCatY, mSlV, mForV, mLcV, mIdx, mPopI, mRg1, mR3, mRevT, fBool, Option.bind, auD, a32, h2, e]
theorem lev_state (k : Nat) : (lev (k + 2))._law_state = d__law_state d__law_entry (lev (k + 1))._law_state := rfl
theorem law_state_eq {A : List Int} {good : List Bool} {sts : List Stp} (h : AuOk A good sts) : ∀ (t : T) (k : Nat) (S : Sto), t.ok A → t.n + 1 ≤ k → (lev k)._law_state [.d (auD A good sts), .d t.d] S = some (.val (.int (st sts t)), S)
  | .l s, k, S, o, hk => by
    simp only [T.n] at hk
    obtain ⟨k, rfl⟩ : ∃ j, k = j + 2 := ⟨k - 2, by omega⟩
    rw [lev_state]
    have e := entry_law h o (qs := []) rfl (by simp) S
    simp at e
    simp [d__law_state, mDef, mSeq, mRet, mRetL, mRetV, mRetN, mIfS, mAsg, mNew, mAug, mSub, mApp, mExtN, mExtT, mPop, mDrop, mNext, mNever, mOp, mUn, mVar, mC, mQVar, mLVar, mIxV, mQE, mLE, mEN, asL, asQ, mTup, mLst, mDs, datas, mA0, mA1, mAV, mCat, mTB, mTru, tru, mTruQ, mAnd, mOr, mNot, mAndV, mOrV, mNotV, mIf, mChain, mLen, mAll, mAny, mBools, mSum, mList, mTuple, mB, fAbs, fInt, fMax2, fMin2, mIsi, fIsi, tyN, fAdd, fTT, fSub, fMulX, fMul, fRep, fII, fI0, bMul, bDiv, bMod, bPow, fDiv, fMod, fPow, fLt, fLe, fGt, fGe, fIs, fIsNot, fIsB, fNotB, fIsN, fNotN, isN, fNeg, fIx, mCall, mCallN, rtD, rtN, mgN, mg0, mg1, mgT, mO0, mO1, mSlT, mSlL, mYes, mR1, mR2, mNotT, mNotTQ, mSortI, mZip, mEnum, mInQ, mCatV, mCatX, mCatY, mSlV, mForV, mLcV, mIdx, mPopI, mRg1, mR3, mRevT, fBool, Option.bind, T.d, st, cut_f1, mLc, wipeR, lcRun, atI_0, e]
  | .u s a, k, S, o, hk => by
    simp only [T.n] at hk
    obtain ⟨k, rfl⟩ : ∃ j, k = j + 2 := ⟨k - 2, by omega⟩
    rw [lev_state]
    have e1 := law_state_eq h a (k + 1) S o.2 (by omega)
    have e := entry_law h o.1 (qs := [st sts a]) rfl (by intro q hq; rw [List.mem_singleton.mp hq]; exact st_lt h.st a o.2) S
    simp only [iD, List.map_cons, List.map_nil] at e
    simp [d__law_state, mDef, mSeq, mRet, mRetL, mRetV, mRetN, mIfS, mAsg, mNew, mAug, mSub, mApp, mExtN, mExtT, mPop, mDrop, mNext, mNever, mOp, mUn, mVar, mC, mQVar, mLVar, mIxV, mQE, mLE, mEN, asL, asQ, mTup, mLst, mDs, datas, mA0, mA1, mAV, mCat, mTB, mTru, tru, mTruQ, mAnd, mOr, mNot, mAndV, mOrV, mNotV, mIf, mChain, mLen, mAll, mAny, mBools, mSum, mList, mTuple, mB, fAbs, fInt, fMax2, fMin2, mIsi, fIsi, tyN, fAdd, fTT, fSub, fMulX, fMul, fRep, fII, fI0, bMul, bDiv, bMod, bPow, fDiv, fMod, fPow, fLt, fLe, fGt, fGe, fIs, fIsNot, fIsB, fNotB, fIsN, fNotN, isN, fNeg, fIx, mCall, mCallN, rtD, rtN, mgN, mg0, mg1, mgT, mO0, mO1, mSlT, mSlL, mYes, mR1, mR2, mNotT, mNotTQ, mSortI, mZip, mEnum, mInQ, mCatV, mCatX, mCatY, mSlV, mForV, mLcV, mIdx, mPopI, mRg1, mR3, mRevT, fBool, Option.bind, T.d, st, cut_f1, mLc, wipeR, lcRun, atI_0, e1, e]
  | .b s x y, k, S, o, hk => by
    simp only [T.n] at hk
    obtain ⟨k, rfl⟩ : ∃ j, k = j + 2 := ⟨k - 2, by omega⟩
    rw [lev_state]
    have e1 := law_state_eq h x (k + 1) S o.2.1 (by omega)
    have e2 := law_state_eq h y (k + 1) S o.2.2 (by omega)
    have e := entry_law h o.1 (qs := [st sts x, st sts y]) rfl (by
      intro q hq
      rcases List.mem_cons.mp hq with rfl | hq
      · exact st_lt h.st x o.2.1
      · rw [List.mem_singleton.mp hq]; exact st_lt h.st y o.2.2) S
    simp only [iD, List.map_cons, List.map_nil] at e
    simp [d__law_state, mDef, mSeq, mRet, mRetL, mRetV, mRetN, mIfS, mAsg, mNew, mAug, mSub, mApp, mExtN, mExtT, mPop, mDrop, mNext, mNever, mOp, mUn, mVar, mC, mQVar, mLVar, mIxV, mQE, mLE, mEN, asL, asQ, mTup, mLst, mDs, datas, mA0, mA1, mAV, mCat, mTB, mTru, tru, mTruQ, mAnd, mOr, mNot, mAndV, mOrV, mNotV, mIf, mChain, mLen, mAll, mAny, mBools, mSum, mList, mTuple, mB, fAbs, fInt, fMax2, fMin2, mIsi, fIsi, tyN, fAdd, fTT, fSub, fMulX, fMul, fRep, fII, fI0, bMul, bDiv, bMod, bPow, fDiv, fMod, fPow, fLt, fLe, fGt, fGe, fIs, fIsNot, fIsB, fNotB, fIsN, fNotN, isN, fNeg, fIx, mCall, mCallN, rtD, rtN, mgN, mg0, mg1, mgT, mO0, mO1, mSlT, mSlL, mYes, mR1, mR2, mNotT, mNotTQ, mSortI, mZip, mEnum, mInQ, mCatV, mCatX, mCatY, mSlV, mForV, mLcV, mIdx, mPopI, mRg1, mR3, mRevT, fBool, Option.bind, T.d, st, cut_f1, mLc, wipeR, lcRun, atI_0, e1, e2, e]
end G
set_option linter.all false
set_option autoImplicit false
set_option maxRecDepth 100000
set_option maxHeartbeats 2000000
namespace G
open PySem L2
theorem sh_ints : ∀ p : List Nat, PyData.canLayAll0 (p.map fun (i : Nat) => PyData.int (i : Int)) = true ∧ PyData.depthAll (p.map fun (i : Nat) => PyData.int (i : Int)) = 0
  | [] => ⟨rfl, rfl⟩
  | i :: p => by
    obtain ⟨h1, h2⟩ := sh_ints p
    refine ⟨?_, ?_⟩
    · show (true && PyData.canLayAll0 _) = true
      rw [h1]; rfl
    · show max 0 (PyData.depthAll _) = 0
      rw [h2]; rfl
theorem sh_place (p : List Nat) : SeqAt.shaped (pD p) = true := by
  obtain ⟨h1, h2⟩ := sh_ints p
  show (PyData.canLayAll0 _ && decide (PyData.depthAll _ + 1 ≤ 64)) = true
  rw [h1, h2]
  rfl
theorem sh_nil : SeqAt.shaped (.tuple []) = true := rfl
theorem ev_nil (p : List Nat) : PyData.eqv (pD p) (.tuple []) = p.isEmpty := by
  cases p <;> rfl
theorem c_t1 {α : Type} (xs : List α) : cut xs none (some 1) = xs.take 1 := cut_to xs 1
theorem c_t2 {α : Type} (xs : List α) : cut xs none (some 2) = xs.take 2 := cut_to xs 2
theorem c_f2 {α : Type} (xs : List α) : cut xs (some 2) none = xs.drop 2 := cut_from xs 2
theorem c_f3 {α : Type} (xs : List α) : cut xs (some 3) none = xs.drop 3 := cut_from xs 3
def T.has : T → List Nat → Prop
  | _, [] => True
  | .u _ a, 0 :: p => a.has p
  | .b _ x _, 0 :: p => x.has p
  | .b _ _ y, 1 :: p => y.has p
  | _, _ => False
def T.putD (x : D) : T → List Nat → D
  | _, [] => x
  | .l s, _ :: _ => x
  | .u s a, _ :: p => .tuple [.int s, a.putD x p]
  | .b s a y, 0 :: p => .tuple [.int s, a.putD x p, y.d]
  | .b s a y, _ :: p => .tuple [.int s, a.d, y.putD x p]
theorem a21 {α : Type} (x y : α) : atI [x, y] 1 = some y := rfl
/-! places -/
def T.places : T → List (List Nat)
  | .l _ => [[]]
  | .u _ a => [] :: a.places.map (0 :: ·)
  | .b _ x y => [] :: (x.places.map (0 :: ·) ++ y.places.map (1 :: ·))
theorem T.places_len : ∀ t : T, t.places.length = t.n
  | .l s => rfl
  | .u s a => by simp [T.places, T.n, T.places_len a]
  | .b s x y => by simp [T.places, T.n, T.places_len x, T.places_len y]
theorem places_plen : ∀ (t : T), ∀ z ∈ t.places, z.length < t.n
  | .l s, z, hz => by rw [List.mem_singleton.mp hz]; simp [T.n]
  | .u s a, z, hz => by
    rcases List.mem_cons.mp hz with e | hz
    · rw [e]; simp [T.n]
    · obtain ⟨y, hy, rfl⟩ := List.mem_map.mp hz
      have := places_plen a y hy
      simp [T.n]; omega
  | .b s x y, z, hz => by
    rcases List.mem_cons.mp hz with e | hz
    · rw [e]; simp [T.n]
    · rcases List.mem_append.mp hz with hz | hz
      · obtain ⟨w, hw, rfl⟩ := List.mem_map.mp hz
        have := places_plen x w hw
        simp [T.n]; omega
      · obtain ⟨w, hw, rfl⟩ := List.mem_map.mp hz
        have := places_plen y w hw
        simp [T.n]; omega
theorem places_has : ∀ (t : T), ∀ z ∈ t.places, t.has z
  | .l s, z, hz => by rw [List.mem_singleton.mp hz]; trivial
  | .u s a, z, hz => by
    rcases List.mem_cons.mp hz with e | hz
    · rw [e]; trivial
    · obtain ⟨y, hy, rfl⟩ := List.mem_map.mp hz
      exact places_has a y hy
  | .b s x y, z, hz => by
    rcases List.mem_cons.mp hz with e | hz
    · rw [e]; trivial
    · rcases List.mem_append.mp hz with hz | hz
      · obtain ⟨w, hw, rfl⟩ := List.mem_map.mp hz
        exact places_has x w hw
      · obtain ⟨w, hw, rfl⟩ := List.mem_map.mp hz
        exact places_has y w hw
def plf (j : Int) (d : D) : D := match d with
  | .tuple p => .tuple (.int j :: p)
  | _ => .none
theorem places_lc (ps : List (List Nat)) (j : Int) (jn : Nat) (hj : j = jn) (S : Sto) (w0 w1 : Option Sl) (h : ∀ z ∈ ps, z.length ≤ 1000) :
    lcRun (mgN 3) mYes (mOp fAdd (mTup (mA1 (mVar 2) mA0)) (mVar 3)) (ps.map pD) [w0, w1, some (.d (.int j)), none] S = some ((ps.map (jn :: ·)).map pD, S) := by
  subst hj
  have := lc_map (mg := mgN 3) (me := mOp fAdd (mTup (mA1 (mVar 2) mA0)) (mVar 3)) (ρ := [w0, w1, some (.d (.int jn)), none]) (S := S) (plf jn) (fun d => [w0, w1, some (.d (.int jn)), some (.d d)]) (xs := ps.map pD)
    (fun x hx => by obtain ⟨z, hz, rfl⟩ := List.mem_map.mp hx; simp [mgN])
    (fun x hx => by
      obtain ⟨z, hz, rfl⟩ := List.mem_map.mp hx
      have hl := h z hz
      simp [mDef, mSeq, mRet, mRetL, mRetV, mRetN, mIfS, mAsg, mNew, mAug, mSub, mApp, mExtN, mExtT, mPop, mDrop, mNext, mNever, mOp, mUn, mVar, mC, mQVar, mLVar, mIxV, mQE, mLE, mEN, asL, asQ, mTup, mLst, mDs, datas, mA0, mA1, mAV, mCat, mTB, mTru, tru, mTruQ, mAnd, mOr, mNot, mAndV, mOrV, mNotV, mIf, mChain, mLen, mAll, mAny, mBools, mSum, mList, mTuple, mB, fAbs, fInt, fMax2, fMin2, mIsi, fIsi, tyN, fAdd, fTT, fSub, fMulX, fMul, fRep, fII, fI0, bMul, bDiv, bMod, bPow, fDiv, fMod, fPow, fLt, fLe, fGt, fGe, fIs, fIsNot, fIsB, fNotB, fIsN, fNotN, isN, fNeg, fIx, mCall, mCallN, rtD, rtN, mgN, mg0, mg1, mgT, mO0, mO1, mSlT, mSlL, mYes, mR1, mR2, mNotT, mNotTQ, mSortI, mZip, mEnum, mInQ, mCatV, mCatX, mCatY, mSlV, mForV, mLcV, mIdx, mPopI, mRg1, mR3, mRevT, fBool, Option.bind, plf, Option.or, show 1 + z.length ≤ 1000000 by omega])
  rw [this, List.map_map, List.map_map]
  rfl
theorem lev_places (k : Nat) : (lev (k + 1))._law_places = d__law_places (lev k)._law_places := rfl
theorem r00 : rng 0 0 = [] := rfl
theorem r01 : rng 0 1 = [.int 0] := rfl
theorem r02 : rng 0 2 = [.int 0, .int 1] := rfl
theorem places_eq : ∀ (t : T) (k : Nat) (S : Sto), t.n ≤ 1000 → t.n ≤ k → (lev k)._law_places [.d t.d] S = some (.val (.list (t.places.map pD)), S)
  | .l s, 0, S, hn, hk => by simp [T.n] at hk
  | .u s a, 0, S, hn, hk => by simp [T.n] at hk
  | .b s x y, 0, S, hn, hk => by simp [T.n] at hk
  | .l s, k + 1, S, hn, hk => by
    rw [lev_places]
    simp [d__law_places, mFor, forRun, mDef, mSeq, mRet, mRetL, mRetV, mRetN, mIfS, mAsg, mNew, mAug, mSub, mApp, mExtN, mExtT, mPop, mDrop, mNext, mNever, mOp, mUn, mVar, mC, mQVar, mLVar, mIxV, mQE, mLE, mEN, asL, asQ, mTup, mLst, mDs, datas, mA0, mA1, mAV, mCat, mTB, mTru, tru, mTruQ, mAnd, mOr, mNot, mAndV, mOrV, mNotV, mIf, mChain, mLen, mAll, mAny, mBools, mSum, mList, mTuple, mB, fAbs, fInt, fMax2, fMin2, mIsi, fIsi, tyN, fAdd, fTT, fSub, fMulX, fMul, fRep, fII, fI0, bMul, bDiv, bMod, bPow, fDiv, fMod, fPow, fLt, fLe, fGt, fGe, fIs, fIsNot, fIsB, fNotB, fIsN, fNotN, isN, fNeg, fIx, mCall, mCallN, rtD, rtN, mgN, mg0, mg1, mgT, mO0, mO1, mSlT, mSlL, mYes, mR1, mR2, mNotT, mNotTQ, mSortI, mZip, mEnum, mInQ, mCatV, mCatX, mCatY, mSlV, mForV, mLcV, mIdx, mPopI, mRg1, mR3, mRevT, fBool, Option.bind, T.d, bRng, r00, T.places]
  | .u s a, k + 1, S, hn, hk => by
    rw [lev_places]
    simp only [T.n] at hn hk
    have e := fun S => places_eq a k S (by omega) (by omega)
    have h1 := a.places_len
    have h0 : ∀ z ∈ a.places, z.length ≤ 1000 := fun z hz => by have := places_plen a z hz; omega
    have hl := fun S w0 w1 => places_lc a.places 0 0 rfl S w0 w1 h0
    simp [d__law_places, mFor, forRun, mDef, mSeq, mRet, mRetL, mRetV, mRetN, mIfS, mAsg, mNew, mAug, mSub, mApp, mExtN, mExtT, mPop, mDrop, mNext, mNever, mOp, mUn, mVar, mC, mQVar, mLVar, mIxV, mQE, mLE, mEN, asL, asQ, mTup, mLst, mDs, datas, mA0, mA1, mAV, mCat, mTB, mTru, tru, mTruQ, mAnd, mOr, mNot, mAndV, mOrV, mNotV, mIf, mChain, mLen, mAll, mAny, mBools, mSum, mList, mTuple, mB, fAbs, fInt, fMax2, fMin2, mIsi, fIsi, tyN, fAdd, fTT, fSub, fMulX, fMul, fRep, fII, fI0, bMul, bDiv, bMod, bPow, fDiv, fMod, fPow, fLt, fLe, fGt, fGe, fIs, fIsNot, fIsB, fNotB, fIsN, fNotN, isN, fNeg, fIx, mCall, mCallN, rtD, rtN, mgN, mg0, mg1, mgT, mO0, mO1, mSlT, mSlL, mYes, mR1, mR2, mNotT, mNotTQ, mSortI, mZip, mEnum, mInQ, mCatV, mCatX, mCatY, mSlV, mForV, mLcV, mIdx, mPopI, mRg1, mR3, mRevT, fBool, Option.bind, T.d, bRng, r01, T.places, a21, mLc, wipeR, e, hl, h1, show a.n ≤ 1000000 by omega, show 1 + a.n ≤ 1000000 by omega, Option.or]
  | .b s x y, k + 1, S, hn, hk => by
    rw [lev_places]
    simp only [T.n] at hn hk
    have e := fun S => places_eq x k S (by omega) (by omega)
    have e' := fun S => places_eq y k S (by omega) (by omega)
    have h1 := x.places_len
    have h1' := y.places_len
    have h0 : ∀ z ∈ x.places, z.length ≤ 1000 := fun z hz => by have := places_plen x z hz; omega
    have h0' : ∀ z ∈ y.places, z.length ≤ 1000 := fun z hz => by have := places_plen y z hz; omega
    have hl := fun S w0 w1 => places_lc x.places 0 0 rfl S w0 w1 h0
    have hl' := fun S w0 w1 => places_lc y.places 1 1 rfl S w0 w1 h0'
    simp [d__law_places, mFor, forRun, mDef, mSeq, mRet, mRetL, mRetV, mRetN, mIfS, mAsg, mNew, mAug, mSub, mApp, mExtN, mExtT, mPop, mDrop, mNext, mNever, mOp, mUn, mVar, mC, mQVar, mLVar, mIxV, mQE, mLE, mEN, asL, asQ, mTup, mLst, mDs, datas, mA0, mA1, mAV, mCat, mTB, mTru, tru, mTruQ, mAnd, mOr, mNot, mAndV, mOrV, mNotV, mIf, mChain, mLen, mAll, mAny, mBools, mSum, mList, mTuple, mB, fAbs, fInt, fMax2, fMin2, mIsi, fIsi, tyN, fAdd, fTT, fSub, fMulX, fMul, fRep, fII, fI0, bMul, bDiv, bMod, bPow, fDiv, fMod, fPow, fLt, fLe, fGt, fGe, fIs, fIsNot, fIsB, fNotB, fIsN, fNotN, isN, fNeg, fIx, mCall, mCallN, rtD, rtN, mgN, mg0, mg1, mgT, mO0, mO1, mSlT, mSlL, mYes, mR1, mR2, mNotT, mNotTQ, mSortI, mZip, mEnum, mInQ, mCatV, mCatX, mCatY, mSlV, mForV, mLcV, mIdx, mPopI, mRg1, mR3, mRevT, fBool, Option.bind, T.d, bRng, r02, T.places, a21, a31, a32, mLc, wipeR, e, e', hl, hl', h1, h1', show x.n ≤ 1000000 by omega, show y.n ≤ 1000000 by omega, show 1 + x.n ≤ 1000000 by omega, show 1 + (x.n + y.n) ≤ 1000000 by omega, show x.n + 1 + y.n ≤ 1000000 by omega, show x.n + 1 ≤ 1000000 by omega, Option.or]
/-! part, alike -/
def T.sub : T → List Nat → T
  | t, [] => t
  | .l s, _ :: _ => .l s
  | .u _ a, _ :: p => a.sub p
  | .b _ x _, 0 :: p => x.sub p
  | .b _ _ y, _ :: p => y.sub p
theorem part_for (S : Sto) (w1 : Option Sl) : ∀ (p : List Nat) (t : T) (w2 : Option Sl), t.has p → ∃ w2', forRun (mgN 2) (mAsg (mIxV 0 (mOp fAdd (mVar 2) (mC (.int 1)))) (mgN 0)) (p.map fun (i : Nat) => PyData.int (i : Int)) [some (.d t.d), w1, w2] S = some (.nx, [some (.d (t.sub p).d), w1, w2'], S)
  | [], t, w2, h => ⟨w2, by cases t <;> rfl⟩
  | i :: p, .l s, w2, h => by cases i <;> exact absurd h (by simp [T.has])
  | i :: p, .u s a, w2, h => by
    cases i with
    | succ i => exact absurd h (by simp [T.has])
    | zero =>
      obtain ⟨w, e⟩ := part_for S w1 p a (some (.d (.int 0))) h
      refine ⟨w, ?_⟩
      rw [List.map_cons]
      unfold forRun
      simp [mDef, mSeq, mRet, mRetL, mRetV, mRetN, mIfS, mAsg, mNew, mAug, mSub, mApp, mExtN, mExtT, mPop, mDrop, mNext, mNever, mOp, mUn, mVar, mC, mQVar, mLVar, mIxV, mQE, mLE, mEN, asL, asQ, mTup, mLst, mDs, datas, mA0, mA1, mAV, mCat, mTB, mTru, tru, mTruQ, mAnd, mOr, mNot, mAndV, mOrV, mNotV, mIf, mChain, mLen, mAll, mAny, mBools, mSum, mList, mTuple, mB, fAbs, fInt, fMax2, fMin2, mIsi, fIsi, tyN, fAdd, fTT, fSub, fMulX, fMul, fRep, fII, fI0, bMul, bDiv, bMod, bPow, fDiv, fMod, fPow, fLt, fLe, fGt, fGe, fIs, fIsNot, fIsB, fNotB, fIsN, fNotN, isN, fNeg, fIx, mCall, mCallN, rtD, rtN, mgN, mg0, mg1, mgT, mO0, mO1, mSlT, mSlL, mYes, mR1, mR2, mNotT, mNotTQ, mSortI, mZip, mEnum, mInQ, mCatV, mCatX, mCatY, mSlV, mForV, mLcV, mIdx, mPopI, mRg1, mR3, mRevT, fBool, Option.bind, T.d, a21, Option.or]
      exact e
  | i :: p, .b s x y, w2, h => by
    cases i with
    | zero =>
      obtain ⟨w, e⟩ := part_for S w1 p x (some (.d (.int 0))) h
      refine ⟨w, ?_⟩
      rw [List.map_cons]
      unfold forRun
      simp [mDef, mSeq, mRet, mRetL, mRetV, mRetN, mIfS, mAsg, mNew, mAug, mSub, mApp, mExtN, mExtT, mPop, mDrop, mNext, mNever, mOp, mUn, mVar, mC, mQVar, mLVar, mIxV, mQE, mLE, mEN, asL, asQ, mTup, mLst, mDs, datas, mA0, mA1, mAV, mCat, mTB, mTru, tru, mTruQ, mAnd, mOr, mNot, mAndV, mOrV, mNotV, mIf, mChain, mLen, mAll, mAny, mBools, mSum, mList, mTuple, mB, fAbs, fInt, fMax2, fMin2, mIsi, fIsi, tyN, fAdd, fTT, fSub, fMulX, fMul, fRep, fII, fI0, bMul, bDiv, bMod, bPow, fDiv, fMod, fPow, fLt, fLe, fGt, fGe, fIs, fIsNot, fIsB, fNotB, fIsN, fNotN, isN, fNeg, fIx, mCall, mCallN, rtD, rtN, mgN, mg0, mg1, mgT, mO0, mO1, mSlT, mSlL, mYes, mR1, mR2, mNotT, mNotTQ, mSortI, mZip, mEnum, mInQ, mCatV, mCatX, mCatY, mSlV, mForV, mLcV, mIdx, mPopI, mRg1, mR3, mRevT, fBool, Option.bind, T.d, a31, Option.or]
      exact e
    | succ i =>
      cases i with
      | succ i => exact absurd h (by simp [T.has])
      | zero =>
        obtain ⟨w, e⟩ := part_for S w1 p y (some (.d (.int 1))) h
        refine ⟨w, ?_⟩
        rw [List.map_cons]
        unfold forRun
        simp [mDef, mSeq, mRet, mRetL, mRetV, mRetN, mIfS, mAsg, mNew, mAug, mSub, mApp, mExtN, mExtT, mPop, mDrop, mNext, mNever, mOp, mUn, mVar, mC, mQVar, mLVar, mIxV, mQE, mLE, mEN, asL, asQ, mTup, mLst, mDs, datas, mA0, mA1, mAV, mCat, mTB, mTru, tru, mTruQ, mAnd, mOr, mNot, mAndV, mOrV, mNotV, mIf, mChain, mLen, mAll, mAny, mBools, mSum, mList, mTuple, mB, fAbs, fInt, fMax2, fMin2, mIsi, fIsi, tyN, fAdd, fTT, fSub, fMulX, fMul, fRep, fII, fI0, bMul, bDiv, bMod, bPow, fDiv, fMod, fPow, fLt, fLe, fGt, fGe, fIs, fIsNot, fIsB, fNotB, fIsN, fNotN, isN, fNeg, fIx, mCall, mCallN, rtD, rtN, mgN, mg0, mg1, mgT, mO0, mO1, mSlT, mSlL, mYes, mR1, mR2, mNotT, mNotTQ, mSortI, mZip, mEnum, mInQ, mCatV, mCatX, mCatY, mSlV, mForV, mLcV, mIdx, mPopI, mRg1, mR3, mRevT, fBool, Option.bind, T.d, a32, Option.or]
        exact e
theorem part_eq (S : Sto) (t : T) (p : List Nat) (h : t.has p) : d__law_part [.d t.d, .d (pD p)] S = some (.val (t.sub p).d, S) := by
  obtain ⟨w, e⟩ := part_for S (some (.d (pD p))) p t none h
  simp [d__law_part, mFor, mDef, mSeq, mRet, mRetL, mRetV, mRetN, mIfS, mAsg, mNew, mAug, mSub, mApp, mExtN, mExtT, mPop, mDrop, mNext, mNever, mOp, mUn, mVar, mC, mQVar, mLVar, mIxV, mQE, mLE, mEN, asL, asQ, mTup, mLst, mDs, datas, mA0, mA1, mAV, mCat, mTB, mTru, tru, mTruQ, mAnd, mOr, mNot, mAndV, mOrV, mNotV, mIf, mChain, mLen, mAll, mAny, mBools, mSum, mList, mTuple, mB, fAbs, fInt, fMax2, fMin2, mIsi, fIsi, tyN, fAdd, fTT, fSub, fMulX, fMul, fRep, fII, fI0, bMul, bDiv, bMod, bPow, fDiv, fMod, fPow, fLt, fLe, fGt, fGe, fIs, fIsNot, fIsB, fNotB, fIsN, fNotN, isN, fNeg, fIx, mCall, mCallN, rtD, rtN, mgN, mg0, mg1, mgT, mO0, mO1, mSlT, mSlL, mYes, mR1, mR2, mNotT, mNotTQ, mSortI, mZip, mEnum, mInQ, mCatV, mCatX, mCatY, mSlV, mForV, mLcV, mIdx, mPopI, mRg1, mR3, mRevT, fBool, Option.bind, e]
end G
set_option linter.all false
set_option autoImplicit false
set_option maxRecDepth 100000
set_option maxHeartbeats 2000000
namespace G
open PySem L2
theorem require_eq (s : String) (S : Sto) : d_require [.d (.bool true), .d (.str s)] S = some (.val .none, S) := by simp [d_require, mDef, mSeq, mRet, mRetL, mRetV, mRetN, mIfS, mAsg, mNew, mAug, mSub, mApp, mExtN, mExtT, mPop, mDrop, mNext, mNever, mOp, mUn, mVar, mC, mQVar, mLVar, mIxV, mQE, mLE, mEN, asL, asQ, mTup, mLst, mDs, datas, mA0, mA1, mAV, mCat, mTB, mTru, tru, mTruQ, mAnd, mOr, mNot, mAndV, mOrV, mNotV, mIf, mChain, mLen, mAll, mAny, mBools, mSum, mList, mTuple, mB, fAbs, fInt, fMax2, fMin2, mIsi, fIsi, tyN, fAdd, fTT, fSub, fMulX, fMul, fRep, fII, fI0, bMul, bDiv, bMod, bPow, fDiv, fMod, fPow, fLt, fLe, fGt, fGe, fIs, fIsNot, fIsB, fNotB, fIsN, fNotN, isN, fNeg, fIx, mCall, mCallN, rtD, rtN, mgN, mg0, mg1, mgT, mO0, mO1, mSlT, mSlL, mYes, mR1, mR2, mNotT, mNotTQ, mSortI, mZip, mEnum, mInQ, mCatV, mCatX, mCatY, mSlV, mForV, mLcV, mIdx, mPopI, mRg1, mR3, mRevT, fBool, Option.bind]
abbrev reqAT (k : Nat) : Fn := d_require_automaton_and_tree d_require (isAut k) (d_is_tree isNodeF)
section
variable {A : List Int} {good : List Bool} {sts : List Stp} (h : AuOk A good sts) {t : T} (o : t.ok A) (hn : t.n ≤ 15)
include h o hn
theorem req_eq (k : Nat) (S : Sto) : reqAT k [.d (auD A good sts), .d t.d] S = some (.val .none, S) := by
  have e1 := automaton_eq h k S
  have e2 := is_tree_good S o hn
  simp only [auD] at e1
  simp [reqAT, d_require_automaton_and_tree, mDef, mSeq, mRet, mRetL, mRetV, mRetN, mIfS, mAsg, mNew, mAug, mSub, mApp, mExtN, mExtT, mPop, mDrop, mNext, mNever, mOp, mUn, mVar, mC, mQVar, mLVar, mIxV, mQE, mLE, mEN, asL, asQ, mTup, mLst, mDs, datas, mA0, mA1, mAV, mCat, mTB, mTru, tru, mTruQ, mAnd, mOr, mNot, mAndV, mOrV, mNotV, mIf, mChain, mLen, mAll, mAny, mBools, mSum, mList, mTuple, mB, fAbs, fInt, fMax2, fMin2, mIsi, fIsi, tyN, fAdd, fTT, fSub, fMulX, fMul, fRep, fII, fI0, bMul, bDiv, bMod, bPow, fDiv, fMod, fPow, fLt, fLe, fGt, fGe, fIs, fIsNot, fIsB, fNotB, fIsN, fNotN, isN, fNeg, fIx, mCall, mCallN, rtD, rtN, mgN, mg0, mg1, mgT, mO0, mO1, mSlT, mSlL, mYes, mR1, mR2, mNotT, mNotTQ, mSortI, mZip, mEnum, mInQ, mCatV, mCatX, mCatY, mSlV, mForV, mLcV, mIdx, mPopI, mRg1, mR3, mRevT, fBool, Option.bind, auD, e1, e2, require_eq, a30']
end
/-! places_of, part_at -/
theorem places_lcP (ps : List (List Nat)) (j : Int) (jn : Nat) (hj : j = jn) (S : Sto) (w0 w1 w3 : Option Sl) (h : ∀ z ∈ ps, z.length ≤ 1000) :
    lcRun (mgN 4) mYes (mOp fAdd (mTup (mA1 (mVar 2) mA0)) (mVar 4)) (ps.map pD) [w0, w1, some (.d (.int j)), w3, none] S = some ((ps.map (jn :: ·)).map pD, S) := by
  subst hj
  have := lc_map (mg := mgN 4) (me := mOp fAdd (mTup (mA1 (mVar 2) mA0)) (mVar 4)) (ρ := [w0, w1, some (.d (.int jn)), w3, none]) (S := S) (plf jn) (fun d => [w0, w1, some (.d (.int jn)), w3, some (.d d)]) (xs := ps.map pD)
    (fun x hx => by obtain ⟨z, hz, rfl⟩ := List.mem_map.mp hx; simp [mgN])
    (fun x hx => by
      obtain ⟨z, hz, rfl⟩ := List.mem_map.mp hx
      have hl := h z hz
      simp [mDef, mSeq, mRet, mRetL, mRetV, mRetN, mIfS, mAsg, mNew, mAug, mSub, mApp, mExtN, mExtT, mPop, mDrop, mNext, mNever, mOp, mUn, mVar, mC, mQVar, mLVar, mIxV, mQE, mLE, mEN, asL, asQ, mTup, mLst, mDs, datas, mA0, mA1, mAV, mCat, mTB, mTru, tru, mTruQ, mAnd, mOr, mNot, mAndV, mOrV, mNotV, mIf, mChain, mLen, mAll, mAny, mBools, mSum, mList, mTuple, mB, fAbs, fInt, fMax2, fMin2, mIsi, fIsi, tyN, fAdd, fTT, fSub, fMulX, fMul, fRep, fII, fI0, bMul, bDiv, bMod, bPow, fDiv, fMod, fPow, fLt, fLe, fGt, fGe, fIs, fIsNot, fIsB, fNotB, fIsN, fNotN, isN, fNeg, fIx, mCall, mCallN, rtD, rtN, mgN, mg0, mg1, mgT, mO0, mO1, mSlT, mSlL, mYes, mR1, mR2, mNotT, mNotTQ, mSortI, mZip, mEnum, mInQ, mCatV, mCatX, mCatY, mSlV, mForV, mLcV, mIdx, mPopI, mRg1, mR3, mRevT, fBool, Option.bind, plf, Option.or, show 1 + z.length ≤ 1000000 by omega])
  rw [this, List.map_map, List.map_map]
  rfl
theorem lev_places_of (k : Nat) : (lev (k + 1)).places_of = d_places_of (lev k).places_of := rfl
theorem places_of_eq : ∀ (t : T) (k : Nat) (S : Sto), t.n ≤ 1000 → t.n ≤ k → (lev k).places_of [.d t.d] S = some (.new (t.places.map pD), S)
  | .l s, 0, S, hn, hk => by simp [T.n] at hk
  | .u s a, 0, S, hn, hk => by simp [T.n] at hk
  | .b s x y, 0, S, hn, hk => by simp [T.n] at hk
  | .l s, k + 1, S, hn, hk => by
    rw [lev_places_of]
    simp [d_places_of, mFor, forRun, mDef, mSeq, mRet, mRetL, mRetV, mRetN, mIfS, mAsg, mNew, mAug, mSub, mApp, mExtN, mExtT, mPop, mDrop, mNext, mNever, mOp, mUn, mVar, mC, mQVar, mLVar, mIxV, mQE, mLE, mEN, asL, asQ, mTup, mLst, mDs, datas, mA0, mA1, mAV, mCat, mTB, mTru, tru, mTruQ, mAnd, mOr, mNot, mAndV, mOrV, mNotV, mIf, mChain, mLen, mAll, mAny, mBools, mSum, mList, mTuple, mB, fAbs, fInt, fMax2, fMin2, mIsi, fIsi, tyN, fAdd, fTT, fSub, fMulX, fMul, fRep, fII, fI0, bMul, bDiv, bMod, bPow, fDiv, fMod, fPow, fLt, fLe, fGt, fGe, fIs, fIsNot, fIsB, fNotB, fIsN, fNotN, isN, fNeg, fIx, mCall, mCallN, rtD, rtN, mgN, mg0, mg1, mgT, mO0, mO1, mSlT, mSlL, mYes, mR1, mR2, mNotT, mNotTQ, mSortI, mZip, mEnum, mInQ, mCatV, mCatX, mCatY, mSlV, mForV, mLcV, mIdx, mPopI, mRg1, mR3, mRevT, fBool, Option.bind, T.d, cut_f1, mEnum, enumD, T.places, tr_last]
  | .u s a, k + 1, S, hn, hk => by
    rw [lev_places_of]
    simp only [T.n] at hn hk
    have e := fun S => places_of_eq a k S (by omega) (by omega)
    have h1 := a.places_len
    have h0 : ∀ z ∈ a.places, z.length ≤ 1000 := fun z hz => by have := places_plen a z hz; omega
    have hl := fun S w0 w1 w3 => places_lcP a.places 0 0 rfl S w0 w1 w3 h0
    simp [d_places_of, mFor, forRun, mDef, mSeq, mRet, mRetL, mRetV, mRetN, mIfS, mAsg, mNew, mAug, mSub, mApp, mExtN, mExtT, mPop, mDrop, mNext, mNever, mOp, mUn, mVar, mC, mQVar, mLVar, mIxV, mQE, mLE, mEN, asL, asQ, mTup, mLst, mDs, datas, mA0, mA1, mAV, mCat, mTB, mTru, tru, mTruQ, mAnd, mOr, mNot, mAndV, mOrV, mNotV, mIf, mChain, mLen, mAll, mAny, mBools, mSum, mList, mTuple, mB, fAbs, fInt, fMax2, fMin2, mIsi, fIsi, tyN, fAdd, fTT, fSub, fMulX, fMul, fRep, fII, fI0, bMul, bDiv, bMod, bPow, fDiv, fMod, fPow, fLt, fLe, fGt, fGe, fIs, fIsNot, fIsB, fNotB, fIsN, fNotN, isN, fNeg, fIx, mCall, mCallN, rtD, rtN, mgN, mg0, mg1, mgT, mO0, mO1, mSlT, mSlL, mYes, mR1, mR2, mNotT, mNotTQ, mSortI, mZip, mEnum, mInQ, mCatV, mCatX, mCatY, mSlV, mForV, mLcV, mIdx, mPopI, mRg1, mR3, mRevT, fBool, Option.bind, T.d, cut_f1, mEnum, enumD, T.places, tr_last, tr_set, mLc, wipeR, e, hl, h1, show a.n ≤ 1000000 by omega, show 1 + a.n ≤ 1000000 by omega]
  | .b s x y, k + 1, S, hn, hk => by
    rw [lev_places_of]
    simp only [T.n] at hn hk
    have e := fun S => places_of_eq x k S (by omega) (by omega)
    have e' := fun S => places_of_eq y k S (by omega) (by omega)
    have h1 := x.places_len
    have h1' := y.places_len
    have h0 : ∀ z ∈ x.places, z.length ≤ 1000 := fun z hz => by have := places_plen x z hz; omega
    have h0' : ∀ z ∈ y.places, z.length ≤ 1000 := fun z hz => by have := places_plen y z hz; omega
    have hl := fun S w0 w1 w3 => places_lcP x.places 0 0 rfl S w0 w1 w3 h0
    have hl' := fun S w0 w1 w3 => places_lcP y.places 1 1 rfl S w0 w1 w3 h0'
    simp [d_places_of, mFor, forRun, mDef, mSeq, mRet, mRetL, mRetV, mRetN, mIfS, mAsg, mNew, mAug, mSub, mApp, mExtN, mExtT, mPop, mDrop, mNext, mNever, mOp, mUn, mVar, mC, mQVar, mLVar, mIxV, mQE, mLE, mEN, asL, asQ, mTup, mLst, mDs, datas, mA0, mA1, mAV, mCat, mTB, mTru, tru, mTruQ, mAnd, mOr, mNot, mAndV, mOrV, mNotV, mIf, mChain, mLen, mAll, mAny, mBools, mSum, mList, mTuple, mB, fAbs, fInt, fMax2, fMin2, mIsi, fIsi, tyN, fAdd, fTT, fSub, fMulX, fMul, fRep, fII, fI0, bMul, bDiv, bMod, bPow, fDiv, fMod, fPow, fLt, fLe, fGt, fGe, fIs, fIsNot, fIsB, fNotB, fIsN, fNotN, isN, fNeg, fIx, mCall, mCallN, rtD, rtN, mgN, mg0, mg1, mgT, mO0, mO1, mSlT, mSlL, mYes, mR1, mR2, mNotT, mNotTQ, mSortI, mZip, mEnum, mInQ, mCatV, mCatX, mCatY, mSlV, mForV, mLcV, mIdx, mPopI, mRg1, mR3, mRevT, fBool, Option.bind, T.d, cut_f1, mEnum, enumD, T.places, tr_last, tr_set, mLc, wipeR, e, e', hl, hl', h1, h1', show x.n ≤ 1000000 by omega, show y.n ≤ 1000000 by omega, show 1 + x.n ≤ 1000000 by omega, show 1 + x.n + y.n ≤ 1000000 by omega, show x.n + 1 + y.n ≤ 1000000 by omega, show x.n + 1 ≤ 1000000 by omega]
end G
set_option linter.all false
set_option autoImplicit false
set_option maxRecDepth 100000
set_option maxHeartbeats 2000000
namespace G
open PySem L2
abbrev paB : MS := (mSeq (mIfS (mTB (mOp fGe (mOp fAdd (mVar 2) (mC (.int 1))) (mLen (mQVar 0)))) (mRet (mC .none)) mNext)
  (mAsg (mIxV 0 (mOp fAdd (mVar 2) (mC (.int 1)))) (mgN 0)))
theorem part_at_for (S : Sto) (w1 : Option Sl) : ∀ (p : List Nat) (t : T) (w2 : Option Sl), t.has p → ∃ w2', forRun (mgN 2) paB (iD p) [some (.d t.d), w1, w2] S = some (.nx, [some (.d (t.sub p).d), w1, w2'], S)
  | [], t, w2, h => ⟨w2, by cases t <;> rfl⟩
  | i :: p, .l s, w2, h => by cases i <;> exact absurd h (by simp [T.has])
  | i :: p, .u s a, w2, h => by
    cases i with
    | succ i => exact absurd h (by simp [T.has])
    | zero =>
      obtain ⟨w, e⟩ := part_at_for S w1 p a (some (.d (.int 0))) h
      refine ⟨w, ?_⟩
      rw [iD, List.map_cons]
      unfold forRun
      simp [paB, mDef, mSeq, mRet, mRetL, mRetV, mRetN, mIfS, mAsg, mNew, mAug, mSub, mApp, mExtN, mExtT, mPop, mDrop, mNext, mNever, mOp, mUn, mVar, mC, mQVar, mLVar, mIxV, mQE, mLE, mEN, asL, asQ, mTup, mLst, mDs, datas, mA0, mA1, mAV, mCat, mTB, mTru, tru, mTruQ, mAnd, mOr, mNot, mAndV, mOrV, mNotV, mIf, mChain, mLen, mAll, mAny, mBools, mSum, mList, mTuple, mB, fAbs, fInt, fMax2, fMin2, mIsi, fIsi, tyN, fAdd, fTT, fSub, fMulX, fMul, fRep, fII, fI0, bMul, bDiv, bMod, bPow, fDiv, fMod, fPow, fLt, fLe, fGt, fGe, fIs, fIsNot, fIsB, fNotB, fIsN, fNotN, isN, fNeg, fIx, mCall, mCallN, rtD, rtN, mgN, mg0, mg1, mgT, mO0, mO1, mSlT, mSlL, mYes, mR1, mR2, mNotT, mNotTQ, mSortI, mZip, mEnum, mInQ, mCatV, mCatX, mCatY, mSlV, mForV, mLcV, mIdx, mPopI, mRg1, mR3, mRevT, fBool, Option.bind, T.d, a21, Option.or]
      exact e
  | i :: p, .b s x y, w2, h => by
    cases i with
    | zero =>
      obtain ⟨w, e⟩ := part_at_for S w1 p x (some (.d (.int 0))) h
      refine ⟨w, ?_⟩
      rw [iD, List.map_cons]
      unfold forRun
      simp [paB, mDef, mSeq, mRet, mRetL, mRetV, mRetN, mIfS, mAsg, mNew, mAug, mSub, mApp, mExtN, mExtT, mPop, mDrop, mNext, mNever, mOp, mUn, mVar, mC, mQVar, mLVar, mIxV, mQE, mLE, mEN, asL, asQ, mTup, mLst, mDs, datas, mA0, mA1, mAV, mCat, mTB, mTru, tru, mTruQ, mAnd, mOr, mNot, mAndV, mOrV, mNotV, mIf, mChain, mLen, mAll, mAny, mBools, mSum, mList, mTuple, mB, fAbs, fInt, fMax2, fMin2, mIsi, fIsi, tyN, fAdd, fTT, fSub, fMulX, fMul, fRep, fII, fI0, bMul, bDiv, bMod, bPow, fDiv, fMod, fPow, fLt, fLe, fGt, fGe, fIs, fIsNot, fIsB, fNotB, fIsN, fNotN, isN, fNeg, fIx, mCall, mCallN, rtD, rtN, mgN, mg0, mg1, mgT, mO0, mO1, mSlT, mSlL, mYes, mR1, mR2, mNotT, mNotTQ, mSortI, mZip, mEnum, mInQ, mCatV, mCatX, mCatY, mSlV, mForV, mLcV, mIdx, mPopI, mRg1, mR3, mRevT, fBool, Option.bind, T.d, a31, Option.or]
      exact e
    | succ i =>
      cases i with
      | succ i => exact absurd h (by simp [T.has])
      | zero =>
        obtain ⟨w, e⟩ := part_at_for S w1 p y (some (.d (.int 1))) h
        refine ⟨w, ?_⟩
        rw [iD, List.map_cons]
        unfold forRun
        simp [paB, mDef, mSeq, mRet, mRetL, mRetV, mRetN, mIfS, mAsg, mNew, mAug, mSub, mApp, mExtN, mExtT, mPop, mDrop, mNext, mNever, mOp, mUn, mVar, mC, mQVar, mLVar, mIxV, mQE, mLE, mEN, asL, asQ, mTup, mLst, mDs, datas, mA0, mA1, mAV, mCat, mTB, mTru, tru, mTruQ, mAnd, mOr, mNot, mAndV, mOrV, mNotV, mIf, mChain, mLen, mAll, mAny, mBools, mSum, mList, mTuple, mB, fAbs, fInt, fMax2, fMin2, mIsi, fIsi, tyN, fAdd, fTT, fSub, fMulX, fMul, fRep, fII, fI0, bMul, bDiv, bMod, bPow, fDiv, fMod, fPow, fLt, fLe, fGt, fGe, fIs, fIsNot, fIsB, fNotB, fIsN, fNotN, isN, fNeg, fIx, mCall, mCallN, rtD, rtN, mgN, mg0, mg1, mgT, mO0, mO1, mSlT, mSlL, mYes, mR1, mR2, mNotT, mNotTQ, mSortI, mZip, mEnum, mInQ, mCatV, mCatX, mCatY, mSlV, mForV, mLcV, mIdx, mPopI, mRg1, mR3, mRevT, fBool, Option.bind, T.d, a32, Option.or]
        exact e
theorem part_at_eq (S : Sto) (t : T) (p : List Nat) (h : t.has p) : d_part_at [.d t.d, .d (pD p)] S = some (.val (t.sub p).d, S) := by
  obtain ⟨w, e⟩ := part_at_for S (some (.d (pD p))) p t none h
  simp only [paB] at e
  simp [d_part_at, mFor, mDef, mSeq, mRet, mRetL, mRetV, mRetN, mIfS, mAsg, mNew, mAug, mSub, mApp, mExtN, mExtT, mPop, mDrop, mNext, mNever, mOp, mUn, mVar, mC, mQVar, mLVar, mIxV, mQE, mLE, mEN, asL, asQ, mTup, mLst, mDs, datas, mA0, mA1, mAV, mCat, mTB, mTru, tru, mTruQ, mAnd, mOr, mNot, mAndV, mOrV, mNotV, mIf, mChain, mLen, mAll, mAny, mBools, mSum, mList, mTuple, mB, fAbs, fInt, fMax2, fMin2, mIsi, fIsi, tyN, fAdd, fTT, fSub, fMulX, fMul, fRep, fII, fI0, bMul, bDiv, bMod, bPow, fDiv, fMod, fPow, fLt, fLe, fGt, fGe, fIs, fIsNot, fIsB, fNotB, fIsN, fNotN, isN, fNeg, fIx, mCall, mCallN, rtD, rtN, mgN, mg0, mg1, mgT, mO0, mO1, mSlT, mSlL, mYes, mR1, mR2, mNotT, mNotTQ, mSortI, mZip, mEnum, mInQ, mCatV, mCatX, mCatY, mSlV, mForV, mLcV, mIdx, mPopI, mRg1, mR3, mRevT, fBool, Option.bind, e]
theorem sub_ok {A : List Int} : ∀ (p : List Nat) (t : T), t.ok A → t.has p → (t.sub p).ok A ∧ (t.sub p).n ≤ t.n
  | [], t, h, _ => by cases t <;> exact ⟨h, Nat.le_refl _⟩
  | i :: p, .l s, h, hp => by cases i <;> exact absurd hp (by simp [T.has])
  | i :: p, .u s a, h, hp => by
    cases i with
    | succ i => exact absurd hp (by simp [T.has])
    | zero => have := sub_ok p a h.2 hp; exact ⟨this.1, by have := this.2; simp [T.sub, T.n]; omega⟩
  | i :: p, .b s x y, h, hp => by
    cases i with
    | zero => have := sub_ok p x h.2.1 hp; exact ⟨this.1, by have := this.2; simp [T.sub, T.n]; omega⟩
    | succ i =>
      cases i with
      | succ i => exact absurd hp (by simp [T.has])
      | zero => have := sub_ok p y h.2.2 hp; exact ⟨this.1, by have := this.2; simp [T.sub, T.n]; omega⟩
/-- a run: each place with the state of the part there -/
def ruD (sts : List Stp) (t : T) : List D := t.places.map fun p => .tuple [pD p, .int (st sts (t.sub p))]
def getP (d : D) : List Nat := match d with
  | .tuple xs => xs.map fun x => match x with | .int i => i.toNat | _ => 0
  | _ => []
theorem getP_pD (p : List Nat) : getP (pD p) = p := by
  show (iD p).map _ = p
  rw [List.map_map]
  conv => rhs; rw [← List.map_id p]
  exact List.map_congr_left fun i _ => by simp
theorem run_eq {A : List Int} {good : List Bool} {sts : List Stp} (h : AuOk A good sts) {t : T} (o : t.ok A) (hn : t.n ≤ 15) (k j i : Nat) (hj : 16 ≤ j) (hi : 15 ≤ i) (S : Sto) :
    d_run (reqAT k) (lev i).places_of (lev j).state_of d_part_at [.d (auD A good sts), .d t.d] S = some (.val (.tuple (ruD sts t)), S) := by
  have e1 := req_eq h o hn k S
  have e2 := places_of_eq t i S (by omega) (by omega)
  have hl := t.places_len
  have key := lc_map (mg := mgN 2) (me := mTup (mA1 (mVar 2) (mA1 (mCall 2 (lev j).state_of (mAV 0 (mA1 (mCall 2 d_part_at (mAV 1 (mAV 2 mA0))) mA0))) mA0))) (ρ := [some (.d (auD A good sts)), some (.d t.d), none]) (S := S) (fun d => .tuple [d, .int (st sts (t.sub (getP d)))]) (fun d => [some (.d (auD A good sts)), some (.d t.d), some (.d d)]) (xs := t.places.map pD) (fun x hx => by simp [mgN]) (fun x hx => by
    obtain ⟨p, hp, rfl⟩ := List.mem_map.mp hx
    have hh := places_has t p hp
    have so := sub_ok p t o hh
    have e3 := part_at_eq S t p hh
    have e4 := state_of_eq h (t.sub p) j S so.1 (by omega)
    simp [mDef, mSeq, mRet, mRetL, mRetV, mRetN, mIfS, mAsg, mNew, mAug, mSub, mApp, mExtN, mExtT, mPop, mDrop, mNext, mNever, mOp, mUn, mVar, mC, mQVar, mLVar, mIxV, mQE, mLE, mEN, asL, asQ, mTup, mLst, mDs, datas, mA0, mA1, mAV, mCat, mTB, mTru, tru, mTruQ, mAnd, mOr, mNot, mAndV, mOrV, mNotV, mIf, mChain, mLen, mAll, mAny, mBools, mSum, mList, mTuple, mB, fAbs, fInt, fMax2, fMin2, mIsi, fIsi, tyN, fAdd, fTT, fSub, fMulX, fMul, fRep, fII, fI0, bMul, bDiv, bMod, bPow, fDiv, fMod, fPow, fLt, fLe, fGt, fGe, fIs, fIsNot, fIsB, fNotB, fIsN, fNotN, isN, fNeg, fIx, mCall, mCallN, rtD, rtN, mgN, mg0, mg1, mgT, mO0, mO1, mSlT, mSlL, mYes, mR1, mR2, mNotT, mNotTQ, mSortI, mZip, mEnum, mInQ, mCatV, mCatX, mCatY, mSlV, mForV, mLcV, mIdx, mPopI, mRg1, mR3, mRevT, fBool, Option.bind, e3, e4, getP_pD])
  have em : ((t.places.map pD).map fun d => PyData.tuple [d, .int (st sts (t.sub (getP d)))]) = ruD sts t := by
    rw [List.map_map]
    unfold ruD
    exact List.map_congr_left fun p _ => by
      show PyData.tuple [pD p, .int (st sts (t.sub (getP (pD p))))] = _
      rw [getP_pD]
  rw [em] at key
  simp [d_run, mDef, mSeq, mRet, mRetL, mRetV, mRetN, mIfS, mAsg, mNew, mAug, mSub, mApp, mExtN, mExtT, mPop, mDrop, mNext, mNever, mOp, mUn, mVar, mC, mQVar, mLVar, mIxV, mQE, mLE, mEN, asL, asQ, mTup, mLst, mDs, datas, mA0, mA1, mAV, mCat, mTB, mTru, tru, mTruQ, mAnd, mOr, mNot, mAndV, mOrV, mNotV, mIf, mChain, mLen, mAll, mAny, mBools, mSum, mList, mTuple, mB, fAbs, fInt, fMax2, fMin2, mIsi, fIsi, tyN, fAdd, fTT, fSub, fMulX, fMul, fRep, fII, fI0, bMul, bDiv, bMod, bPow, fDiv, fMod, fPow, fLt, fLe, fGt, fGe, fIs, fIsNot, fIsB, fNotB, fIsN, fNotN, isN, fNeg, fIx, mCall, mCallN, rtD, rtN, mgN, mg0, mg1, mgT, mO0, mO1, mSlT, mSlL, mYes, mR1, mR2, mNotT, mNotTQ, mSortI, mZip, mEnum, mInQ, mCatV, mCatX, mCatY, mSlV, mForV, mLcV, mIdx, mPopI, mRg1, mR3, mRevT, fBool, Option.bind, e1, e2, mLc, wipeR, hl, show t.n ≤ 1000000 by omega, key]
end G
set_option linter.all false
set_option autoImplicit false
set_option maxRecDepth 100000
set_option maxHeartbeats 4000000
namespace G
open PySem L2
def symp (A : List Int) (q : Int → Bool) (d : D) : Bool := match d with
  | .int i => q (A.getD i.toNat 0)
  | _ => false
def syms (A : List Int) (q : Int → Bool) : List D := (rng 0 A.length).filter (symp A q)
theorem syms_mem {A : List Int} {q : Int → Bool} {v : D} : v ∈ syms A q ↔ ∃ i : Nat, v = .int i ∧ ∃ a, A[i]? = some a ∧ q a = true := by
  unfold syms rng
  rw [List.mem_filter, List.mem_map]
  constructor
  · rintro ⟨⟨i, hi, rfl⟩, h⟩
    rw [List.mem_range] at hi
    have h : q (A.getD ((0 + (i : Int))).toNat 0) = true := h
    rw [Int.zero_add, Int.toNat_natCast, List.getD_eq_getElem?_getD, List.getElem?_eq_getElem hi] at h
    exact ⟨i, by rw [Int.zero_add], A[i], List.getElem?_eq_getElem hi, h⟩
  · rintro ⟨i, rfl, a, e, h⟩
    have hi := (List.getElem?_eq_some_iff.mp e).1
    refine ⟨⟨i, List.mem_range.mpr hi, by rw [Int.zero_add]⟩, ?_⟩
    show q (A.getD ((i : Int)).toNat 0) = true
    rw [Int.toNat_natCast, List.getD_eq_getElem?_getD, e]
    exact h
theorem rng_mem {n : Nat} {v : D} (h : v ∈ rng 0 n) : ∃ i : Nat, v = .int i ∧ i < n := by
  unfold rng at h
  rw [List.mem_map] at h
  obtain ⟨i, hi, rfl⟩ := h
  exact ⟨i, by rw [Int.zero_add], List.mem_range.mp hi⟩
theorem syms_len {A : List Int} {q : Int → Bool} : (syms A q).length ≤ A.length := by
  unfold syms
  exact Nat.le_trans (List.length_filter_le ..) (by rw [rng_len]; exact Nat.le_refl _)
theorem at_A {A : List Int} {i : Nat} {a : Int} (e : A[i]? = some a) : atI (A.map PyData.int) (i : Int) = some (.int a) := by
  have hi := (List.getElem?_eq_some_iff.mp e).1
  rw [atI_n (by omega) (by rw [List.length_map]; omega), Int.toNat_natCast, List.getElem?_map, e]
  rfl

def qN (N a : Int) : Bool := decide (a < N)
theorem use_lc (A : List Int) (S : Sto) (N : Int) (w0 w3 w5 : Option Sl) :
    lcRun (mgN 4) (mTB (mOp fLt (mIxV 1 (mVar 4)) (mVar 2))) (mVar 4) (rng 0 A.length) [w0, some (.d (dA A)), some (.d (.int N)), w3, none, w5] S = some (syms A (qN N), S) := by
  have := lc_filter (mg := mgN 4) (mt := mTB (mOp fLt (mIxV 1 (mVar 4)) (mVar 2))) (me := mVar 4) (ρ := [w0, some (.d (dA A)), some (.d (.int N)), w3, none, w5]) (S := S) (fun x => x) (symp A (qN N)) (fun x => [w0, some (.d (dA A)), some (.d (.int N)), w3, some (.d x), w5]) (xs := rng 0 A.length)
    (fun x _ => by simp [mgN]) (fun x hx => by
      obtain ⟨i, rfl, hi⟩ := rng_mem hx
      have e := at_A (List.getElem?_eq_getElem hi)
      simp [mDef, mSeq, mRet, mRetL, mRetV, mRetN, mIfS, mAsg, mNew, mAug, mSub, mApp, mExtN, mExtT, mPop, mDrop, mNext, mNever, mOp, mUn, mVar, mC, mQVar, mLVar, mIxV, mQE, mLE, mEN, asL, asQ, mTup, mLst, mDs, datas, mA0, mA1, mAV, mCat, mTB, mTru, tru, mTruQ, mAnd, mOr, mNot, mAndV, mOrV, mNotV, mIf, mChain, mLen, mAll, mAny, mBools, mSum, mList, mTuple, mB, fAbs, fInt, fMax2, fMin2, mIsi, fIsi, tyN, fAdd, fTT, fSub, fMulX, fMul, fRep, fII, fI0, bMul, bDiv, bMod, bPow, fDiv, fMod, fPow, fLt, fLe, fGt, fGe, fIs, fIsNot, fIsB, fNotB, fIsN, fNotN, isN, fNeg, fIx, mCall, mCallN, rtD, rtN, mgN, mg0, mg1, mgT, mO0, mO1, mSlT, mSlL, mYes, mR1, mR2, mNotT, mNotTQ, mSortI, mZip, mEnum, mInQ, mCatV, mCatX, mCatY, mSlV, mForV, mLcV, mIdx, mPopI, mRg1, mR3, mRevT, fBool, Option.bind, e, symp, qN, List.getElem?_eq_getElem hi]) (fun x _ => by simp [mVar])
  rw [this]
  simp [syms]
theorem lev_tree (k : Nat) : (lev (k + 2))._law_tree = d__law_tree d__law_next (lev (k + 1))._law_tree := rfl
abbrev trTail (F__law_tree : Fn) : MS := (mSeq (mIfS (mTB (mOp fEq (mIxV 1 (mVar 4)) (mC (.int 0)))) (mRet (mTup (mA1 (mVar 4) mA0))) mNext)
  (mSeq (mIfS (mTB (mOp fEq (mIxV 1 (mVar 4)) (mC (.int 1)))) (mRet (mTup (mA1 (mVar 4) (mA1 (mCall 3 F__law_tree (mAV 0 (mAV 1 (mA1 (mOp fSub (mVar 2) (mC (.int 1))) mA0)))) mA0)))) mNext)
  (mSeq (mAsg (mOp fAdd (mC (.int 1)) (mCall 2 d__law_next (mAV 0 (mA1 (mOp fSub (mVar 2) (mC (.int 2))) mA0)))) (mgN 5))
  (mRet (mTup (mA1 (mVar 4) (mA1 (mCall 3 F__law_tree (mAV 0 (mAV 1 (mAV 5 mA0)))) (mA1 (mCall 3 F__law_tree (mAV 0 (mAV 1 (mA1 (mOp fSub (mOp fSub (mVar 2) (mC (.int 1))) (mVar 5)) mA0)))) mA0))))))))
abbrev trMid : MS := (mIfS (mAnd (mTB (mOp fGt (mVar 2) (mC (.int 3)))) (mAnd (mTB (mOp fEq (mIxV 1 (mVar 4)) (mC (.int 0)))) (mTB (mOp fGt (mCall 2 d__law_next (mAV 0 (mA1 (mC (.int 3)) mA0))) (mC (.int 0)))))) (mAsg (mIxV 3 (mCall 2 d__law_next (mAV 0 (mA1 (mLen (mQVar 3)) mA0)))) (mgN 4)) mNext)
theorem seq_nx {m1 m2 : MS} {ρ ρ1 : Rho} {S S1 : Sto} (h : m1 ρ S = some (.nx, ρ1, S1)) : mSeq m1 m2 ρ S = m2 ρ1 S1 := by simp [mSeq, h]
theorem def_rt3 {body : Nat → MS} {a b c : Sl} {k : Nat} {d : D} {ρ' : Rho} {S S' : Sto} (h : body S.length (some a :: some b :: some c :: List.replicate k none) S = some (.rt (.val d), ρ', S')) : mDef 3 (k + 3) body [a, b, c] S = some (.val d, S'.take S.length) := by
  simp [mDef, h]
theorem tree_sp {A : List Int} (hA : Ar A) : ∀ (N : Nat) (k n : Nat) (S : Sto), 1 ≤ N → N ≤ 15 → N + 3 ≤ k → Sg n S → ∃ (t : T) (S' : Sto), t.ok A ∧ t.n ≤ N ∧ Ad n S S' ∧ (lev k)._law_tree [.loc n, .d (dA A), .d (.int N)] S = some (.val t.d, S') := by
  intro N
  induction N using Nat.strongRecOn with
  | _ N ih =>
    intro k n S h1 h15 hk hS
    obtain ⟨k, rfl⟩ : ∃ j, k = j + 2 := ⟨k - 2, by omega⟩
    rw [lev_tree]
    have hl := hA.len
    have l1 := syms_len (A := A) (q := qN N)
    have hbr : bRng (A.length : Int) = true := bR (by omega)
    have l0 : 0 < (syms A (qN N)).length := by
      obtain ⟨i, hi⟩ := hA.leaf
      exact List.length_pos_iff.mpr fun z => by
        have : PyData.int i ∈ syms A (qN N) := syms_mem.mpr ⟨i, rfl, 0, hi, decide_eq_true (by omega)⟩
        rw [z] at this; cases this
    have draw : ∀ S1, Sg n S1 → ∃ (g : Int) (s : Nat) (a : Int) (S2 : Sto), A[s]? = some a ∧ a < N ∧ 0 ≤ a ∧ a ≤ 2 ∧ Ad n S1 S2 ∧ d__law_next [.loc n, .d (.int (syms A (qN N)).length)] S1 = some (.val (.int g), S2) ∧ atI (syms A (qN N)) g = some (.int s) := fun S1 h => by
      obtain ⟨g, S2, g0, g1, ad, e⟩ := next_sp (syms A (qN N)).length n S1 h (by omega) (by omega)
      obtain ⟨v, hv, e2⟩ := at_get g0 g1
      obtain ⟨s, rfl, a, ea, hq⟩ := syms_mem.mp hv
      have := hA.le a (List.mem_of_getElem? ea)
      exact ⟨g, s, a, S2, ea, of_decide_eq_true hq, this.1, this.2, ad, e, e2⟩
    -- behind the symbol
    have tail : ∀ (s : Nat) (a : Int) (S1 : Sto) (w3 w5 : Option Sl), A[s]? = some a → a < N → 0 ≤ a → a ≤ 2 → Sg n S1 → ∃ (t : T) (S' : Sto) (ρ' : Rho), t.ok A ∧ t.n ≤ N ∧ Ad n S1 S' ∧
        trTail (lev (k + 1))._law_tree [some (.loc n), some (.d (dA A)), some (.d (.int N)), w3, some (.d (.int s)), w5] S1 = some (.rt (.val t.d), ρ', S') := fun s a S1 w3 w5 ea haN ha0 ha2 h => by
      have eA := at_A ea
      by_cases c0 : a = 0
      · subst c0
        exact ⟨.l s, S1, _, ea, h1, Ad.refl h, by simp [trTail, mDef, mSeq, mRet, mRetL, mRetV, mRetN, mIfS, mAsg, mNew, mAug, mSub, mApp, mExtN, mExtT, mPop, mDrop, mNext, mNever, mOp, mUn, mVar, mC, mQVar, mLVar, mIxV, mQE, mLE, mEN, asL, asQ, mTup, mLst, mDs, datas, mA0, mA1, mAV, mCat, mTB, mTru, tru, mTruQ, mAnd, mOr, mNot, mAndV, mOrV, mNotV, mIf, mChain, mLen, mAll, mAny, mBools, mSum, mList, mTuple, mB, fAbs, fInt, fMax2, fMin2, mIsi, fIsi, tyN, fAdd, fTT, fSub, fMulX, fMul, fRep, fII, fI0, bMul, bDiv, bMod, bPow, fDiv, fMod, fPow, fLt, fLe, fGt, fGe, fIs, fIsNot, fIsB, fNotB, fIsN, fNotN, isN, fNeg, fIx, mCall, mCallN, rtD, rtN, mgN, mg0, mg1, mgT, mO0, mO1, mSlT, mSlL, mYes, mR1, mR2, mNotT, mNotTQ, mSortI, mZip, mEnum, mInQ, mCatV, mCatX, mCatY, mSlV, mForV, mLcV, mIdx, mPopI, mRg1, mR3, mRevT, fBool, Option.bind, eA, fEq, sh_int, ev_int, T.d]; rfl⟩
      · by_cases c1 : a = 1
        · subst c1
          obtain ⟨t, S3, to, tn, ad3, e3⟩ := ih (N - 1) (by omega) (k + 1) n S1 (by omega) (by omega) (by omega) h
          have eN : ((N - 1 : Nat) : Int) = (N : Int) - 1 := by omega
          rw [eN] at e3
          exact ⟨.u s t, S3, _, ⟨ea, to⟩, by simp [T.n]; omega, ad3, by simp [trTail, mDef, mSeq, mRet, mRetL, mRetV, mRetN, mIfS, mAsg, mNew, mAug, mSub, mApp, mExtN, mExtT, mPop, mDrop, mNext, mNever, mOp, mUn, mVar, mC, mQVar, mLVar, mIxV, mQE, mLE, mEN, asL, asQ, mTup, mLst, mDs, datas, mA0, mA1, mAV, mCat, mTB, mTru, tru, mTruQ, mAnd, mOr, mNot, mAndV, mOrV, mNotV, mIf, mChain, mLen, mAll, mAny, mBools, mSum, mList, mTuple, mB, fAbs, fInt, fMax2, fMin2, mIsi, fIsi, tyN, fAdd, fTT, fSub, fMulX, fMul, fRep, fII, fI0, bMul, bDiv, bMod, bPow, fDiv, fMod, fPow, fLt, fLe, fGt, fGe, fIs, fIsNot, fIsB, fNotB, fIsN, fNotN, isN, fNeg, fIx, mCall, mCallN, rtD, rtN, mgN, mg0, mg1, mgT, mO0, mO1, mSlT, mSlL, mYes, mR1, mR2, mNotT, mNotTQ, mSortI, mZip, mEnum, mInQ, mCatV, mCatX, mCatY, mSlV, mForV, mLcV, mIdx, mPopI, mRg1, mR3, mRevT, fBool, Option.bind, eA, fEq, sh_int, ev_int, T.d, e3]; rfl⟩
        · have c2 : a = 2 := by omega
          subst c2
          obtain ⟨g2, S3, h0, h2, ad3, e3⟩ := next_sp ((N : Int) - 2) n S1 h (by omega) (by omega)
          obtain ⟨t, S4, to, tn, ad5, e5⟩ := ih (1 + g2).toNat (by omega) (k + 1) n S3 (by omega) (by omega) (by omega) ad3.sg
          obtain ⟨t', S5, to', tn', ad7, e7⟩ := ih ((N : Int) - 1 - (1 + g2)).toNat (by omega) (k + 1) n S4 (by omega) (by omega) (by omega) ad5.sg
          rw [show (((1 + g2).toNat : Nat) : Int) = 1 + g2 by omega] at e5
          rw [show ((((N : Int) - 1 - (1 + g2)).toNat : Nat) : Int) = (N : Int) - 1 - (1 + g2) by omega] at e7
          exact ⟨.b s t t', S5, _, ⟨ea, to, to'⟩, by simp [T.n]; omega, (ad3.trans ad5).trans ad7, by simp [trTail, mDef, mSeq, mRet, mRetL, mRetV, mRetN, mIfS, mAsg, mNew, mAug, mSub, mApp, mExtN, mExtT, mPop, mDrop, mNext, mNever, mOp, mUn, mVar, mC, mQVar, mLVar, mIxV, mQE, mLE, mEN, asL, asQ, mTup, mLst, mDs, datas, mA0, mA1, mAV, mCat, mTB, mTru, tru, mTruQ, mAnd, mOr, mNot, mAndV, mOrV, mNotV, mIf, mChain, mLen, mAll, mAny, mBools, mSum, mList, mTuple, mB, fAbs, fInt, fMax2, fMin2, mIsi, fIsi, tyN, fAdd, fTT, fSub, fMulX, fMul, fRep, fII, fI0, bMul, bDiv, bMod, bPow, fDiv, fMod, fPow, fLt, fLe, fGt, fGe, fIs, fIsNot, fIsB, fNotB, fIsN, fNotN, isN, fNeg, fIx, mCall, mCallN, rtD, rtN, mgN, mg0, mg1, mgT, mO0, mO1, mSlT, mSlL, mYes, mR1, mR2, mNotT, mNotTQ, mSortI, mZip, mEnum, mInQ, mCatV, mCatX, mCatY, mSlV, mForV, mLcV, mIdx, mPopI, mRg1, mR3, mRevT, fBool, Option.bind, eA, fEq, sh_int, ev_int, T.d, e3, e5, e7, Option.or]; rfl⟩
    obtain ⟨g, s, a, S1, ea, haN, ha0, ha2, ad, e1, e2⟩ := draw S hS
    have K1 : mAsg (mEN (mLc (mR1 (mLen (mQVar 1))) (mgN 4) (mTB (mOp fLt (mIxV 1 (mVar 4)) (mVar 2))) (mVar 4) [4])) (mgN 3) [some (.loc n), some (.d (dA A)), some (.d (.int N)), none, none, none] S = some (.nx, [some (.loc n), some (.d (dA A)), some (.d (.int N)), some (.d (.list (syms A (qN N)))), none, none], S) := by
      simp [mDef, mSeq, mRet, mRetL, mRetV, mRetN, mIfS, mAsg, mNew, mAug, mSub, mApp, mExtN, mExtT, mPop, mDrop, mNext, mNever, mOp, mUn, mVar, mC, mQVar, mLVar, mIxV, mQE, mLE, mEN, asL, asQ, mTup, mLst, mDs, datas, mA0, mA1, mAV, mCat, mTB, mTru, tru, mTruQ, mAnd, mOr, mNot, mAndV, mOrV, mNotV, mIf, mChain, mLen, mAll, mAny, mBools, mSum, mList, mTuple, mB, fAbs, fInt, fMax2, fMin2, mIsi, fIsi, tyN, fAdd, fTT, fSub, fMulX, fMul, fRep, fII, fI0, bMul, bDiv, bMod, bPow, fDiv, fMod, fPow, fLt, fLe, fGt, fGe, fIs, fIsNot, fIsB, fNotB, fIsN, fNotN, isN, fNeg, fIx, mCall, mCallN, rtD, rtN, mgN, mg0, mg1, mgT, mO0, mO1, mSlT, mSlL, mYes, mR1, mR2, mNotT, mNotTQ, mSortI, mZip, mEnum, mInQ, mCatV, mCatX, mCatY, mSlV, mForV, mLcV, mIdx, mPopI, mRg1, mR3, mRevT, fBool, Option.bind, mLc, wipeR, use_lc, hbr, rng_len, show A.length ≤ 1000000 by omega]
    have K2 : mAsg (mIxV 3 (mCall 2 d__law_next (mAV 0 (mA1 (mLen (mQVar 3)) mA0)))) (mgN 4) [some (.loc n), some (.d (dA A)), some (.d (.int N)), some (.d (.list (syms A (qN N)))), none, none] S = some (.nx, [some (.loc n), some (.d (dA A)), some (.d (.int N)), some (.d (.list (syms A (qN N)))), some (.d (.int s)), none], S1) := by
      simp [mDef, mSeq, mRet, mRetL, mRetV, mRetN, mIfS, mAsg, mNew, mAug, mSub, mApp, mExtN, mExtT, mPop, mDrop, mNext, mNever, mOp, mUn, mVar, mC, mQVar, mLVar, mIxV, mQE, mLE, mEN, asL, asQ, mTup, mLst, mDs, datas, mA0, mA1, mAV, mCat, mTB, mTru, tru, mTruQ, mAnd, mOr, mNot, mAndV, mOrV, mNotV, mIf, mChain, mLen, mAll, mAny, mBools, mSum, mList, mTuple, mB, fAbs, fInt, fMax2, fMin2, mIsi, fIsi, tyN, fAdd, fTT, fSub, fMulX, fMul, fRep, fII, fI0, bMul, bDiv, bMod, bPow, fDiv, fMod, fPow, fLt, fLe, fGt, fGe, fIs, fIsNot, fIsB, fNotB, fIsN, fNotN, isN, fNeg, fIx, mCall, mCallN, rtD, rtN, mgN, mg0, mg1, mgT, mO0, mO1, mSlT, mSlL, mYes, mR1, mR2, mNotT, mNotTQ, mSortI, mZip, mEnum, mInQ, mCatV, mCatX, mCatY, mSlV, mForV, mLcV, mIdx, mPopI, mRg1, mR3, mRevT, fBool, Option.bind, e1, e2]
    have K3 : ∃ (s' : Nat) (a' : Int) (S2 : Sto), A[s']? = some a' ∧ a' < N ∧ 0 ≤ a' ∧ a' ≤ 2 ∧ Ad n S1 S2 ∧ trMid [some (.loc n), some (.d (dA A)), some (.d (.int N)), some (.d (.list (syms A (qN N)))), some (.d (.int s)), none] S1 = some (.nx, [some (.loc n), some (.d (dA A)), some (.d (.int N)), some (.d (.list (syms A (qN N)))), some (.d (.int s')), none], S2) := by
      have eA := at_A ea
      by_cases c3 : (3 : Int) < N
      · by_cases c0 : a = 0
        · subst c0
          obtain ⟨g3, S2, b0, b1, ad2, e3⟩ := next_sp 3 n S1 ad.sg (by omega) (by omega)
          by_cases cg : 0 < g3
          · obtain ⟨g4, s', a', S3, f1, f2, f3, f4, ad3, e4, e5⟩ := draw S2 ad2.sg
            exact ⟨s', a', S3, f1, f2, f3, f4, ad2.trans ad3, by simp [trMid, mDef, mSeq, mRet, mRetL, mRetV, mRetN, mIfS, mAsg, mNew, mAug, mSub, mApp, mExtN, mExtT, mPop, mDrop, mNext, mNever, mOp, mUn, mVar, mC, mQVar, mLVar, mIxV, mQE, mLE, mEN, asL, asQ, mTup, mLst, mDs, datas, mA0, mA1, mAV, mCat, mTB, mTru, tru, mTruQ, mAnd, mOr, mNot, mAndV, mOrV, mNotV, mIf, mChain, mLen, mAll, mAny, mBools, mSum, mList, mTuple, mB, fAbs, fInt, fMax2, fMin2, mIsi, fIsi, tyN, fAdd, fTT, fSub, fMulX, fMul, fRep, fII, fI0, bMul, bDiv, bMod, bPow, fDiv, fMod, fPow, fLt, fLe, fGt, fGe, fIs, fIsNot, fIsB, fNotB, fIsN, fNotN, isN, fNeg, fIx, mCall, mCallN, rtD, rtN, mgN, mg0, mg1, mgT, mO0, mO1, mSlT, mSlL, mYes, mR1, mR2, mNotT, mNotTQ, mSortI, mZip, mEnum, mInQ, mCatV, mCatX, mCatY, mSlV, mForV, mLcV, mIdx, mPopI, mRg1, mR3, mRevT, fBool, Option.bind, c3, eA, fEq, sh_int, ev_int, e3, cg, e4, e5]⟩
          · exact ⟨s, 0, S2, ea, haN, ha0, ha2, ad2, by simp [trMid, mDef, mSeq, mRet, mRetL, mRetV, mRetN, mIfS, mAsg, mNew, mAug, mSub, mApp, mExtN, mExtT, mPop, mDrop, mNext, mNever, mOp, mUn, mVar, mC, mQVar, mLVar, mIxV, mQE, mLE, mEN, asL, asQ, mTup, mLst, mDs, datas, mA0, mA1, mAV, mCat, mTB, mTru, tru, mTruQ, mAnd, mOr, mNot, mAndV, mOrV, mNotV, mIf, mChain, mLen, mAll, mAny, mBools, mSum, mList, mTuple, mB, fAbs, fInt, fMax2, fMin2, mIsi, fIsi, tyN, fAdd, fTT, fSub, fMulX, fMul, fRep, fII, fI0, bMul, bDiv, bMod, bPow, fDiv, fMod, fPow, fLt, fLe, fGt, fGe, fIs, fIsNot, fIsB, fNotB, fIsN, fNotN, isN, fNeg, fIx, mCall, mCallN, rtD, rtN, mgN, mg0, mg1, mgT, mO0, mO1, mSlT, mSlL, mYes, mR1, mR2, mNotT, mNotTQ, mSortI, mZip, mEnum, mInQ, mCatV, mCatX, mCatY, mSlV, mForV, mLcV, mIdx, mPopI, mRg1, mR3, mRevT, fBool, Option.bind, c3, eA, fEq, sh_int, ev_int, e3, cg]⟩
        · exact ⟨s, a, S1, ea, haN, ha0, ha2, Ad.refl ad.sg, by simp [trMid, mDef, mSeq, mRet, mRetL, mRetV, mRetN, mIfS, mAsg, mNew, mAug, mSub, mApp, mExtN, mExtT, mPop, mDrop, mNext, mNever, mOp, mUn, mVar, mC, mQVar, mLVar, mIxV, mQE, mLE, mEN, asL, asQ, mTup, mLst, mDs, datas, mA0, mA1, mAV, mCat, mTB, mTru, tru, mTruQ, mAnd, mOr, mNot, mAndV, mOrV, mNotV, mIf, mChain, mLen, mAll, mAny, mBools, mSum, mList, mTuple, mB, fAbs, fInt, fMax2, fMin2, mIsi, fIsi, tyN, fAdd, fTT, fSub, fMulX, fMul, fRep, fII, fI0, bMul, bDiv, bMod, bPow, fDiv, fMod, fPow, fLt, fLe, fGt, fGe, fIs, fIsNot, fIsB, fNotB, fIsN, fNotN, isN, fNeg, fIx, mCall, mCallN, rtD, rtN, mgN, mg0, mg1, mgT, mO0, mO1, mSlT, mSlL, mYes, mR1, mR2, mNotT, mNotTQ, mSortI, mZip, mEnum, mInQ, mCatV, mCatX, mCatY, mSlV, mForV, mLcV, mIdx, mPopI, mRg1, mR3, mRevT, fBool, Option.bind, c3, eA, fEq, sh_int, ev_int, c0]⟩
      · exact ⟨s, a, S1, ea, haN, ha0, ha2, Ad.refl ad.sg, by simp [trMid, mDef, mSeq, mRet, mRetL, mRetV, mRetN, mIfS, mAsg, mNew, mAug, mSub, mApp, mExtN, mExtT, mPop, mDrop, mNext, mNever, mOp, mUn, mVar, mC, mQVar, mLVar, mIxV, mQE, mLE, mEN, asL, asQ, mTup, mLst, mDs, datas, mA0, mA1, mAV, mCat, mTB, mTru, tru, mTruQ, mAnd, mOr, mNot, mAndV, mOrV, mNotV, mIf, mChain, mLen, mAll, mAny, mBools, mSum, mList, mTuple, mB, fAbs, fInt, fMax2, fMin2, mIsi, fIsi, tyN, fAdd, fTT, fSub, fMulX, fMul, fRep, fII, fI0, bMul, bDiv, bMod, bPow, fDiv, fMod, fPow, fLt, fLe, fGt, fGe, fIs, fIsNot, fIsB, fNotB, fIsN, fNotN, isN, fNeg, fIx, mCall, mCallN, rtD, rtN, mgN, mg0, mg1, mgT, mO0, mO1, mSlT, mSlL, mYes, mR1, mR2, mNotT, mNotTQ, mSortI, mZip, mEnum, mInQ, mCatV, mCatX, mCatY, mSlV, mForV, mLcV, mIdx, mPopI, mRg1, mR3, mRevT, fBool, Option.bind, c3]⟩
    obtain ⟨s', a', S2, f1, f2, f3, f4, ad2, K3⟩ := K3
    obtain ⟨t, S3, ρ', to, tn, ad3, K4⟩ := tail s' a' S2 _ _ f1 f2 f3 f4 ad2.sg
    have adf := (ad.trans ad2).trans ad3
    refine ⟨t, S3, to, tn, adf, ?_⟩
    have := def_rt3 (k := 3) (body := fun _ => mSeq _ _) ((seq_nx K1).trans ((seq_nx K2).trans ((seq_nx K3).trans K4)))
    rw [adf.take] at this
    exact this
end G
set_option linter.all false
set_option autoImplicit false
set_option maxRecDepth 100000
set_option maxHeartbeats 2000000
namespace G
open PySem L2
/-! plain data, by depth -/
structure W (k : Nat) (d : D) : Prop where
  c : PyData.canLay0 d = true
  h : PyData.depth d ≤ k
theorem W.mono {k j : Nat} {d : D} (h : W k d) (hj : k ≤ j) : W j d := ⟨h.c, Nat.le_trans h.h hj⟩
theorem W.sh {k : Nat} {d : D} (h : W k d) (hk : k ≤ 64) : SeqAt.shaped d = true := by
  show (PyData.canLay0 d && decide (PyData.depth d ≤ 64)) = true
  rw [h.c, decide_eq_true (Nat.le_trans h.h hk)]
  rfl
theorem W.rf {k : Nat} {d : D} (h : W k d) : PyData.eqv d d = true := SeqAt.eqv_refl d h.c
theorem W.int (k : Nat) (i : Int) : W k (.int i) := ⟨rfl, Nat.zero_le _⟩
theorem W.bool (k : Nat) (i : Bool) : W k (.bool i) := ⟨rfl, Nat.zero_le _⟩
theorem W.non (k : Nat) : W k .none := ⟨rfl, Nat.zero_le _⟩
theorem W.all {k : Nat} : ∀ {xs : List D}, (∀ x ∈ xs, W k x) → PyData.canLayAll0 xs = true ∧ PyData.depthAll xs ≤ k
  | [], _ => ⟨rfl, Nat.zero_le _⟩
  | x :: xs, h => by
    have h1 := h x List.mem_cons_self
    have h2 := W.all fun y hy => h y (List.mem_cons_of_mem _ hy)
    refine ⟨?_, Nat.max_le.mpr ⟨h1.h, h2.2⟩⟩
    show (PyData.canLay0 x && PyData.canLayAll0 xs) = true
    rw [h1.c, h2.1]; rfl
theorem W.tup {k : Nat} {xs : List D} (h : ∀ x ∈ xs, W k x) : W (k + 1) (.tuple xs) := ⟨(W.all h).1, Nat.succ_le_succ (W.all h).2⟩
theorem W.list {k : Nat} {xs : List D} (h : ∀ x ∈ xs, W k x) : W (k + 1) (.list xs) := ⟨(W.all h).1, Nat.succ_le_succ (W.all h).2⟩
theorem W.place (p : List Nat) : W 1 (pD p) := W.tup fun x hx => by obtain ⟨i, _, rfl⟩ := List.mem_map.mp hx; exact .int _ _
theorem W.pair {k : Nat} {x y : D} (hx : W k x) (hy : W k y) : W (k + 1) (.tuple [x, y]) := W.tup fun z hz => by
  rcases List.mem_cons.mp hz with rfl | hz
  · exact hx
  · rw [List.mem_singleton.mp hz]; exact hy
theorem W.ru (sts : List Stp) (t : T) : ∀ x ∈ ruD sts t, W 2 x := fun x hx => by
  obtain ⟨p, _, rfl⟩ := List.mem_map.mp hx
  exact .pair (.place p) (.int _ _)
theorem ne_same {k : Nat} {d : D} (h : W k d) (hk : k ≤ 64) : fNe d d = some (.bool false) := by
  unfold fNe
  rw [h.sh hk, h.rf]
  rfl
theorem ev_pl (p q : List Nat) : PyData.eqv (pD p) (pD q) = decide (p = q) := by
  show PyData.eqvAll (iD p) (iD q) = _
  induction p generalizing q with
  | nil => cases q <;> rfl
  | cons i p ih =>
    cases q with
    | nil => simp [PyData.eqvAll]
    | cons j q =>
      show (PyData.eqv (.int i) (.int j) && PyData.eqvAll (iD p) (iD q)) = _
      rw [ih, ev_int, ← Bool.decide_and]
      exact decide_eq_decide.mpr (by simp; omega)
theorem ne_pl (p q : List Nat) : fNe (pD p) (pD q) = some (.bool (!decide (p = q))) := by
  unfold fNe
  rw [(W.place p).sh (by omega), (W.place q).sh (by omega), ev_pl]
  rfl
theorem cut_n {α : Type} (xs : List α) (k : Nat) : cut xs none (some (k : Int)) = xs.take k := cut_to xs k
/-! a part put in the place of another -/
def tput (u : T) : T → List Nat → T
  | _, [] => u
  | .l _, _ :: _ => u
  | .u s a, _ :: p => .u s (tput u a p)
  | .b s a y, 0 :: p => .b s (tput u a p) y
  | .b s a y, _ :: p => .b s a (tput u y p)
theorem putD_d (u : T) : ∀ (p : List Nat) (t : T), t.has p → t.putD u.d p = (tput u t p).d
  | [], t, _ => by cases t <;> rfl
  | i :: p, .l s, h => by cases i <;> exact absurd h (by simp [T.has])
  | i :: p, .u s a, h => by
    cases i with
    | succ i => exact absurd h (by simp [T.has])
    | zero => simp [T.putD, tput, T.d, putD_d u p a h]
  | i :: p, .b s x y, h => by
    cases i with
    | zero => simp [T.putD, tput, T.d, putD_d u p x h]
    | succ i =>
      cases i with
      | succ i => exact absurd h (by simp [T.has])
      | zero => simp [T.putD, tput, T.d, putD_d u p y h]
theorem put_ok {A : List Int} {u : T} (hu : u.ok A) : ∀ (p : List Nat) (t : T), t.ok A → t.has p → (tput u t p).ok A ∧ (tput u t p).n + 1 ≤ t.n + u.n
  | [], t, h, _ => by have := t.n_pos; cases t <;> exact ⟨hu, by simp only [tput]; omega⟩
  | i :: p, .l s, h, hp => by cases i <;> exact absurd hp (by simp [T.has])
  | i :: p, .u s a, h, hp => by
    cases i with
    | succ i => exact absurd hp (by simp [T.has])
    | zero => have := put_ok hu p a h.2 hp; exact ⟨⟨h.1, this.1⟩, by simp [tput, T.n]; omega⟩
  | i :: p, .b s x y, h, hp => by
    cases i with
    | zero => have := put_ok hu p x h.2.1 hp; exact ⟨⟨h.1, this.1, h.2.2⟩, by simp [tput, T.n]; omega⟩
    | succ i =>
      cases i with
      | succ i => exact absurd hp (by simp [T.has])
      | zero => have := put_ok hu p y h.2.2 hp; exact ⟨⟨h.1, h.2.1, this.1⟩, by simp [tput, T.n]; omega⟩
theorem has_places : ∀ (p : List Nat) (t : T), t.has p → p ∈ t.places
  | [], t, _ => by cases t <;> simp [T.places]
  | i :: p, .l s, h => by cases i <;> exact absurd h (by simp [T.has])
  | i :: p, .u s a, h => by
    cases i with
    | succ i => exact absurd h (by simp [T.has])
    | zero => exact List.mem_cons_of_mem _ (List.mem_map.mpr ⟨p, has_places p a h, rfl⟩)
  | i :: p, .b s x y, h => by
    cases i with
    | zero => exact List.mem_cons_of_mem _ (List.mem_append_left _ (List.mem_map.mpr ⟨p, has_places p x h, rfl⟩))
    | succ i =>
      cases i with
      | succ i => exact absurd h (by simp [T.has])
      | zero => exact List.mem_cons_of_mem _ (List.mem_append_right _ (List.mem_map.mpr ⟨p, has_places p y h, rfl⟩))
theorem st_put (sts : List Stp) (u : T) : ∀ (p : List Nat) (t : T), t.has p → st sts u = st sts (t.sub p) → st sts (tput u t p) = st sts t
  | [], t, _, e => by cases t <;> exact e
  | i :: p, .l s, h, e => by cases i <;> exact absurd h (by simp [T.has])
  | i :: p, .u s a, h, e => by
    cases i with
    | succ i => exact absurd h (by simp [T.has])
    | zero => simp only [tput, st]; rw [st_put sts u p a h e]
  | i :: p, .b s x y, h, e => by
    cases i with
    | zero => simp only [tput, st]; rw [st_put sts u p x h e]
    | succ i =>
      cases i with
      | succ i => exact absurd h (by simp [T.has])
      | zero => simp only [tput, st]; rw [st_put sts u p y h e]
theorem has_nil (t : T) : t.has [] := by cases t <;> trivial
theorem sub_nil (t : T) : t.sub [] = t := by cases t <;> rfl
/-- places that are not in the part that is replaced -/
theorem put_keeps (sts : List Stp) (u : T) : ∀ (p w : List Nat) (t : T), t.has p → t.has w → w.take p.length ≠ p → (tput u t p).has w ∧ (st sts u = st sts (t.sub p) ∨ p.take w.length ≠ w → st sts ((tput u t p).sub w) = st sts (t.sub w))
  | [], w, t, _, _, hn => absurd (List.take_zero : List.take 0 w = []) hn
  | i :: p, w, .l s, h, _, _ => by cases i <;> exact absurd h (by simp [T.has])
  | i :: p, [], .u s a, h, hw, hn => by
    refine ⟨has_nil _, fun c => ?_⟩
    rw [sub_nil, sub_nil]
    rcases c with c | c
    · exact st_put sts u (i :: p) (.u s a) h c
    · exact absurd rfl (a := ([] : List Nat) = []) (by simpa using c)
  | i :: p, [], .b s x y, h, hw, hn => by
    refine ⟨has_nil _, fun c => ?_⟩
    rw [sub_nil, sub_nil]
    rcases c with c | c
    · exact st_put sts u (i :: p) (.b s x y) h c
    · exact absurd rfl (a := ([] : List Nat) = []) (by simpa using c)
  | i :: p, j :: w, .u s a, h, hw, hn => by
    cases i with
    | succ i => exact absurd h (by simp [T.has])
    | zero =>
      cases j with
      | succ j => exact absurd hw (by simp [T.has])
      | zero =>
        have ih := put_keeps sts u p w a h hw (fun e => hn (by simp [e]))
        exact ⟨ih.1, fun c => ih.2 (c.imp id fun c e => c (by simp [e]))⟩
  | i :: p, j :: w, .b s x y, h, hw, hn => by
    cases i with
    | zero =>
      cases j with
      | zero =>
        have ih := put_keeps sts u p w x h hw (fun e => hn (by simp [e]))
        exact ⟨ih.1, fun c => ih.2 (c.imp id fun c e => c (by simp [e]))⟩
      | succ j =>
        cases j with
        | succ j => exact absurd hw (by simp [T.has])
        | zero => exact ⟨hw, fun _ => rfl⟩
    | succ i =>
      cases i with
      | succ i => exact absurd h (by simp [T.has])
      | zero =>
        cases j with
        | zero => exact ⟨hw, fun _ => rfl⟩
        | succ j =>
          cases j with
          | succ j => exact absurd hw (by simp [T.has])
          | zero =>
            have ih := put_keeps sts u p w y h hw (fun e => hn (by simp [e]))
            exact ⟨ih.1, fun c => ih.2 (c.imp id fun c e => c (by simp [e]))⟩
end G
set_option linter.all false
set_option autoImplicit false
set_option maxRecDepth 100000
set_option maxHeartbeats 2000000
namespace G
open PySem L2
/-! rounds: the states that trees have -/
def chs {α : Type} (l : List α) : Nat → List (List α)
  | 0 => [[]]
  | n + 1 => (chs l n).flatMap fun c => l.map fun x => c ++ [x]
theorem chs_mem {α : Type} {l : List α} : ∀ {n : Nat} {c : List α}, c ∈ chs l n ↔ c.length = n ∧ ∀ x ∈ c, x ∈ l
  | 0, c => by
    simp only [chs, List.mem_singleton]
    constructor
    · rintro rfl; simp
    · rintro ⟨h, _⟩; exact List.length_eq_zero_iff.mp h
  | n + 1, c => by
    simp only [chs, List.mem_flatMap, List.mem_map]
    constructor
    · rintro ⟨c', h, x, hx, rfl⟩
      have := chs_mem.mp h
      refine ⟨by simp [this.1], fun y hy => ?_⟩
      rcases List.mem_append.mp hy with hy | hy
      · exact this.2 y hy
      · rw [List.mem_singleton.mp hy]; exact hx
    · rintro ⟨h1, h2⟩
      have hne : c ≠ [] := by intro e; rw [e] at h1; simp at h1
      refine ⟨c.dropLast, chs_mem.mpr ⟨by rw [List.length_dropLast]; omega, fun y hy => h2 y ((List.dropLast_sublist c).subset hy)⟩, c.getLast hne, h2 _ (List.getLast_mem hne), List.dropLast_concat_getLast hne⟩
theorem chs_map {α β : Type} (f : α → β) (l : List α) : ∀ n, chs (l.map f) n = (chs l n).map (·.map f)
  | 0 => rfl
  | n + 1 => by
    simp only [chs, chs_map f l n, List.flatMap_map, List.map_flatMap, List.map_map]
    congr 1
    funext c
    simp [Function.comp_def]
theorem fm_len {α β : Type} (f : α → List β) (k : Nat) (h : ∀ x, (f x).length = k) : ∀ xs : List α, (xs.flatMap f).length = xs.length * k
  | [] => by simp
  | x :: xs => by rw [List.flatMap_cons, List.length_append, h, fm_len f k h xs, List.length_cons, Nat.succ_mul, Nat.add_comm]
theorem chs_len {α : Type} (l : List α) (n : Nat) : (chs l (n + 1)).length = (chs l n).length * l.length := fm_len _ _ (fun _ => by simp) _
theorem chs_len2 {α : Type} (l : List α) (n : Nat) (hn : n ≤ 2) (hl : l.length ≤ 30) : (chs l n).length ≤ 1000 := by
  have : n = 0 ∨ n = 1 ∨ n = 2 := by omega
  rcases this with rfl | rfl | rfl
  · simp [chs]
  · rw [chs_len]; simp [chs]; omega
  · rw [chs_len, chs_len]
    have h1 : (chs l 0).length = 1 := rfl
    rw [h1, Nat.one_mul]
    exact Nat.le_trans (Nat.mul_le_mul hl hl) (by omega)
def add1 (l : List Nat) (q : Nat) : List Nat := if q ∈ l then l else l ++ [q]
def adds (l : List Nat) : List Nat → List Nat
  | [] => l
  | q :: cs => adds (add1 l q) cs
theorem add1_pre (l : List Nat) (q : Nat) : ∃ t, add1 l q = l ++ t := by
  unfold add1
  split
  · exact ⟨[], (List.append_nil l).symm⟩
  · exact ⟨[q], rfl⟩
theorem add1_mem {l : List Nat} {q x : Nat} : x ∈ add1 l q ↔ x ∈ l ∨ x = q := by
  unfold add1
  split
  · rename_i h
    exact ⟨.inl, fun z => z.elim id fun e => by rw [e]; exact h⟩
  · simp
theorem add1_nd {l : List Nat} {q : Nat} (h : l.Nodup) : (add1 l q).Nodup := by
  unfold add1
  split
  · exact h
  · rename_i hq
    rw [List.nodup_append]
    exact ⟨h, by simp, fun a ha b hb => by rw [List.mem_singleton.mp hb]; exact fun e => hq (e ▸ ha)⟩
theorem adds_pre : ∀ (cs l : List Nat), ∃ t, adds l cs = l ++ t
  | [], l => ⟨[], (List.append_nil l).symm⟩
  | q :: cs, l => by
    obtain ⟨t, e⟩ := adds_pre cs (add1 l q)
    obtain ⟨t', e'⟩ := add1_pre l q
    exact ⟨t' ++ t, by rw [adds, e, e', List.append_assoc]⟩
theorem adds_mem : ∀ {cs l : List Nat} {x : Nat}, x ∈ adds l cs ↔ x ∈ l ∨ x ∈ cs
  | [], l, x => by simp [adds]
  | q :: cs, l, x => by
    rw [adds, adds_mem, add1_mem, List.mem_cons, or_assoc]
theorem adds_nd : ∀ {cs l : List Nat}, l.Nodup → (adds l cs).Nodup
  | [], l, h => h
  | q :: cs, l, h => adds_nd (cs := cs) (add1_nd h)
def cands (sts : List Stp) (l : List Nat) (i : Nat) (a : Int) : List Nat := (chs l a.toNat).map (app (stp sts i))
def rnd1 (sts : List Stp) : List Int → Nat → List Nat → List Nat
  | [], _, l => l
  | a :: A, i, l => rnd1 sts A (i + 1) (adds l (cands sts l i a))
def rnd (sts : List Stp) (A : List Int) (l : List Nat) : List Nat := rnd1 sts A 0 l
theorem rnd1_pre (sts : List Stp) : ∀ (A : List Int) (i : Nat) (l : List Nat), ∃ t, rnd1 sts A i l = l ++ t
  | [], i, l => ⟨[], (List.append_nil l).symm⟩
  | a :: A, i, l => by
    obtain ⟨t, e⟩ := adds_pre (cands sts l i a) l
    obtain ⟨t', e'⟩ := rnd1_pre sts A (i + 1) (adds l (cands sts l i a))
    exact ⟨t ++ t', by rw [rnd1, e', e, List.append_assoc]⟩
theorem rnd1_nd (sts : List Stp) : ∀ (A : List Int) (i : Nat) (l : List Nat), l.Nodup → (rnd1 sts A i l).Nodup
  | [], i, l, h => h
  | a :: A, i, l, h => rnd1_nd sts A (i + 1) _ (adds_nd h)
theorem pre_eq {α : Type} {l t : List α} (h : (l ++ t).length = l.length) : t = [] := by
  rw [List.length_append] at h
  exact List.length_eq_zero_iff.mp (by omega)
theorem rnd1_fix (sts : List Stp) : ∀ (A : List Int) (i : Nat) (l : List Nat), rnd1 sts A i l = l → ∀ (j : Nat) (a : Int), A[j]? = some a → ∀ q ∈ cands sts l (i + j) a, q ∈ l
  | [], i, l, h, j, a, e, q, hq => by cases e
  | b :: A, i, l, h, j, a, e, q, hq => by
    obtain ⟨t, e1⟩ := adds_pre (cands sts l i b) l
    obtain ⟨t', e2⟩ := rnd1_pre sts A (i + 1) (adds l (cands sts l i b))
    rw [rnd1] at h
    have ht : t = [] := by
      rw [e2, e1] at h
      have := congrArg List.length h
      simp only [List.length_append] at this
      exact List.length_eq_zero_iff.mp (by omega)
    rw [ht, List.append_nil] at e1
    cases j with
    | zero =>
      cases e
      have := (adds_mem (l := l) (cs := cands sts l i b)).mpr (.inr hq)
      rwa [e1] at this
    | succ j =>
      rw [e1] at h
      exact rnd1_fix sts A (i + 1) l h j a e q (by rwa [show i + 1 + j = i + (j + 1) by omega])
/-- a property that all steps keep -/
theorem rnd1_all (sts : List Stp) (P : Nat → Prop) : ∀ (A : List Int) (i : Nat) (l : List Nat), (∀ (j : Nat) (a : Int), A[j]? = some a → ∀ c : List Nat, c.length = a.toNat → (∀ q ∈ c, P q) → P (app (stp sts (i + j)) c)) → (∀ q ∈ l, P q) → ∀ q ∈ rnd1 sts A i l, P q
  | [], i, l, _, h => h
  | a :: A, i, l, hs, h => by
    refine rnd1_all sts P A (i + 1) _ (fun j b e c hc hp => ?_) fun q hq => ?_
    · have := hs (j + 1) b e c hc hp
      rwa [show i + (j + 1) = i + 1 + j by omega] at this
    · rcases adds_mem.mp hq with hq | hq
      · exact h q hq
      · obtain ⟨c, hc, rfl⟩ := List.mem_map.mp hq
        obtain ⟨hl, hm⟩ := chs_mem.mp hc
        exact hs 0 a rfl c hl fun x hx => h x (hm x hx)
theorem nd_len : ∀ (m : Nat) (l : List Nat), l.Nodup → (∀ q ∈ l, q < m) → l.length ≤ m
  | 0, l, _, h => by
    cases l with
    | nil => exact Nat.le_refl _
    | cons x l => exact absurd (h x List.mem_cons_self) (by omega)
  | m + 1, l, hn, h => by
    have := nd_len m (l.erase m) (hn.erase m) fun q hq => by
      have h1 := h q (List.mem_of_mem_erase hq)
      have h2 : q ≠ m := fun e => by
        subst e
        exact ((List.Nodup.mem_erase_iff hn).mp hq).1 rfl
      omega
    rw [List.length_erase] at this
    split at this <;> omega
structure Gd (m : Nat) (l : List Nat) : Prop where
  nd : l.Nodup
  lt : ∀ q ∈ l, q < m
theorem Gd.len {m : Nat} {l : List Nat} (h : Gd m l) : l.length ≤ m := nd_len m l h.nd h.lt
theorem Gd.nil {m : Nat} : Gd m [] := ⟨List.nodup_nil, fun q h => by cases h⟩
section
variable {m : Nat} {A : List Int} {sts : List Stp} (h : StOk m A sts) (hA : Ar A)
include h hA
theorem steps_lt {j : Nat} {a : Int} (e : A[j]? = some a) {c : List Nat} (hc : c.length = a.toNat) (hp : ∀ q ∈ c, q < m) : app (stp sts j) c < m := by
  have := hA.le a (List.mem_of_getElem? e)
  exact app_lt (stp_get h e).1 (by omega) hp
theorem rnd_gd {l : List Nat} (g : Gd m l) : Gd m (rnd sts A l) :=
  ⟨rnd1_nd sts A 0 l g.nd, rnd1_all sts (· < m) A 0 l (fun j a e c hc hp => by rw [Nat.zero_add]; exact steps_lt h hA e hc hp) g.lt⟩
end
def itr (f : List Nat → List Nat) : Nat → List Nat → List Nat
  | 0, l => l
  | n + 1, l => itr f n (f l)
theorem itr_fix {f : List Nat → List Nat} {l : List Nat} (h : f l = l) : ∀ n, itr f n l = l
  | 0 => rfl
  | n + 1 => by rw [itr, h]; exact itr_fix h n
theorem itr_add (f : List Nat → List Nat) : ∀ (n k : Nat) (l : List Nat), itr f (n + k) l = itr f k (itr f n l)
  | 0, k, l => by rw [Nat.zero_add]; rfl
  | n + 1, k, l => by rw [show n + 1 + k = (n + k) + 1 by omega, itr, itr, itr_add f n k]
section
variable {m : Nat} {A : List Int} {sts : List Stp} (h : StOk m A sts) (hA : Ar A)
include h hA
theorem itr_gd : ∀ (n : Nat) (l : List Nat), Gd m l → Gd m (itr (rnd sts A) n l)
  | 0, l, g => g
  | n + 1, l, g => itr_gd n _ (rnd_gd h hA g)
theorem rnd_grow (l : List Nat) : rnd sts A l = l ∨ l.length < (rnd sts A l).length := by
  obtain ⟨t, e⟩ := rnd1_pre sts A 0 l
  have e : rnd sts A l = l ++ t := e
  rw [e]
  cases t with
  | nil => exact .inl (List.append_nil l)
  | cons x t => exact .inr (by simp)
theorem itr_done : ∀ (n : Nat) (l : List Nat), Gd m l → m < n + l.length → rnd sts A (itr (rnd sts A) n l) = itr (rnd sts A) n l
  | 0, l, g, hn => by have := g.len; omega
  | n + 1, l, g, hn => by
    rcases rnd_grow h hA l with e | e
    · rw [itr_fix e]; exact e
    · exact itr_done n _ (rnd_gd h hA g) (by omega)
end
/-- the states that trees have, as they are come to -/
def rl (sts : List Stp) (A : List Int) (m : Nat) : List Nat := itr (rnd sts A) (m + 1) []
section
variable {m : Nat} {A : List Int} {sts : List Stp} (h : StOk m A sts) (hA : Ar A)
include h hA
theorem rl_gd : Gd m (rl sts A m) := itr_gd h hA _ _ .nil
theorem rl_fix : rnd sts A (rl sts A m) = rl sts A m := itr_done h hA _ _ .nil (by simp)
theorem rl_of {n : Nat} (e : rnd sts A (itr (rnd sts A) n []) = itr (rnd sts A) n []) : itr (rnd sts A) n [] = rl sts A m := by
  have f1 := rl_fix h hA
  unfold rl at f1 ⊢
  rcases Nat.le_total n (m + 1) with c | c
  · have := itr_add (rnd sts A) n (m + 1 - n) []
    rw [show n + (m + 1 - n) = m + 1 by omega] at this
    rw [this, itr_fix e]
  · have := itr_add (rnd sts A) (m + 1) (n - (m + 1)) []
    rw [show m + 1 + (n - (m + 1)) = n by omega] at this
    rw [this, itr_fix f1]
theorem rl_closed {j : Nat} {a : Int} (e : A[j]? = some a) {c : List Nat} (hc : (c.length : Int) = a) (hp : ∀ q ∈ c, q ∈ rl sts A m) : app (stp sts j) c ∈ rl sts A m := by
  have := rnd1_fix sts A 0 _ (rl_fix h hA) j a e (app (stp sts j) c) (by
    rw [Nat.zero_add]
    exact List.mem_map.mpr ⟨c, chs_mem.mpr ⟨by omega, hp⟩, rfl⟩)
  exact this
/-- each tree's state is there -/
theorem rl_tree : ∀ t : T, t.ok A → st sts t ∈ rl sts A m
  | .l s, o => rl_closed h hA o rfl (by simp)
  | .u s a, o => rl_closed h hA o.1 rfl (by intro q hq; rw [List.mem_singleton.mp hq]; exact rl_tree a o.2)
  | .b s x y, o => rl_closed h hA o.1 rfl (by
      intro q hq
      rcases List.mem_cons.mp hq with rfl | hq
      · exact rl_tree x o.2.1
      · rw [List.mem_singleton.mp hq]; exact rl_tree y o.2.2)
omit h in
theorem rl_sound : ∀ q ∈ rl sts A m, ∃ t : T, t.ok A ∧ st sts t = q := by
  have key : ∀ (n : Nat) (l : List Nat), (∀ q ∈ l, ∃ t : T, t.ok A ∧ st sts t = q) → ∀ q ∈ itr (rnd sts A) n l, ∃ t : T, t.ok A ∧ st sts t = q := by
    intro n
    induction n with
    | zero => exact fun l hl => hl
    | succ n ih =>
      intro l hl
      refine ih _ (rnd1_all sts (fun q => ∃ t : T, t.ok A ∧ st sts t = q) A 0 l (fun j a e c hc hp => ?_) hl)
      rw [Nat.zero_add]
      have ha := hA.le a (List.mem_of_getElem? e)
      match c, hc, hp with
      | [], hc, _ => exact ⟨.l j, by show A[j]? = some 0; rw [e]; congr 1; simp at hc; omega, rfl⟩
      | [x], hc, hp =>
        obtain ⟨t, o, et⟩ := hp x (by simp)
        exact ⟨.u j t, ⟨by rw [e]; congr 1; simp at hc; omega, o⟩, by simp only [st]; rw [et]⟩
      | [x, y], hc, hp =>
        obtain ⟨t, o, et⟩ := hp x (by simp)
        obtain ⟨u, o', eu⟩ := hp y (by simp)
        exact ⟨.b j t u, ⟨by rw [e]; congr 1; simp at hc; omega, o, o'⟩, by simp only [st]; rw [et, eu]⟩
      | _ :: _ :: _ :: _, hc, _ => simp at hc; omega
  exact key _ _ (fun q hq => by cases hq)
end
/-- .. and ascending -/
def rs (sts : List Stp) (A : List Int) (m : Nat) : List Nat := (sortI ((rl sts A m).map fun (q : Nat) => (q : Int))).map Int.toNat
theorem rs_int (sts : List Stp) (A : List Int) (m : Nat) : (sortI ((rl sts A m).map fun (q : Nat) => (q : Int))) = (rs sts A m).map fun (q : Nat) => (q : Int) := by
  unfold rs
  rw [List.map_map]
  conv => lhs; rw [← List.map_id (sortI ((rl sts A m).map fun (q : Nat) => (q : Int)))]
  refine List.map_congr_left fun x hx => ?_
  have := (sortI_perm _).mem_iff.mp hx
  obtain ⟨q, _, rfl⟩ := List.mem_map.mp this
  simp
theorem rs_mem {sts : List Stp} {A : List Int} {m q : Nat} : q ∈ rs sts A m ↔ q ∈ rl sts A m := by
  have h1 : (q : Int) ∈ sortI ((rl sts A m).map fun (q : Nat) => (q : Int)) ↔ q ∈ rs sts A m := by
    rw [rs_int, List.mem_map]
    exact ⟨fun ⟨x, hx, e⟩ => by rw [← Int.ofNat_inj.mp e]; exact hx, fun h => ⟨q, h, rfl⟩⟩
  rw [← h1, (sortI_perm _).mem_iff, List.mem_map]
  exact ⟨fun ⟨x, hx, e⟩ => by rw [← Int.ofNat_inj.mp e]; exact hx, fun h => ⟨q, h, rfl⟩⟩
theorem rs_len {sts : List Stp} {A : List Int} {m : Nat} : (rs sts A m).length = (rl sts A m).length := by
  unfold rs
  rw [List.length_map, (sortI_perm _).length_eq, List.length_map]
end G
set_option linter.all false
set_option autoImplicit false
set_option maxRecDepth 100000
set_option maxHeartbeats 2000000
namespace G
open PySem L2
theorem int_iD (l : List Nat) : intL (iD l) = some (l.map fun (q : Nat) => (q : Int)) := by
  induction l with
  | nil => rfl
  | cons x l ih =>
    show (intL (iD l)).map (((x : Nat) : Int) :: ·) = _
    rw [ih]; rfl
theorem in_int (q : Nat) (l : List Nat) : inD (.int (q : Int)) (iD l) = some (decide (q ∈ l)) := by
  unfold inD
  rw [show SeqAt.shaped (.list (iD l)) = true from (W.list fun x hx => by obtain ⟨i, _, rfl⟩ := List.mem_map.mp hx; exact W.int 0 _).sh (by omega), sh_int]
  simp only [Bool.and_self, if_true, Option.some.injEq]
  induction l with
  | nil => rfl
  | cons x l ih =>
    rw [iD, List.map_cons, List.any_cons, show (List.map (fun (i : Nat) => PyData.int ↑i) l) = iD l from rfl, ih, ev_int]
    simp only [List.mem_cons, ← Bool.decide_or]
    exact decide_eq_decide.mpr ⟨fun h => h.imp (fun e => (Int.ofNat_inj.mp e).symm) id, fun h => h.imp (fun e => by rw [e]) id⟩
end G
set_option linter.all false
set_option autoImplicit false
set_option maxRecDepth 100000
set_option maxHeartbeats 2000000
namespace G
open PySem L2
theorem rng_cons (lo : Int) (n : Nat) : rng lo (n + 1) = .int lo :: rng (lo + 1) n := by
  unfold rng
  rw [List.range_succ_eq_map, List.map_cons, List.map_map]
  congr 1
  · simp
  · refine List.map_congr_left fun i _ => ?_
    show PyData.int (lo + ((i + 1 : Nat) : Int)) = PyData.int (lo + 1 + (i : Int))
    congr 1
    omega
theorem for_cons_nx {mg : MG} {mb : MS} {x : D} {xs : List D} {ρ ρ1 ρ2 : Rho} {S S2 : Sto} (h1 : mg x ρ = some ρ1) (h2 : mb ρ1 S = some (.nx, ρ2, S2)) : forRun mg mb (x :: xs) ρ S = forRun mg mb xs ρ2 S2 := by
  simp [forRun, h1, h2]
theorem for_eq {mi : MN} {mg : MG} {mb : MS} {ρ : Rho} {S S1 : Sto} {xs : List D} (h : mi ρ S = some (xs, S1)) : mFor mi mg mb ρ S = forRun mg mb xs ρ S1 := by simp [mFor, h]
theorem lc_of {mi : MN} {mg : MG} {mt : MT} {me : ME} {vs : List Nat} {ρ : Rho} {S S1 : Sto} {xs : List D} {r : Option (List D × Sto)} (h : mi ρ S = some (xs, S1)) (hz : xs.length ≤ 1000000) (hr : lcRun mg mt me xs (wipeR ρ vs) S1 = r) : mLc mi mg mt me vs ρ S = r := by
  unfold mLc
  rw [h, Option.bind_some]
  show (if xs.length ≤ 1000000 then _ else none) = _
  rw [if_pos hz]
  exact hr
theorem tuple_of {m : MN} {ρ : Rho} {S S1 : Sto} {xs : List D} (h : m ρ S = some (xs, S1)) : mTuple m ρ S = some (.tuple xs, S1) := by simp [mTuple, h]
theorem ret_of {me : ME} {ρ : Rho} {S S1 : Sto} {d : D} (h : me ρ S = some (d, S1)) : mRet me ρ S = some (.rt (.val d), ρ, S1) := by simp [mRet, h]
theorem asg_of {me : ME} {mg : MG} {ρ ρ1 : Rho} {S S1 : Sto} {d : D} (h : me ρ S = some (d, S1)) (hg : mg d ρ = some ρ1) : mAsg me mg ρ S = some (.nx, ρ1, S1) := by simp [mAsg, h, hg]
theorem en_of {m : MN} {ρ : Rho} {S S1 : Sto} {xs : List D} (h : m ρ S = some (xs, S1)) : mEN m ρ S = some (.list xs, S1) := by simp [mEN, h]
theorem def_rtS {body : Nat → MS} {s : Sl} {k : Nat} {r : Rt} {ρ' : Rho} {S S' S'' : Sto} (h : body S.length (some s :: List.replicate k none) S = some (.rt r, ρ', S')) (ht : S'.take S.length = S'') : mDef 1 (k + 1) body [s] S = some (r, S'') := by
  simp [mDef, h, ht]
theorem def_rt2S {body : Nat → MS} {a b : Sl} {k : Nat} {r : Rt} {ρ' : Rho} {S S' S'' : Sto} (h : body S.length (some a :: some b :: List.replicate k none) S = some (.rt r, ρ', S')) (ht : S'.take S.length = S'') : mDef 2 (k + 2) body [a, b] S = some (r, S'') := by
  simp [mDef, h, ht]
theorem def_rt3S {body : Nat → MS} {a b c : Sl} {k : Nat} {r : Rt} {ρ' : Rho} {S S' S'' : Sto} (h : body S.length (some a :: some b :: some c :: List.replicate k none) S = some (.rt r, ρ', S')) (ht : S'.take S.length = S'') : mDef 3 (k + 3) body [a, b, c] S = some (r, S'') := by
  simp [mDef, h, ht]
theorem def_nx2S {body : Nat → MS} {a b : Sl} {k : Nat} {ρ' : Rho} {S S' S'' : Sto} (h : body S.length (some a :: some b :: List.replicate k none) S = some (.nx, ρ', S')) (ht : S'.take S.length = S'') : mDef 2 (k + 2) body [a, b] S = some (.val .none, S'') := by
  simp [mDef, h, ht]
theorem call1_of {F : Fn} {j : Nat} {s : Sl} {d : D} {ρ : Rho} {S S1 : Sto} (h : ρ[j]? = some (some s)) (e : F [s] S = some (.val d, S1)) : mCall 1 F (mAV j mA0) ρ S = some (d, S1) := by
  simp [mCall, mAV, mA0, h, e, rtD]
theorem call2_of {F : Fn} {i j : Nat} {s s' : Sl} {d : D} {ρ : Rho} {S S1 : Sto} (h : ρ[i]? = some (some s)) (h' : ρ[j]? = some (some s')) (e : F [s, s'] S = some (.val d, S1)) : mCall 2 F (mAV i (mAV j mA0)) ρ S = some (d, S1) := by
  simp [mCall, mAV, mA0, h, h', e, rtD]
theorem call3_of {F : Fn} {i j k : Nat} {s s' s'' : Sl} {d : D} {ρ : Rho} {S S1 : Sto} (h : ρ[i]? = some (some s)) (h' : ρ[j]? = some (some s')) (h'' : ρ[k]? = some (some s'')) (e : F [s, s', s''] S = some (.val d, S1)) : mCall 3 F (mAV i (mAV j (mAV k mA0))) ρ S = some (d, S1) := by
  simp [mCall, mAV, mA0, h, h', h'', e, rtD]
theorem op_of {f : D → D → Option D} {ma mb : ME} {ρ : Rho} {S S1 S2 : Sto} {x y z : D} (h : ma ρ S = some (x, S1)) (h' : mb ρ S1 = some (y, S2)) (e : f x y = some z) : mOp f ma mb ρ S = some (z, S2) := by
  simp [mOp, h, h', e]
theorem tb_of {m : ME} {ρ : Rho} {S S1 : Sto} {b : Bool} (h : m ρ S = some (.bool b, S1)) : mTB m ρ S = some (b, S1) := by simp [mTB, h]
theorem or_of {a b : MT} {ρ : Rho} {S S1 S2 : Sto} {y : Bool} (h : a ρ S = some (false, S1)) (h' : b ρ S1 = some (y, S2)) : mOr a b ρ S = some (y, S2) := by simp [mOr, h, h']
theorem ifF_of {c : MT} {m1 m2 : MS} {ρ : Rho} {S S1 : Sto} (h : c ρ S = some (false, S1)) : mIfS c m1 m2 ρ S = m2 ρ S1 := by simp [mIfS, h]
theorem r1_eq {m : ME} {ρ : Rho} {S S1 : Sto} {j : Int} (h : m ρ S = some (.int j, S1)) (hb : bRng j = true) : mR1 m ρ S = some (rng 0 j.toNat, S1) := by
  unfold mR1
  rw [h, Option.bind_some]
  show (if bRng j = true then some (rng 0 j.toNat, S1) else none) = _
  rw [if_pos hb]
end G
set_option linter.all false
set_option autoImplicit false
set_option maxRecDepth 100000
set_option maxHeartbeats 2000000
namespace G
open PySem L2
end G
set_option linter.all false
set_option autoImplicit false
set_option maxRecDepth 100000
set_option maxHeartbeats 2000000
namespace G
open PySem L2
/-! loops over cells that no turn changes -/
theorem forCell_eq {mg : MG} {mb : MS} {n : Nat} {S : Sto} {xs : List D} (hS : S[n]? = some (some xs)) (hb : ∀ (ρ : Rho) (o : Out) (ρ2 : Rho) (S2 : Sto), mb ρ S = some (o, ρ2, S2) → S2 = S) : ∀ (f i : Nat) (ρ : Rho), i ≤ xs.length → xs.length < f + i → forCell mg mb n f i ρ S = forRun mg mb (xs.drop i) ρ S
  | 0, i, ρ, hi0, hf => by omega
  | f + 1, i, ρ, hi0, hf => by
    unfold forCell cellAt
    rw [hS]
    simp only [Option.join_some, Option.map_some, Option.bind_some]
    by_cases hi : i < xs.length
    · rw [List.getElem?_eq_getElem hi, List.drop_eq_getElem_cons hi]
      simp only
      unfold forRun
      cases e1 : mg xs[i] ρ with
      | none => rfl
      | some ρ1 =>
        rw [Option.bind_some, Option.bind_some]
        cases e2 : mb ρ1 S with
        | none => rfl
        | some p =>
          obtain ⟨o, ρ2, S2⟩ := p
          have := hb ρ1 o ρ2 S2 e2
          subst this
          cases o with
          | nx => exact forCell_eq hS hb f (i + 1) ρ2 (by omega) (by omega)
          | ct => exact forCell_eq hS hb f (i + 1) ρ2 (by omega) (by omega)
          | bk => rfl
          | rt r => rfl
    · rw [List.getElem?_eq_none (by omega), List.drop_eq_nil_of_le (by omega)]
      rfl
theorem ix_S {i j k : Nat} {ρ : Rho} {S : Sto} {o : Out} {ρ2 : Rho} {S2 : Sto} (h : mAsg (mIxV i (mVar j)) (mgN k) ρ S = some (o, ρ2, S2)) : S2 = S := by
  unfold mAsg mIxV at h
  cases e1 : mVar j ρ S with
  | none => rw [e1] at h; cases h
  | some p =>
    have hp : p.2 = S := by
      unfold mVar at e1
      split at e1 <;> first | (cases e1; done) | skip
      cases e1; rfl
    rw [e1, Option.bind_some] at h
    split at h
    · rename_i q hq
      cases e2 : mQVar i ρ p.2 with
      | none => rw [e2] at h; cases h
      | some q2 =>
        rw [e2, Option.bind_some] at h
        cases e3 : atI q2.1 q with
        | none => rw [e3] at h; cases h
        | some z =>
          rw [e3] at h
          simp only [mgN, Option.map_some, Option.bind_some] at h
          cases h
          exact hp
    · cases h
/-- the state of the whole if the part at the place had this state -/
def stAb (sts : List Stp) : T → List Nat → Nat → Nat
  | _, [], q => q
  | .l _, _ :: _, q => q
  | .u s a, _ :: p, q => app (stp sts s) [stAb sts a p q]
  | .b s x y, 0 :: p, q => app (stp sts s) [stAb sts x p q, st sts y]
  | .b s x y, _ :: p, q => app (stp sts s) [st sts x, stAb sts y p q]
theorem stAb_put (sts : List Stp) (u : T) : ∀ (p : List Nat) (t : T), t.has p → stAb sts t p (st sts u) = st sts (tput u t p)
  | [], t, _ => by cases t <;> rfl
  | i :: p, .l s, h => by cases i <;> exact absurd h (by simp [T.has])
  | i :: p, .u s a, h => by
    cases i with
    | succ i => exact absurd h (by simp [T.has])
    | zero => simp only [stAb, tput, st]; rw [stAb_put sts u p a h]
  | i :: p, .b s x y, h => by
    cases i with
    | zero => simp only [stAb, tput, st]; rw [stAb_put sts u p x h]
    | succ i =>
      cases i with
      | succ i => exact absurd h (by simp [T.has])
      | zero => simp only [stAb, tput, st]; rw [stAb_put sts u p y h]
theorem stAb_own (sts : List Stp) : ∀ (p : List Nat) (t : T), t.has p → stAb sts t p (st sts (t.sub p)) = st sts t
  | [], t, _ => by cases t <;> rfl
  | i :: p, .l s, h => by cases i <;> exact absurd h (by simp [T.has])
  | i :: p, .u s a, h => by
    cases i with
    | succ i => exact absurd h (by simp [T.has])
    | zero => simp only [stAb, T.sub, st]; rw [stAb_own sts p a h]
  | i :: p, .b s x y, h => by
    cases i with
    | zero => simp only [stAb, T.sub, st]; rw [stAb_own sts p x h]
    | succ i =>
      cases i with
      | succ i => exact absurd h (by simp [T.has])
      | zero => simp only [stAb, T.sub, st]; rw [stAb_own sts p y h]
theorem stAb_lt {m : Nat} {A : List Int} {sts : List Stp} (h : StOk m A sts) : ∀ (p : List Nat) (t : T) (q : Nat), t.ok A → q < m → stAb sts t p q < m
  | [], t, q, o, hq => by cases t <;> exact hq
  | i :: p, .l s, q, o, hq => hq
  | i :: p, .u s a, q, o, hq => app_lt (stp_get h o.1).1 rfl (by intro x hx; rw [List.mem_singleton.mp hx]; exact stAb_lt h p a q o.2 hq)
  | i :: p, .b s x y, q, o, hq => by
    cases i with
    | zero => exact app_lt (stp_get h o.1).1 rfl (by
        intro z hz
        rcases List.mem_cons.mp hz with rfl | hz
        · exact stAb_lt h p x q o.2.1 hq
        · rw [List.mem_singleton.mp hz]; exact st_lt h y o.2.2)
    | succ i => exact app_lt (stp_get h o.1).1 rfl (by
        intro z hz
        rcases List.mem_cons.mp hz with rfl | hz
        · exact st_lt h x o.2.1
        · rw [List.mem_singleton.mp hz]; exact stAb_lt h p y q o.2.2 hq)
end G
set_option linter.all false
set_option autoImplicit false
set_option maxRecDepth 100000
set_option maxHeartbeats 2000000
namespace G
open PySem L2
theorem has_bits : ∀ (p : List Nat) (t : T), t.has p → ∀ i ∈ p, i ≤ 1
  | [], t, _, i, hi => by cases hi
  | j :: p, .l s, h, i, hi => by cases j <;> exact absurd h (by simp [T.has])
  | j :: p, .u s a, h, i, hi => by
    cases j with
    | succ j => exact absurd h (by simp [T.has])
    | zero =>
      rcases List.mem_cons.mp hi with rfl | hi
      · omega
      · exact has_bits p a h i hi
  | j :: p, .b s x y, h, i, hi => by
    cases j with
    | zero =>
      rcases List.mem_cons.mp hi with rfl | hi
      · omega
      · exact has_bits p x h i hi
    | succ j =>
      cases j with
      | succ j => exact absurd h (by simp [T.has])
      | zero =>
        rcases List.mem_cons.mp hi with rfl | hi
        · omega
        · exact has_bits p y h i hi
theorem T.dt (t : T) : ∃ xs, t.d = .tuple xs := by cases t <;> exact ⟨_, rfl⟩
theorem has_plen {t : T} {p : List Nat} (h : t.has p) : p.length < t.n := places_plen t p (has_places p t h)
theorem is_place_eq (p : List Nat) (h1 : p.length ≤ 14) (h2 : ∀ i ∈ p, i ≤ 1) (S : Sto) : d_is_place d_is_tuple (d_are_integers d_is_integer) [.d (pD p)] S = some (.val (.bool true), S) := by
  have e1 := is_tuple_eq (pD p) 0 14 S rfl
  have e2 := are_integers_eq (iD p) 0 1 S (fun x hx => by obtain ⟨i, _, rfl⟩ := List.mem_map.mp hx; rfl) (by rw [List.length_map]; omega)
  have e3 : ((iD p).all fun x => isInt x 0 1) = true := by
    rw [List.all_eq_true]
    intro x hx
    obtain ⟨i, hi, rfl⟩ := List.mem_map.mp hx
    have := h2 i hi
    show (decide (0 ≤ (i : Int)) && decide ((i : Int) ≤ 1)) = true
    rw [Bool.and_eq_true, decide_eq_true_eq, decide_eq_true_eq]
    omega
  rw [e3] at e2
  simp [d_is_place, mDef, mSeq, mRet, mRetL, mRetV, mRetN, mIfS, mAsg, mNew, mAug, mSub, mApp, mExtN, mExtT, mPop, mDrop, mNext, mNever, mOp, mUn, mVar, mC, mQVar, mLVar, mIxV, mQE, mLE, mEN, asL, asQ, mTup, mLst, mDs, datas, mA0, mA1, mAV, mCat, mTB, mTru, tru, mTruQ, mAnd, mOr, mNot, mAndV, mOrV, mNotV, mIf, mChain, mLen, mAll, mAny, mBools, mSum, mList, mTuple, mB, fAbs, fInt, fMax2, fMin2, mIsi, fIsi, tyN, fAdd, fTT, fSub, fMulX, fMul, fRep, fII, fI0, bMul, bDiv, bMod, bPow, fDiv, fMod, fPow, fLt, fLe, fGt, fGe, fIs, fIsNot, fIsB, fNotB, fIsN, fNotN, isN, fNeg, fIx, mCall, mCallN, rtD, rtN, mgN, mg0, mg1, mgT, mO0, mO1, mSlT, mSlL, mYes, mR1, mR2, mNotT, mNotTQ, mSortI, mZip, mEnum, mInQ, mCatV, mCatX, mCatY, mSlV, mForV, mLcV, mIdx, mPopI, mRg1, mR3, mRevT, fBool, Option.bind, e1, e2, isTup, show (p.length : Int) ≤ 14 by omega]
def ftL (sts : List Stp) (A : List Int) (good : List Bool) (t : T) (p : List Nat) : List Nat := (rs sts A good.length).filter fun q => good.getD (stAb sts t p q) false
theorem good_ix {good : List Bool} {s : Nat} (hl : s < good.length) : atI (good.map PyData.bool) (s : Int) = some (.bool (good.getD s false)) := by
  rw [atI_n (by omega) (by rw [List.length_map]; omega), Int.toNat_natCast, List.getElem?_map, List.getD_eq_getElem?_getD, List.getElem?_eq_getElem hl]
  rfl
/-- a comprehension that keeps some ints -/
theorem lc_keep {mg : MG} {mt : MT} {me : ME} {ρ : Rho} {S : Sto} (f : Nat → Bool) (ρf : Nat → Rho) (l : List Nat) (h1 : ∀ q ∈ l, mg (.int (q : Nat)) ρ = some (ρf q)) (h2 : ∀ q ∈ l, mt (ρf q) S = some (f q, S)) (h3 : ∀ q ∈ l, me (ρf q) S = some (.int (q : Nat), S)) :
    lcRun mg mt me (iD l) ρ S = some (iD (l.filter f), S) := by
  induction l with
  | nil => rfl
  | cons x l ih =>
    have ih := ih (fun q hq => h1 q (List.mem_cons_of_mem _ hq)) (fun q hq => h2 q (List.mem_cons_of_mem _ hq)) (fun q hq => h3 q (List.mem_cons_of_mem _ hq))
    rw [iD, List.map_cons]
    unfold lcRun
    rw [h1 x List.mem_cons_self, Option.bind_some, h2 x List.mem_cons_self, Option.bind_some]
    rw [show (List.map (fun (i : Nat) => PyData.int ↑i) l) = iD l from rfl, List.filter_cons]
    cases e : f x with
    | true => simp [h3 x List.mem_cons_self, ih]
    | false => simp [ih]
end G
set_option linter.all false
set_option autoImplicit false
set_option maxRecDepth 100000
set_option maxHeartbeats 2000000
namespace G
open PySem L2
theorem stream_eq (ns : List Int) (S : Sto) : d__law_stream [.d (.list (ns.map .int))] S = some (.new (Cell ns 0 0), S) := by
  simp [d__law_stream, mDef, mSeq, mRet, mRetL, mRetV, mRetN, mIfS, mAsg, mNew, mAug, mSub, mApp, mExtN, mExtT, mPop, mDrop, mNext, mNever, mOp, mUn, mVar, mC, mQVar, mLVar, mIxV, mQE, mLE, mEN, asL, asQ, mTup, mLst, mDs, datas, mA0, mA1, mAV, mCat, mTB, mTru, tru, mTruQ, mAnd, mOr, mNot, mAndV, mOrV, mNotV, mIf, mChain, mLen, mAll, mAny, mBools, mSum, mList, mTuple, mB, fAbs, fInt, fMax2, fMin2, mIsi, fIsi, tyN, fAdd, fTT, fSub, fMulX, fMul, fRep, fII, fI0, bMul, bDiv, bMod, bPow, fDiv, fMod, fPow, fLt, fLe, fGt, fGe, fIs, fIsNot, fIsB, fNotB, fIsN, fNotN, isN, fNeg, fIx, mCall, mCallN, rtD, rtN, mgN, mg0, mg1, mgT, mO0, mO1, mSlT, mSlL, mYes, mR1, mR2, mNotT, mNotTQ, mSortI, mZip, mEnum, mInQ, mCatV, mCatX, mCatY, mSlV, mForV, mLcV, mIdx, mPopI, mRg1, mR3, mRevT, fBool, Option.bind]
theorem law_int_eq (i : Int) (S : Sto) : d__law_is_integer [.d (.int i)] S = some (.val (.bool true), S) := by
  obtain ⟨a1, a2, a3, a4, a5, a6⟩ := kit1
  obtain ⟨b1, b2, b3, b4, b5, b6⟩ := kit2
  simp [d__law_is_integer, mDef, mSeq, mRet, mRetL, mRetV, mRetN, mIfS, mAsg, mNew, mAug, mSub, mApp, mExtN, mExtT, mPop, mDrop, mNext, mNever, mOp, mUn, mVar, mC, mQVar, mLVar, mIxV, mQE, mLE, mEN, asL, asQ, mTup, mLst, mDs, datas, mA0, mA1, mAV, mCat, mTB, mTru, tru, mTruQ, mAnd, mOr, mNot, mAndV, mOrV, mNotV, mIf, mChain, mLen, mAll, mAny, mBools, mSum, mList, mTuple, mB, fAbs, fInt, fMax2, fMin2, mIsi, fIsi, tyN, fAdd, fTT, fSub, fMulX, fMul, fRep, fII, fI0, bMul, bDiv, bMod, bPow, fDiv, fMod, fPow, fLt, fLe, fGt, fGe, fIs, fIsNot, fIsB, fNotB, fIsN, fNotN, isN, fNeg, fIx, mCall, mCallN, rtD, rtN, mgN, mg0, mg1, mgT, mO0, mO1, mSlT, mSlL, mYes, mR1, mR2, mNotT, mNotTQ, mSortI, mZip, mEnum, mInQ, mCatV, mCatX, mCatY, mSlV, mForV, mLcV, mIdx, mPopI, mRg1, mR3, mRevT, fBool, Option.bind, *]
theorem def_rt {body : Nat → MS} {s : Sl} {k : Nat} {d : D} {ρ' : Rho} {S' : Sto} (h : body 0 (some s :: List.replicate k none) [] = some (.rt (.val d), ρ', S')) : mDef 1 (k + 1) body [s] [] = some (.val d, []) := by
  simp [mDef, h]
theorem ne_plT (w p : List Nat) (k : Nat) : fNe (.tuple ((iD w).take k)) (pD p) = some (.bool (!decide (w.take k = p))) := by
  have := ne_pl (w.take k) p
  rw [show pD (w.take k) = .tuple ((iD w).take k) by unfold pD iD; rw [List.map_take]] at this
  exact this
theorem for_nx {P : Rho → Prop} {mg : MG} {mb : MS} {S : Sto} : ∀ (xs : List D) (ρ : Rho), P ρ → (∀ x ∈ xs, ∀ ρ, P ρ → ∃ ρ1 ρ2, mg x ρ = some ρ1 ∧ P ρ2 ∧ mb ρ1 S = some (.nx, ρ2, S)) → ∃ ρ', P ρ' ∧ forRun mg mb xs ρ S = some (.nx, ρ', S)
  | [], ρ, h, _ => ⟨ρ, h, rfl⟩
  | x :: xs, ρ, h, hb => by
    obtain ⟨ρ1, ρ2, e1, h2, e2⟩ := hb x List.mem_cons_self ρ h
    obtain ⟨ρ', h3, e3⟩ := for_nx xs ρ2 h2 (fun y hy => hb y (List.mem_cons_of_mem _ hy))
    refine ⟨ρ', h3, ?_⟩
    unfold forRun
    rw [e1, Option.bind_some, e2, Option.bind_some]
    exact e3
/-- .. and the store goes on, too -/
theorem for_nxS {P : Rho → Sto → Prop} {mg : MG} {mb : MS} : ∀ (xs : List D) (ρ : Rho) (S : Sto), P ρ S → (∀ x ∈ xs, ∀ ρ S, P ρ S → ∃ ρ1 ρ2 S2, mg x ρ = some ρ1 ∧ P ρ2 S2 ∧ mb ρ1 S = some (.nx, ρ2, S2)) → ∃ ρ' S', P ρ' S' ∧ forRun mg mb xs ρ S = some (.nx, ρ', S')
  | [], ρ, S, h, _ => ⟨ρ, S, h, rfl⟩
  | x :: xs, ρ, S, h, hb => by
    obtain ⟨ρ1, ρ2, S2, e1, h2, e2⟩ := hb x List.mem_cons_self ρ S h
    obtain ⟨ρ', S', h3, e3⟩ := for_nxS xs ρ2 S2 h2 (fun y hy => hb y (List.mem_cons_of_mem _ hy))
    refine ⟨ρ', S', h3, ?_⟩
    unfold forRun
    rw [e1, Option.bind_some, e2, Option.bind_some]
    exact e3
/-- draws of trees -/
theorem tree_draw {A : List Int} (hA : Ar A) (m : Int) (h1 : 1 ≤ m) (h15 : m ≤ 15) (S : Sto) (h : Sg 0 S) : ∃ (g : Int) (t : T) (S1 S2 : Sto), t.ok A ∧ (t.n : Int) ≤ m ∧ Ad 0 S S2 ∧ (lev 59)._law_next [.loc 0, .d (.int m)] S = some (.val (.int g), S1) ∧ (lev 59)._law_tree [.loc 0, .d (dA A), .d (.int (1 + g))] S1 = some (.val t.d, S2) := by
  obtain ⟨g, S1, g0, g1, ad, e⟩ := next_sp m 0 S h (by omega) (by omega)
  obtain ⟨t, S2, to, tn, ad2, e2⟩ := tree_sp hA (1 + g).toNat 59 0 S1 (by omega) (by omega) (by omega) ad.sg
  rw [show (((1 + g).toNat : Nat) : Int) = 1 + g by omega] at e2
  exact ⟨g, t, S1, S2, to, by omega, ad.trans ad2, e, e2⟩
theorem lev_aut : (lev 59)._law_automaton = d__law_automaton d__law_next (lev (54 + 4))._law_step := rfl
abbrev LV : Nat := 60
/-- the stream and the automaton drawn -/
theorem aut_draw (most : Nat) (h2 : 2 ≤ most) (h4 : most ≤ 4) (ns : List Int) : ∃ A good sts S1, AuOk A good sts ∧ Sg 0 S1 ∧ S1.length = 1 ∧ (lev 59)._law_stream [.d (.list (ns.map .int))] [] = some (.new (Cell ns 0 0), []) ∧ (lev 59)._law_automaton [.loc 0, .d (.int most)] [some (Cell ns 0 0)] = some (.val (auD A good sts), S1) := by
  have e0 : (lev 59)._law_stream [.d (.list (ns.map .int))] [] = _ := stream_eq ns []
  have s0 : Sg 0 [some (Cell ns 0 0)] := ⟨⟨ns, 0, 0, rfl, by omega, by omega⟩⟩
  obtain ⟨A, good, sts, S1, ha, ad1, e1⟩ := automaton_sp 0 54 most (by omega) h4 h2 _ s0
  rw [← lev_aut] at e1
  exact ⟨A, good, sts, S1, ha, ad1.sg, ad1.len, e0, e1⟩
end G
set_option linter.all false
set_option autoImplicit false
set_option maxRecDepth 100000
set_option maxHeartbeats 2000000
namespace G
open PySem L2
theorem W.inv {k : Nat} {xs : List D} (h : W (k + 1) (.tuple xs)) : ∀ x ∈ xs, W k x := by
  have hc : PyData.canLayAll0 xs = true := h.c
  have hd : PyData.depthAll xs ≤ k := Nat.le_of_succ_le_succ h.h
  clear h
  induction xs with
  | nil => intro x hx; cases hx
  | cons y ys ih =>
    have hc : (PyData.canLay0 y && PyData.canLayAll0 ys) = true := hc
    have hd : max (PyData.depth y) (PyData.depthAll ys) ≤ k := hd
    rw [Bool.and_eq_true] at hc
    have := Nat.max_le.mp hd
    intro x hx
    rcases List.mem_cons.mp hx with rfl | hx
    · exact ⟨hc.1, this.1⟩
    · exact ih hc.2 this.2 x hx
theorem W.nd {k : Nat} {v : D} (h : W k v) : notDict v = true := by
  cases v with
  | dict _ => exact absurd h.c (by simp [PyData.canLay0])
  | _ => rfl
def isI (v : D) : Bool := match v with
  | .int _ => true
  | _ => false
theorem law_int_any (v : D) (h : notDict v = true) (S : Sto) : d__law_is_integer [.d v] S = some (.val (.bool (isI v)), S) := by
  obtain ⟨a1, a2, a3, a4, a5, a6⟩ := kit1
  obtain ⟨b1, b2, b3, b4, b5, b6⟩ := kit2
  cases v with
  | dict _ => cases h
  | _ => simp [d__law_is_integer, mDef, mSeq, mRet, mRetL, mRetV, mRetN, mIfS, mAsg, mNew, mAug, mSub, mApp, mExtN, mExtT, mPop, mDrop, mNext, mNever, mOp, mUn, mVar, mC, mQVar, mLVar, mIxV, mQE, mLE, mEN, asL, asQ, mTup, mLst, mDs, datas, mA0, mA1, mAV, mCat, mTB, mTru, tru, mTruQ, mAnd, mOr, mNot, mAndV, mOrV, mNotV, mIf, mChain, mLen, mAll, mAny, mBools, mSum, mList, mTuple, mB, fAbs, fInt, fMax2, fMin2, mIsi, fIsi, tyN, fAdd, fTT, fSub, fMulX, fMul, fRep, fII, fI0, bMul, bDiv, bMod, bPow, fDiv, fMod, fPow, fLt, fLe, fGt, fGe, fIs, fIsNot, fIsB, fNotB, fIsN, fNotN, isN, fNeg, fIx, mCall, mCallN, rtD, rtN, mgN, mg0, mg1, mgT, mO0, mO1, mSlT, mSlL, mYes, mR1, mR2, mNotT, mNotTQ, mSortI, mZip, mEnum, mInQ, mCatV, mCatX, mCatY, mSlV, mForV, mLcV, mIdx, mPopI, mRg1, mR3, mRevT, fBool, Option.bind, isI, *]
theorem lc_rngG {m : Nat} {S : Sto} {me : ME} {mg : MG} {ρ : Rho} (f : Nat → D) (ρf : Nat → Rho) (h1 : ∀ i, i < m → mg (.int (i : Nat)) ρ = some (ρf i)) (h2 : ∀ i, i < m → me (ρf i) S = some (f i, S)) : lcRun mg mYes me (rng 0 m) ρ S = some ((List.range m).map f, S) := by
  have key := lc_map (mg := mg) (me := me) (ρ := ρ) (S := S) (fun d => match d with | .int i => f i.toNat | _ => .none) (fun d => match d with | .int i => ρf i.toNat | _ => []) (xs := rng 0 m) (fun x hx => by
    obtain ⟨i, rfl, hi⟩ := rng_mem hx
    simpa using h1 i hi) (fun x hx => by
    obtain ⟨i, rfl, hi⟩ := rng_mem hx
    simpa using h2 i hi)
  rw [key]
  unfold rng
  rw [List.map_map]
  congr 2
  exact List.map_congr_left fun i _ => by simp
theorem all_of {m : MN} {ρ : Rho} {S S1 : Sto} {bs : List Bool} (h : m ρ S = some (bs.map PyData.bool, S1)) : mAll m ρ S = some (.bool (bs.all id), S1) := by
  unfold mAll mBools
  rw [h, Option.bind_some]
  have : bools (bs.map PyData.bool) = some bs := by
    have := bools_map (fun (b : Bool) => b) bs
    simpa using this
  rw [this]
  rfl
theorem inv_all {v : D} {xs : List D} {k : Nat} (e : v = .tuple xs) (h : W (k + 1) v) (hd : dk v = true) : (∀ x ∈ xs, W k x ∧ dk x = true) ∧ xs.length ≤ 1000000 := by
  subst e
  have hdx : (dks xs && decide (xs.length ≤ 1000000)) = true := hd
  rw [Bool.and_eq_true, decide_eq_true_eq] at hdx
  exact ⟨fun x hx => ⟨W.inv h x hx, dks_mem hdx.1 x hx⟩, hdx.2⟩
theorem eq_int (a b : Int) : fEq (.int a) (.int b) = some (.bool (decide (a = b))) := by
  unfold fEq
  rw [sh_int, sh_int, ev_int]
  rfl
theorem for_test {P : Rho → Prop} {mg : MG} {mb : MS} {S : Sto} (b : D → Bool) : ∀ (xs : List D) (ρ : Rho), P ρ → (∀ x ∈ xs, ∀ ρ, P ρ → ∃ ρ1 ρ2, mg x ρ = some ρ1 ∧ P ρ2 ∧ mb ρ1 S = some (if b x then .nx else .rt (.val (.bool false)), ρ2, S)) → ∃ ρ', P ρ' ∧ forRun mg mb xs ρ S = some (if xs.all b then .nx else .rt (.val (.bool false)), ρ', S)
  | [], ρ, h, _ => ⟨ρ, h, rfl⟩
  | x :: xs, ρ, h, hb => by
    obtain ⟨ρ1, ρ2, e1, h2, e2⟩ := hb x List.mem_cons_self ρ h
    cases c : b x with
    | true =>
      rw [c] at e2
      obtain ⟨ρ', h3, e3⟩ := for_test b xs ρ2 h2 (fun y hy => hb y (List.mem_cons_of_mem _ hy))
      refine ⟨ρ', h3, ?_⟩
      rw [for_cons_nx e1 e2, e3, List.all_cons, c, Bool.true_and]
    | false =>
      rw [c] at e2
      refine ⟨ρ2, h2, ?_⟩
      rw [List.all_cons, c, Bool.false_and]
      unfold forRun
      rw [e1, Option.bind_some, e2]
      rfl
structure Gv (k : Nat) (d : D) : Prop where
  w : W k d
  d : dk d = true
theorem Gv.mono {k j : Nat} {d : D} (h : Gv k d) (hj : k ≤ j) : Gv j d := ⟨h.w.mono hj, h.d⟩
theorem dks_all : ∀ {xs : List D}, (∀ x ∈ xs, dk x = true) → dks xs = true
  | [], _ => rfl
  | x :: xs, h => by
    show (dk x && dks xs) = true
    rw [h x List.mem_cons_self, dks_all fun y hy => h y (List.mem_cons_of_mem _ hy)]
    rfl
theorem Gv.tup {k : Nat} {xs : List D} (h : ∀ x ∈ xs, Gv k x) (hz : xs.length ≤ 1000000) : Gv (k + 1) (.tuple xs) := ⟨W.tup fun x hx => (h x hx).w, by
  show (dks xs && decide (xs.length ≤ 1000000)) = true
  rw [dks_all fun x hx => (h x hx).d, decide_eq_true hz]
  rfl⟩
theorem Gv.list {k : Nat} {xs : List D} (h : ∀ x ∈ xs, W k x) : Gv (k + 1) (.list xs) := ⟨W.list h, rfl⟩
theorem Gv.int (k : Nat) (i : Int) : Gv k (.int i) := ⟨W.int k i, rfl⟩
theorem Gv.bool (k : Nat) (i : Bool) : Gv k (.bool i) := ⟨W.bool k i, rfl⟩
theorem Gv.non (k : Nat) : Gv k .none := ⟨W.non k, rfl⟩
theorem Gv.str (k : Nat) (x : Str) (h : SeqAt.shaped (.str x) = true) : Gv k (.str x) := ⟨⟨SeqAt.canLay_of_shaped h, Nat.zero_le _⟩, rfl⟩
theorem Gv.tree : ∀ t : T, Gv t.n t.d
  | .l s => Gv.tup (k := 0) (xs := [.int s]) (fun x hx => by rw [List.mem_singleton.mp hx]; exact .int _ _) (by simp)
  | .u s a => by
    refine Gv.tup (k := a.n) (xs := [.int s, a.d]) (fun x hx => ?_) (by simp)
    rcases List.mem_cons.mp hx with rfl | hx
    · exact .int _ _
    · rw [List.mem_singleton.mp hx]; exact Gv.tree a
  | .b s x y => by
    refine Gv.tup (k := x.n + y.n) (xs := [.int s, x.d, y.d]) (fun z hz => ?_) (by simp)
    rcases List.mem_cons.mp hz with rfl | hz
    · exact .int _ _
    · rcases List.mem_cons.mp hz with rfl | hz
      · exact (Gv.tree x).mono (by omega)
      · rw [List.mem_singleton.mp hz]; exact (Gv.tree y).mono (by omega)
theorem Gv.put {k : Nat} {x : D} (hx : Gv k x) : ∀ (p : List Nat) (t : T), Gv (t.n + k) (t.putD x p)
  | [], t => by have e : t.putD x [] = x := by cases t <;> rfl
                rw [e]; exact hx.mono (by omega)
  | i :: p, .l s => hx.mono (by omega)
  | i :: p, .u s a => by
    have e : (T.u s a).putD x (i :: p) = .tuple [.int s, a.putD x p] := by cases i <;> rfl
    rw [e]
    refine (Gv.tup (k := a.n + k) (fun z hz => ?_) (by simp)).mono (by simp only [T.n]; omega)
    rcases List.mem_cons.mp hz with rfl | hz
    · exact .int _ _
    · rw [List.mem_singleton.mp hz]; exact Gv.put hx p a
  | i :: p, .b s a b => by
    cases i with
    | zero =>
      refine (Gv.tup (k := a.n + b.n + k) (xs := [.int s, a.putD x p, b.d]) (fun z hz => ?_) (by simp)).mono (by simp only [T.n]; omega)
      rcases List.mem_cons.mp hz with rfl | hz
      · exact .int _ _
      · rcases List.mem_cons.mp hz with rfl | hz
        · exact (Gv.put hx p a).mono (by omega)
        · rw [List.mem_singleton.mp hz]; exact (Gv.tree b).mono (by omega)
    | succ i =>
      refine (Gv.tup (k := a.n + b.n + k) (xs := [.int s, a.d, b.putD x p]) (fun z hz => ?_) (by simp)).mono (by simp only [T.n]; omega)
      rcases List.mem_cons.mp hz with rfl | hz
      · exact .int _ _
      · rcases List.mem_cons.mp hz with rfl | hz
        · exact (Gv.tree a).mono (by omega)
        · rw [List.mem_singleton.mp hz]; exact (Gv.put hx p b).mono (by omega)
theorem tree_items (t : T) : ∃ xs, t.d = .tuple xs ∧ xs.length ≤ 3 ∧ ∀ x ∈ xs, Gv t.n x := by
  cases t with
  | l s => exact ⟨_, rfl, by simp, fun x hx => by rw [List.mem_singleton.mp hx]; exact .int _ _⟩
  | u s a => exact ⟨_, rfl, by simp, fun x hx => by
      rcases List.mem_cons.mp hx with rfl | hx
      · exact .int _ _
      · rw [List.mem_singleton.mp hx]; exact (Gv.tree a).mono (by simp only [T.n]; omega)⟩
  | b s x y => exact ⟨_, rfl, by simp, fun z hz => by
      rcases List.mem_cons.mp hz with rfl | hz
      · exact .int _ _
      · rcases List.mem_cons.mp hz with rfl | hz
        · exact (Gv.tree x).mono (by simp only [T.n]; omega)
        · rw [List.mem_singleton.mp hz]; exact (Gv.tree y).mono (by simp only [T.n]; omega)⟩
theorem sh_0 : SeqAt.shaped (.str "0") = true := by decide +kernel
/-- draws: a number, an item -/
theorem nx (lv : Nat) (hlv : (lev lv)._law_next = d__law_next) (m : Nat) (h0 : 0 < m) (hm : m ≤ 1000) (S : Sto) (h : Sg 0 S) : ∃ (g : Nat) (S' : Sto), g < m ∧ Ad 0 S S' ∧ (lev lv)._law_next [.loc 0, .d (.int (m : Nat))] S = some (.val (.int (g : Nat)), S') := by
  obtain ⟨g, S', g0, g1, ad, e⟩ := next_sp m 0 S h (by omega) (by omega)
  obtain ⟨n, rfl⟩ : ∃ n : Nat, g = n := ⟨g.toNat, by omega⟩
  exact ⟨n, S', by omega, ad, by rw [hlv]; exact e⟩
theorem call3a_of {F : Fn} {i j : Nat} {s s' : Sl} {m : ME} {x d : D} {ρ : Rho} {S S1 S2 : Sto} (h : ρ[i]? = some (some s)) (h' : ρ[j]? = some (some s')) (hm : m ρ S = some (x, S1)) (e : F [s, s', .d x] S1 = some (.val d, S2)) : mCall 3 F (mAV i (mAV j (mA1 m mA0))) ρ S = some (d, S2) := by
  simp [mCall, mAV, mA1, mA0, h, h', hm, e, rtD]
theorem lc_fdraw {mg : MG} {mt : MT} {me : ME} {ρ : Rho} {n : Nat} : ∀ (xs : List D), (∀ x ∈ xs, ∀ S, Sg n S → ∃ ρ1 b S', mg x ρ = some ρ1 ∧ mt ρ1 S = some (b, S') ∧ Ad n S S' ∧ me ρ1 S' = some (x, S')) → ∀ S, Sg n S → ∃ (ys : List D) (S' : Sto), ys.length ≤ xs.length ∧ (∀ y ∈ ys, y ∈ xs) ∧ Ad n S S' ∧ lcRun mg mt me xs ρ S = some (ys, S')
  | [], _, S, h => ⟨[], S, Nat.le_refl _, (fun y hy => by cases hy), Ad.refl h, rfl⟩
  | x :: xs, hb, S, h => by
    obtain ⟨ρ1, b, S1, e1, e2, ad, e3⟩ := hb x List.mem_cons_self S h
    obtain ⟨ys, S2, h1, h2, ad2, e4⟩ := lc_fdraw xs (fun y hy => hb y (List.mem_cons_of_mem _ hy)) S1 ad.sg
    cases b with
    | true =>
      refine ⟨x :: ys, S2, by simp only [List.length_cons]; omega, fun y hy => ?_, ad.trans ad2, ?_⟩
      · rcases List.mem_cons.mp hy with rfl | hy
        · exact List.mem_cons_self
        · exact List.mem_cons_of_mem _ (h2 y hy)
      · simp [lcRun, e1, e2, e3, e4]
    | false =>
      refine ⟨ys, S2, by simp only [List.length_cons]; omega, fun y hy => List.mem_cons_of_mem _ (h2 y hy), ad.trans ad2, ?_⟩
      simp [lcRun, e1, e2, e4]
theorem Gv.flat {xs : List D} (hz : xs.length ≤ 1000000) (h : ∀ x ∈ xs, Gv 0 x) : Gv 1 (.tuple xs) := Gv.tup (k := 0) h hz
theorem cut_mem {α : Type} (xs : List α) (a b : Option Int) : (∀ x ∈ cut xs a b, x ∈ xs) ∧ (cut xs a b).length ≤ xs.length := by
  unfold cut
  refine ⟨fun x hx => List.mem_of_mem_drop (List.mem_of_mem_take hx), ?_⟩
  rw [List.length_take, List.length_drop]
  omega
theorem pair_gv {k : Nat} {w x : D} (hw : Gv k w) (hx : Gv k x) : Gv (k + 1) (.tuple [w, x]) := Gv.tup (fun z hz => by
  rcases List.mem_cons.mp hz with rfl | hz
  · exact hw
  · rw [List.mem_singleton.mp hz]; exact hx) (by simp)
theorem rt_stop {m1 m2 : MS} {ρ ρ' : Rho} {S S' : Sto} {r : Rt} (e : m1 ρ S = some (.rt r, ρ', S')) : mSeq m1 m2 ρ S = some (.rt r, ρ', S') := by simp [mSeq, e]
theorem if_rt {c : MT} {m1 m2 : MS} {ρ ρ' : Rho} {S S' : Sto} {o : Out} (e1 : c ρ S = some (true, S)) (e2 : m1 ρ S = some (o, ρ', S')) : mIfS c m1 m2 ρ S = some (o, ρ', S') := by simp [mIfS, e1, e2]
theorem if_nx {c : MT} {m1 : MS} {ρ : Rho} {S : Sto} (e1 : c ρ S = some (false, S)) : mIfS c m1 mNext ρ S = some (.nx, ρ, S) := by simp [mIfS, e1, mNext]
end G
set_option linter.all false
set_option autoImplicit false
set_option maxRecDepth 100000
set_option maxHeartbeats 2000000
namespace G
open PySem L2
/-! runs, by whomever -/
mutual
def pl : D → Bool
  | .int _ => true
  | .tuple xs => pls xs
  | _ => false
def pls : List D → Bool
  | [] => true
  | x :: r => pl x && pls r
end
mutual
theorem eqv_pl : ∀ (x y : D), pl x = true → pl y = true → PyData.eqv x y = true → x = y
  | .int i, .int j, _, _, h => by
    have h : (i == j) = true := h
    rw [beq_iff_eq] at h
    rw [h]
  | .tuple xs, .tuple ys, hx, hy, h => by rw [eqv_pls xs ys hx hy h]
  | .int i, .tuple ys, _, _, h => by cases h
  | .tuple xs, .int j, _, _, h => by cases h
  | .none, _, hx, _, _ => by cases hx
  | .bool _, _, hx, _, _ => by cases hx
  | .str _, _, hx, _, _ => by cases hx
  | .list _, _, hx, _, _ => by cases hx
  | .dict _, _, hx, _, _ => by cases hx
  | .int _, .none, _, hy, _ => by cases hy
  | .int _, .bool _, _, hy, _ => by cases hy
  | .int _, .str _, _, hy, _ => by cases hy
  | .int _, .list _, _, hy, _ => by cases hy
  | .int _, .dict _, _, hy, _ => by cases hy
  | .tuple _, .none, _, hy, _ => by cases hy
  | .tuple _, .bool _, _, hy, _ => by cases hy
  | .tuple _, .str _, _, hy, _ => by cases hy
  | .tuple _, .list _, _, hy, _ => by cases hy
  | .tuple _, .dict _, _, hy, _ => by cases hy
theorem eqv_pls : ∀ (xs ys : List D), pls xs = true → pls ys = true → PyData.eqvAll xs ys = true → xs = ys
  | [], [], _, _, _ => rfl
  | [], _ :: _, _, _, h => by cases h
  | _ :: _, [], _, _, h => by cases h
  | x :: xs, y :: ys, hx, hy, h => by
    have hx : (pl x && pls xs) = true := hx
    have hy : (pl y && pls ys) = true := hy
    have h : (PyData.eqv x y && PyData.eqvAll xs ys) = true := h
    rw [Bool.and_eq_true] at hx hy h
    rw [eqv_pl x y hx.1 hy.1 h.1, eqv_pls xs ys hx.2 hy.2 h.2]
end
theorem pls_all {xs : List D} (h : ∀ x ∈ xs, pl x = true) : pls xs = true := by
  induction xs with
  | nil => rfl
  | cons x xs ih =>
    show (pl x && pls xs) = true
    rw [h x List.mem_cons_self, ih fun y hy => h y (List.mem_cons_of_mem _ hy)]
    rfl
theorem pl_place (p : List Nat) : pl (pD p) = true := pls_all fun x hx => by obtain ⟨i, _, rfl⟩ := List.mem_map.mp hx; rfl
theorem pl_ru (sts : List Stp) (t : T) : pl (.tuple (ruD sts t)) = true := pls_all fun x hx => by
  obtain ⟨p, _, rfl⟩ := List.mem_map.mp hx
  show (pl (pD p) && (true && true)) = true
  rw [pl_place]; rfl
open Classical in
noncomputable def isEq (x y : D) : Bool := decide (x = y)
open Classical in
theorem isEq_t {x y : D} (h : x = y) : isEq x y = true := decide_eq_true h
open Classical in
theorem isEq_f {x y : D} (h : x ≠ y) : isEq x y = false := decide_eq_false h
open Classical in
theorem isEq_iff {x y : D} : isEq x y = true ↔ x = y := by unfold isEq; exact ⟨fun h => of_decide_eq_true h, fun h => decide_eq_true h⟩
/-- == of two that are plain -/
theorem eq_pl {x y : D} {k j : Nat} (hx : W k x) (hk : k ≤ 64) (hy : W j y) (hj : j ≤ 64) (px : pl x = true) (py : pl y = true) : fEq x y = some (.bool (isEq x y)) := by
  unfold fEq
  rw [hx.sh hk, hy.sh hj]
  simp only [Bool.and_self, if_true, Option.some.injEq, PyData.bool.injEq]
  cases c : PyData.eqv x y with
  | true => rw [isEq_t (eqv_pl x y px py c)]
  | false =>
    rw [isEq_f]
    intro e
    subst e
    rw [hx.rf] at c
    cases c
theorem ne_pl2 {x y : D} {k j : Nat} (hx : W k x) (hk : k ≤ 64) (hy : W j y) (hj : j ≤ 64) (px : pl x = true) (py : pl y = true) : fNe x y = some (.bool (!isEq x y)) := by
  have := eq_pl hx hk hy hj px py
  unfold fEq at this
  unfold fNe
  split at this
  · rename_i h
    rw [if_pos h]
    simp only [Option.some.injEq, PyData.bool.injEq] at this ⊢
    rw [this]
  · cases this
/-! accepts_run -/
def isPl (v : D) : Bool := match v with
  | .tuple xs => decide ((xs.length : Int) ≤ 14) && xs.all fun x => isInt x 0 1
  | _ => false
def plc (v : D) : Bool := match v with
  | .tuple [w, i] => isPl w && isInt i 0 3
  | _ => false
theorem is_place_any (v : D) (hv : Gv 60 v) (S : Sto) : d_is_place d_is_tuple (d_are_integers d_is_integer) [.d v] S = some (.val (.bool (isPl v)), S) := by
  have e1 := is_tuple_eq v 0 14 S hv.w.nd
  cases v with
  | dict _ => exact absurd hv.w.nd (by simp [notDict])
  | tuple xs =>
    obtain ⟨hx, hz⟩ := inv_all rfl (hv.w.mono (show 60 ≤ 60 + 1 by omega)) hv.d
    have e2 := are_integers_eq xs 0 1 S (fun x h => (hx x h).1.nd) hz
    by_cases c : (xs.length : Int) ≤ 14
    · have t1 : isTup (.tuple xs) 0 14 = true := by simp [isTup, c]
      rw [t1] at e1
      have : isPl (.tuple xs) = xs.all fun x => isInt x 0 1 := by simp [isPl, c]
      rw [this]
      simp [d_is_place, mDef, mSeq, mRet, mRetL, mRetV, mRetN, mIfS, mAsg, mNew, mAug, mSub, mApp, mExtN, mExtT, mPop, mDrop, mNext, mNever, mOp, mUn, mVar, mC, mQVar, mLVar, mIxV, mQE, mLE, mEN, asL, asQ, mTup, mLst, mDs, datas, mA0, mA1, mAV, mCat, mTB, mTru, tru, mTruQ, mAnd, mOr, mNot, mAndV, mOrV, mNotV, mIf, mChain, mLen, mAll, mAny, mBools, mSum, mList, mTuple, mB, fAbs, fInt, fMax2, fMin2, mIsi, fIsi, tyN, fAdd, fTT, fSub, fMulX, fMul, fRep, fII, fI0, bMul, bDiv, bMod, bPow, fDiv, fMod, fPow, fLt, fLe, fGt, fGe, fIs, fIsNot, fIsB, fNotB, fIsN, fNotN, isN, fNeg, fIx, mCall, mCallN, rtD, rtN, mgN, mg0, mg1, mgT, mO0, mO1, mSlT, mSlL, mYes, mR1, mR2, mNotT, mNotTQ, mSortI, mZip, mEnum, mInQ, mCatV, mCatX, mCatY, mSlV, mForV, mLcV, mIdx, mPopI, mRg1, mR3, mRevT, fBool, Option.bind, e1, e2]
    · have t1 : isTup (.tuple xs) 0 14 = false := by simp [isTup, c]
      rw [t1] at e1
      have : isPl (.tuple xs) = false := by simp [isPl, c]
      rw [this]
      simp [d_is_place, mDef, mSeq, mRet, mRetL, mRetV, mRetN, mIfS, mAsg, mNew, mAug, mSub, mApp, mExtN, mExtT, mPop, mDrop, mNext, mNever, mOp, mUn, mVar, mC, mQVar, mLVar, mIxV, mQE, mLE, mEN, asL, asQ, mTup, mLst, mDs, datas, mA0, mA1, mAV, mCat, mTB, mTru, tru, mTruQ, mAnd, mOr, mNot, mAndV, mOrV, mNotV, mIf, mChain, mLen, mAll, mAny, mBools, mSum, mList, mTuple, mB, fAbs, fInt, fMax2, fMin2, mIsi, fIsi, tyN, fAdd, fTT, fSub, fMulX, fMul, fRep, fII, fI0, bMul, bDiv, bMod, bPow, fDiv, fMod, fPow, fLt, fLe, fGt, fGe, fIs, fIsNot, fIsB, fNotB, fIsN, fNotN, isN, fNeg, fIx, mCall, mCallN, rtD, rtN, mgN, mg0, mg1, mgT, mO0, mO1, mSlT, mSlL, mYes, mR1, mR2, mNotT, mNotTQ, mSortI, mZip, mEnum, mInQ, mCatV, mCatX, mCatY, mSlV, mForV, mLcV, mIdx, mPopI, mRg1, mR3, mRevT, fBool, Option.bind, e1]
  | _ => simp [d_is_place, mDef, mSeq, mRet, mRetL, mRetV, mRetN, mIfS, mAsg, mNew, mAug, mSub, mApp, mExtN, mExtT, mPop, mDrop, mNext, mNever, mOp, mUn, mVar, mC, mQVar, mLVar, mIxV, mQE, mLE, mEN, asL, asQ, mTup, mLst, mDs, datas, mA0, mA1, mAV, mCat, mTB, mTru, tru, mTruQ, mAnd, mOr, mNot, mAndV, mOrV, mNotV, mIf, mChain, mLen, mAll, mAny, mBools, mSum, mList, mTuple, mB, fAbs, fInt, fMax2, fMin2, mIsi, fIsi, tyN, fAdd, fTT, fSub, fMulX, fMul, fRep, fII, fI0, bMul, bDiv, bMod, bPow, fDiv, fMod, fPow, fLt, fLe, fGt, fGe, fIs, fIsNot, fIsB, fNotB, fIsN, fNotN, isN, fNeg, fIx, mCall, mCallN, rtD, rtN, mgN, mg0, mg1, mgT, mO0, mO1, mSlT, mSlL, mYes, mR1, mR2, mNotT, mNotTQ, mSortI, mZip, mEnum, mInQ, mCatV, mCatX, mCatY, mSlV, mForV, mLcV, mIdx, mPopI, mRg1, mR3, mRevT, fBool, Option.bind, e1, isTup, isPl]
abbrev plcF : Fn := d__is_placed_state d_is_tuple (d_is_place d_is_tuple (d_are_integers d_is_integer)) d_is_integer
theorem plc_eq (v : D) (hv : Gv 50 v) (S : Sto) : plcF [.d v] S = some (.val (.bool (plc v)), S) := by
  have e1 := is_tuple_eq v 2 2 S hv.w.nd
  by_cases c : ∃ w i, v = .tuple [w, i]
  · obtain ⟨w, i, rfl⟩ := c
    obtain ⟨hx, hz⟩ := inv_all rfl (hv.w.mono (show 50 ≤ 50 + 1 by omega)) hv.d
    have hw := hx w (by simp)
    have hi := hx i (by simp)
    have e2 := is_place_any w ⟨hw.1.mono (by omega), hw.2⟩ S
    have e3 := is_integer_eq i 0 3 S hi.1.nd
    have t1 : isTup (.tuple [w, i]) 2 2 = true := by simp [isTup]
    rw [t1] at e1
    have hp : plc (.tuple [w, i]) = (isPl w && isInt i 0 3) := rfl
    rw [hp]
    cases cw : isPl w with
    | true => rw [cw] at e2; simp [plcF, d__is_placed_state, mDef, mSeq, mRet, mRetL, mRetV, mRetN, mIfS, mAsg, mNew, mAug, mSub, mApp, mExtN, mExtT, mPop, mDrop, mNext, mNever, mOp, mUn, mVar, mC, mQVar, mLVar, mIxV, mQE, mLE, mEN, asL, asQ, mTup, mLst, mDs, datas, mA0, mA1, mAV, mCat, mTB, mTru, tru, mTruQ, mAnd, mOr, mNot, mAndV, mOrV, mNotV, mIf, mChain, mLen, mAll, mAny, mBools, mSum, mList, mTuple, mB, fAbs, fInt, fMax2, fMin2, mIsi, fIsi, tyN, fAdd, fTT, fSub, fMulX, fMul, fRep, fII, fI0, bMul, bDiv, bMod, bPow, fDiv, fMod, fPow, fLt, fLe, fGt, fGe, fIs, fIsNot, fIsB, fNotB, fIsN, fNotN, isN, fNeg, fIx, mCall, mCallN, rtD, rtN, mgN, mg0, mg1, mgT, mO0, mO1, mSlT, mSlL, mYes, mR1, mR2, mNotT, mNotTQ, mSortI, mZip, mEnum, mInQ, mCatV, mCatX, mCatY, mSlV, mForV, mLcV, mIdx, mPopI, mRg1, mR3, mRevT, fBool, Option.bind, e1, e2, e3, atI_0, a21]
    | false => rw [cw] at e2; simp [plcF, d__is_placed_state, mDef, mSeq, mRet, mRetL, mRetV, mRetN, mIfS, mAsg, mNew, mAug, mSub, mApp, mExtN, mExtT, mPop, mDrop, mNext, mNever, mOp, mUn, mVar, mC, mQVar, mLVar, mIxV, mQE, mLE, mEN, asL, asQ, mTup, mLst, mDs, datas, mA0, mA1, mAV, mCat, mTB, mTru, tru, mTruQ, mAnd, mOr, mNot, mAndV, mOrV, mNotV, mIf, mChain, mLen, mAll, mAny, mBools, mSum, mList, mTuple, mB, fAbs, fInt, fMax2, fMin2, mIsi, fIsi, tyN, fAdd, fTT, fSub, fMulX, fMul, fRep, fII, fI0, bMul, bDiv, bMod, bPow, fDiv, fMod, fPow, fLt, fLe, fGt, fGe, fIs, fIsNot, fIsB, fNotB, fIsN, fNotN, isN, fNeg, fIx, mCall, mCallN, rtD, rtN, mgN, mg0, mg1, mgT, mO0, mO1, mSlT, mSlL, mYes, mR1, mR2, mNotT, mNotTQ, mSortI, mZip, mEnum, mInQ, mCatV, mCatX, mCatY, mSlV, mForV, mLcV, mIdx, mPopI, mRg1, mR3, mRevT, fBool, Option.bind, e1, e2, atI_0]
  · have t1 : isTup v 2 2 = false := by
      cases ct : isTup v 2 2 with
      | false => rfl
      | true =>
        unfold isTup at ct
        split at ct
        · rename_i xs
          simp only [Bool.and_eq_true, decide_eq_true_eq] at ct
          match xs, ct with
          | [w, x], _ => exact absurd ⟨w, x, rfl⟩ c
          | [], ct => simp at ct
          | [_], ct => simp at ct
          | _ :: _ :: _ :: _, ct => simp at ct; omega
        · cases ct
    rw [t1] at e1
    have hp : plc v = false := by
      unfold plc
      split
      · rename_i w i; exact absurd ⟨w, i, rfl⟩ c
      · rfl
    rw [hp]
    simp [plcF, d__is_placed_state, mDef, mSeq, mRet, mRetL, mRetV, mRetN, mIfS, mAsg, mNew, mAug, mSub, mApp, mExtN, mExtT, mPop, mDrop, mNext, mNever, mOp, mUn, mVar, mC, mQVar, mLVar, mIxV, mQE, mLE, mEN, asL, asQ, mTup, mLst, mDs, datas, mA0, mA1, mAV, mCat, mTB, mTru, tru, mTruQ, mAnd, mOr, mNot, mAndV, mOrV, mNotV, mIf, mChain, mLen, mAll, mAny, mBools, mSum, mList, mTuple, mB, fAbs, fInt, fMax2, fMin2, mIsi, fIsi, tyN, fAdd, fTT, fSub, fMulX, fMul, fRep, fII, fI0, bMul, bDiv, bMod, bPow, fDiv, fMod, fPow, fLt, fLe, fGt, fGe, fIs, fIsNot, fIsB, fNotB, fIsN, fNotN, isN, fNeg, fIx, mCall, mCallN, rtD, rtN, mgN, mg0, mg1, mgT, mO0, mO1, mSlT, mSlL, mYes, mR1, mR2, mNotT, mNotTQ, mSortI, mZip, mEnum, mInQ, mCatV, mCatX, mCatY, mSlV, mForV, mLcV, mIdx, mPopI, mRg1, mR3, mRevT, fBool, Option.bind, e1]
theorem isInt_int {x : D} {l m : Int} (h : isInt x l m = true) : ∃ i : Int, x = .int i ∧ l ≤ i ∧ i ≤ m := by
  cases x with
  | int i =>
    have h : (decide (l ≤ i) && decide (i ≤ m)) = true := h
    rw [Bool.and_eq_true, decide_eq_true_eq, decide_eq_true_eq] at h
    exact ⟨i, rfl, h.1, h.2⟩
  | _ => cases h
theorem plc_pl {v : D} (h : plc v = true) : pl v = true := by
  unfold plc at h
  split at h
  · rename_i w i
    rw [Bool.and_eq_true] at h
    obtain ⟨j, rfl, _⟩ := isInt_int h.2
    show (pl w && (true && true)) = true
    have hw := h.1
    unfold isPl at hw
    split at hw
    · rename_i xs
      rw [Bool.and_eq_true, List.all_eq_true] at hw
      have : pl (.tuple xs) = true := pls_all fun x hx => by obtain ⟨k, rfl, _⟩ := isInt_int (hw.2 x hx); rfl
      rw [this]; rfl
    · cases hw
  · cases h
theorem plc_ru {A : List Int} {good : List Bool} {sts : List Stp} (h : AuOk A good sts) {t : T} (o : t.ok A) (hn : t.n ≤ 15) : ∀ x ∈ ruD sts t, plc x = true := fun x hx => by
  obtain ⟨p, hp, rfl⟩ := List.mem_map.mp hx
  have hh := places_has t p hp
  have hl := has_plen hh
  have hb := has_bits p t hh
  have so := sub_ok p t o hh
  have hs := st_lt h.st _ so.1
  have hg := h.len.2
  show (isPl (pD p) && isInt (.int (st sts (t.sub p))) 0 3) = true
  rw [Bool.and_eq_true]
  refine ⟨?_, ?_⟩
  · show (decide (((iD p).length : Int) ≤ 14) && (iD p).all fun x => isInt x 0 1) = true
    rw [Bool.and_eq_true, decide_eq_true_eq, List.length_map, List.all_eq_true]
    refine ⟨by omega, fun x hx => ?_⟩
    obtain ⟨i, hi, rfl⟩ := List.mem_map.mp hx
    have := hb i hi
    show (decide (0 ≤ (i : Int)) && decide ((i : Int) ≤ 1)) = true
    rw [Bool.and_eq_true, decide_eq_true_eq, decide_eq_true_eq]
    omega
  · show (decide (0 ≤ (st sts (t.sub p) : Int)) && decide ((st sts (t.sub p) : Int) ≤ 3)) = true
    rw [Bool.and_eq_true, decide_eq_true_eq, decide_eq_true_eq]
    omega
theorem lev_acc : (lev 59).accepts_run = d_accepts_run (d_run (reqAT 51) (lev 57).places_of (lev 57).state_of d_part_at) d_is_tuple plcF := rfl
theorem acc_eq {A : List Int} {good : List Bool} {sts : List Stp} (h : AuOk A good sts) {t : T} (o : t.ok A) (hn : t.n ≤ 15) (v : D) (hv : Gv 40 v) (S : Sto) : (lev 59).accepts_run [.d (auD A good sts), .d t.d, .d v] S = some (.val (.bool (isEq v (.tuple (ruD sts t)))), S) := by
  rw [lev_acc]
  have hdf : d_accepts_run (d_run (reqAT 51) (lev 57).places_of (lev 57).state_of d_part_at) d_is_tuple plcF = mDef 3 5 fun _ => mSeq (mAsg (mCall 2 (d_run (reqAT 51) (lev 57).places_of (lev 57).state_of d_part_at) (mAV 0 (mAV 1 mA0))) (mgN 3)) (mSeq (mIfS (mNot (mTru (mCall 3 d_is_tuple (mAV 2 (mA1 (mLen (mQVar 3)) (mA1 (mLen (mQVar 3)) mA0)))))) (mRet (mC (.bool false))) mNext) (mRet (mAndV (mAll (mLc (mQE (mVar 2)) (mgN 4) mYes (mCall 1 plcF (mAV 4 mA0)) [4])) (mOp fEq (mVar 2) (mVar 3))))) := rfl
  rw [hdf]
  have e1 := run_eq h o hn 51 57 57 (by omega) (by omega) S
  have hrl : (ruD sts t).length = t.n := by rw [ruD, List.length_map, t.places_len]
  have k0 : mAsg (mCall 2 (d_run (reqAT 51) (lev 57).places_of (lev 57).state_of d_part_at) (mAV 0 (mAV 1 mA0))) (mgN 3) [some (.d (auD A good sts)), some (.d t.d), some (.d v), none, none] S = some (.nx, [some (.d (auD A good sts)), some (.d t.d), some (.d v), some (.d (.tuple (ruD sts t))), none], S) := asg_of (call2_of rfl rfl e1) rfl
  have e2 := is_tuple_eq v ((ruD sts t).length : Nat) ((ruD sts t).length : Nat) S hv.w.nd
  by_cases c : ∃ xs, v = .tuple xs ∧ xs.length = (ruD sts t).length
  · obtain ⟨xs, rfl, hl⟩ := c
    have t1 : isTup (.tuple xs) ((ruD sts t).length : Nat) ((ruD sts t).length : Nat) = true := by simp [isTup, hl]
    rw [t1] at e2
    obtain ⟨hx, hz⟩ := inv_all rfl (hv.w.mono (show 40 ≤ 40 + 1 by omega)) hv.d
    have k1 : (mIfS (mNot (mTru (mCall 3 d_is_tuple (mAV 2 (mA1 (mLen (mQVar 3)) (mA1 (mLen (mQVar 3)) mA0)))))) (mRet (mC (.bool false))) mNext) [some (.d (auD A good sts)), some (.d t.d), some (.d (.tuple xs)), some (.d (.tuple (ruD sts t))), none] S = some (.nx, [some (.d (auD A good sts)), some (.d t.d), some (.d (.tuple xs)), some (.d (.tuple (ruD sts t))), none], S) := by
      simp [mDef, mSeq, mRet, mRetL, mRetV, mRetN, mIfS, mAsg, mNew, mAug, mSub, mApp, mExtN, mExtT, mPop, mDrop, mNext, mNever, mOp, mUn, mVar, mC, mQVar, mLVar, mIxV, mQE, mLE, mEN, asL, asQ, mTup, mLst, mDs, datas, mA0, mA1, mAV, mCat, mTB, mTru, tru, mTruQ, mAnd, mOr, mNot, mAndV, mOrV, mNotV, mIf, mChain, mLen, mAll, mAny, mBools, mSum, mList, mTuple, mB, fAbs, fInt, fMax2, fMin2, mIsi, fIsi, tyN, fAdd, fTT, fSub, fMulX, fMul, fRep, fII, fI0, bMul, bDiv, bMod, bPow, fDiv, fMod, fPow, fLt, fLe, fGt, fGe, fIs, fIsNot, fIsB, fNotB, fIsN, fNotN, isN, fNeg, fIx, mCall, mCallN, rtD, rtN, mgN, mg0, mg1, mgT, mO0, mO1, mSlT, mSlL, mYes, mR1, mR2, mNotT, mNotTQ, mSortI, mZip, mEnum, mInQ, mCatV, mCatX, mCatY, mSlV, mForV, mLcV, mIdx, mPopI, mRg1, mR3, mRevT, fBool, Option.bind, e2]
    have key := lc_map (mg := mgN 4) (me := mCall 1 plcF (mAV 4 mA0)) (ρ := [some (.d (auD A good sts)), some (.d t.d), some (.d (.tuple xs)), some (.d (.tuple (ruD sts t))), none]) (S := S) (fun x => .bool (plc x)) (fun x => [some (.d (auD A good sts)), some (.d t.d), some (.d (.tuple xs)), some (.d (.tuple (ruD sts t))), some (.d x)]) (xs := xs) (fun x _ => rfl) (fun x hxm => call1_of rfl (plc_eq x ⟨(hx x hxm).1.mono (by omega), (hx x hxm).2⟩ S))
    have e4 : (xs.map fun x => PyData.bool (plc x)) = (xs.map plc).map PyData.bool := by rw [List.map_map]; rfl
    rw [e4] at key
    have m1 := all_of (lc_of (mi := mQE (mVar 2)) (vs := [4]) (ρ := [some (.d (auD A good sts)), some (.d t.d), some (.d (.tuple xs)), some (.d (.tuple (ruD sts t))), none]) rfl hz key)
    rw [all_map_id] at m1
    refine def_rt3S (k := 2) (ρ' := [some (.d (auD A good sts)), some (.d t.d), some (.d (.tuple xs)), some (.d (.tuple (ruD sts t))), none]) (S' := S) ((seq_nx k0).trans ((seq_nx k1).trans (ret_of ?_))) (List.take_length ..)
    cases ca : xs.all plc with
    | true =>
      rw [ca] at m1
      have hp : pl (.tuple xs) = true := pls_all fun x hxm => plc_pl (List.all_eq_true.mp ca x hxm)
      have e5 := eq_pl hv.w (by omega) (W.tup (W.ru sts t)) (by omega) hp (pl_ru sts t)
      simp [mAndV, m1, mOp, mVar, e5]
    | false =>
      rw [ca] at m1
      have : isEq (.tuple xs) (.tuple (ruD sts t)) = false := isEq_f fun e => by
        injection e with e
        subst e
        rw [List.all_eq_true.mpr (plc_ru h o hn)] at ca
        cases ca
      rw [this]
      simp [mAndV, m1]
  · have t1 : isTup v ((ruD sts t).length : Nat) ((ruD sts t).length : Nat) = false := by
      cases ct : isTup v ((ruD sts t).length : Nat) ((ruD sts t).length : Nat) with
      | false => rfl
      | true =>
        unfold isTup at ct
        split at ct
        · rename_i xs
          simp only [Bool.and_eq_true, decide_eq_true_eq] at ct
          exact absurd ⟨xs, rfl, by omega⟩ c
        · cases ct
    rw [t1] at e2
    have : isEq v (.tuple (ruD sts t)) = false := isEq_f fun e => c ⟨_, e, rfl⟩
    rw [this]
    refine def_rt3S (k := 2) (ρ' := [some (.d (auD A good sts)), some (.d t.d), some (.d v), some (.d (.tuple (ruD sts t))), none]) (S' := S) ((seq_nx k0).trans (rt_stop ?_)) (List.take_length ..)
    simp [mDef, mSeq, mRet, mRetL, mRetV, mRetN, mIfS, mAsg, mNew, mAug, mSub, mApp, mExtN, mExtT, mPop, mDrop, mNext, mNever, mOp, mUn, mVar, mC, mQVar, mLVar, mIxV, mQE, mLE, mEN, asL, asQ, mTup, mLst, mDs, datas, mA0, mA1, mAV, mCat, mTB, mTru, tru, mTruQ, mAnd, mOr, mNot, mAndV, mOrV, mNotV, mIf, mChain, mLen, mAll, mAny, mBools, mSum, mList, mTuple, mB, fAbs, fInt, fMax2, fMin2, mIsi, fIsi, tyN, fAdd, fTT, fSub, fMulX, fMul, fRep, fII, fI0, bMul, bDiv, bMod, bPow, fDiv, fMod, fPow, fLt, fLe, fGt, fGe, fIs, fIsNot, fIsB, fNotB, fIsN, fNotN, isN, fNeg, fIx, mCall, mCallN, rtD, rtN, mgN, mg0, mg1, mgT, mO0, mO1, mSlT, mSlL, mYes, mR1, mR2, mNotT, mNotTQ, mSortI, mZip, mEnum, mInQ, mCatV, mCatX, mCatY, mSlV, mForV, mLcV, mIdx, mPopI, mRg1, mR3, mRevT, fBool, Option.bind, e2]
end G
set_option linter.all false
set_option autoImplicit false
set_option maxRecDepth 100000
set_option maxHeartbeats 2000000
namespace G
open PySem L2
/- 0 automaton, 1 tree, 2 value, 3 places, 4 k, 5 pair, 6 one -/
def r_0 : MS := (mAsg (mCall 1 (lev 58)._law_places (mAV 1 mA0)) (mgN 3))
def r_1 : MS := (mIfS (mOr (mNot (mTru (mIsi "tuple" (mVar 2)))) (mTB (mOp fNe (mLen (mQVar 2)) (mLen (mQVar 3))))) (mRet (mC (.bool false))) mNext)
def r_2_0 : MS := (mAsg (mIxV 2 (mVar 4)) (mgN 5))
def r_2_1 : MS := (mIfS (mOr (mNot (mTru (mIsi "tuple" (mVar 5)))) (mOr (mTB (mOp fNe (mLen (mQVar 5)) (mC (.int 2)))) (mNot (mTru (mIsi "tuple" (mIxV 5 (mC (.int 0)))))))) (mRet (mC (.bool false))) mNext)
def r_2_2 : MS := (mIfS (mOr (mNot (mTru (mAll (mLc (mQE (mIxV 5 (mC (.int 0)))) (mgN 6) mYes (mCall 1 (lev 58)._law_is_integer (mAV 6 mA0)) [6])))) (mTB (mOp fNe (mIxV 5 (mC (.int 0))) (mIxV 3 (mVar 4))))) (mRet (mC (.bool false))) mNext)
def r_2_3 : MS := (mIfS (mOr (mNot (mTru (mCall 1 (lev 58)._law_is_integer (mA1 (mIxV 5 (mC (.int 1))) mA0)))) (mTB (mOp fNe (mIxV 5 (mC (.int 1))) (mCall 2 (lev 58)._law_state (mAV 0 (mA1 (mCall 2 (lev 58)._law_part (mAV 1 (mA1 (mIxV 3 (mVar 4)) mA0))) mA0)))))) (mRet (mC (.bool false))) mNext)
def r_2b : MS := (mSeq r_2_0 (mSeq r_2_1 (mSeq r_2_2 r_2_3)))
def r_2 : MS := (mFor (mR1 (mLen (mQVar 3))) (mgN 4) r_2b)
def r_3 : MS := (mRet (mC (.bool true)))
def rB : MS := (mSeq r_0 (mSeq r_1 (mSeq r_2 r_3)))
theorem ne_int (a b : Int) : fNe (.int a) (.int b) = some (.bool (!decide (a = b))) := by
  have e := eq_int a b
  unfold fEq at e
  unfold fNe
  rw [sh_int, sh_int] at e ⊢
  rw [show (true && true) = true from rfl] at e ⊢
  simp only [if_true, Option.some.injEq, PyData.bool.injEq] at e ⊢
  rw [e]
theorem isI_int {x : D} (h : isI x = true) : ∃ i : Int, x = .int i := by
  cases x with
  | int i => exact ⟨i, rfl⟩
  | _ => cases h
theorem pl_isI {xs : List D} (h : xs.all isI = true) : pl (.tuple xs) = true := pls_all fun x hx => by
  obtain ⟨i, rfl⟩ := isI_int (List.all_eq_true.mp h x hx)
  rfl
theorem isI_place (p : List Nat) : (iD p).all isI = true := List.all_eq_true.mpr fun x hx => by
  obtain ⟨i, _, rfl⟩ := List.mem_map.mp hx
  rfl
theorem isEq_pair (a b c d : D) : isEq (.tuple [a, b]) (.tuple [c, d]) = (isEq a c && isEq b d) := by
  by_cases h1 : a = c
  · by_cases h2 : b = d
    · subst h1; subst h2; rw [isEq_t rfl, isEq_t rfl, isEq_t rfl]; rfl
    · rw [isEq_f h2, isEq_f (fun e => h2 (by injection e with e; injection e with _ e; injection e)), Bool.and_false]
  · rw [isEq_f h1, isEq_f (fun e => h1 (by injection e with e; injection e)), Bool.false_and]
theorem isEq_int (a b : Int) : isEq (.int a) (.int b) = decide (a = b) := by
  by_cases h : a = b
  · rw [decide_eq_true h, isEq_t (by rw [h])]
  · rw [decide_eq_false h, isEq_f (fun e => h (by injection e))]
section
variable {A : List Int} {good : List Bool} {sts : List Stp} (h : AuOk A good sts) {t : T} (o : t.ok A) (hn : t.n ≤ 15) (S : Sto)
abbrev rR (A : List Int) (good : List Bool) (sts : List Stp) (t : T) (v : D) (r : List (Option Sl)) : Rho := some (.d (auD A good sts)) :: some (.d t.d) :: some (.d v) :: r
include h o hn
theorem rstep {v x : D} {i : Nat} {p : List Nat} (hx : Gv 39 x) (hp : t.has p) (e0 : ∀ w5 w6, r_2_0 (rR A good sts t v [some (.d (.list (t.places.map pD))), some (.d (.int (i : Nat))), w5, w6]) S = some (.nx, rR A good sts t v [some (.d (.list (t.places.map pD))), some (.d (.int (i : Nat))), some (.d x), w6], S)) (e1 : atI (t.places.map pD) (i : Int) = some (pD p)) (w5 w6 : Option Sl) :
    r_2b (rR A good sts t v [some (.d (.list (t.places.map pD))), some (.d (.int (i : Nat))), w5, w6]) S = some (if isEq x (.tuple [pD p, .int (st sts (t.sub p))]) then .nx else .rt (.val (.bool false)), rR A good sts t v [some (.d (.list (t.places.map pD))), some (.d (.int (i : Nat))), some (.d x), w6], S) := by
  obtain ⟨a1, a2, a3, a4, a5, a6⟩ := kit3
  have hdf : r_2b = mSeq r_2_0 (mSeq r_2_1 (mSeq r_2_2 r_2_3)) := rfl
  rw [hdf, seq_nx (e0 w5 w6)]
  have bad1 : isEq x (.tuple [pD p, .int (st sts (t.sub p))]) = false → r_2_1 (rR A good sts t v [some (.d (.list (t.places.map pD))), some (.d (.int (i : Nat))), some (.d x), w6]) S = some (.rt (.val (.bool false)), rR A good sts t v [some (.d (.list (t.places.map pD))), some (.d (.int (i : Nat))), some (.d x), w6], S) → mSeq r_2_1 (mSeq r_2_2 r_2_3) (rR A good sts t v [some (.d (.list (t.places.map pD))), some (.d (.int (i : Nat))), some (.d x), w6]) S = some (if isEq x (.tuple [pD p, .int (st sts (t.sub p))]) then .nx else .rt (.val (.bool false)), rR A good sts t v [some (.d (.list (t.places.map pD))), some (.d (.int (i : Nat))), some (.d x), w6], S) := fun e e' => by
    rw [e, rt_stop e']; rfl
  have nt : ∀ y : D, (∀ ys, y ≠ .tuple ys) → isEq y (.tuple [pD p, .int (st sts (t.sub p))]) = false := fun y hy => isEq_f fun e => hy _ e
  cases x with
  | dict _ => exact absurd hx.w.nd (by simp [notDict])
  | tuple xs =>
    obtain ⟨hxs, hz⟩ := inv_all rfl (hx.w.mono (show 39 ≤ 39 + 1 by omega)) hx.d
    by_cases hl : xs.length = 2
    · obtain ⟨w, y, rfl⟩ : ∃ w y, xs = [w, y] := by
        match xs, hl with
        | [w, y], _ => exact ⟨w, y, rfl⟩
      have hw := hxs w (by simp)
      have hy := hxs y (by simp)
      have l2 := ne_int 2 2
      rw [isEq_pair]
      rw [isEq_pair] at bad1
      cases w with
      | dict _ => exact absurd hw.1.nd (by simp [notDict])
      | tuple ws =>
        obtain ⟨hws, hwz⟩ := inv_all rfl (hw.1.mono (show 39 ≤ 39 + 1 by omega)) hw.2
        have k1 : r_2_1 (rR A good sts t v [some (.d (.list (t.places.map pD))), some (.d (.int (i : Nat))), some (.d (.tuple [.tuple ws, y])), w6]) S = some (.nx, rR A good sts t v [some (.d (.list (t.places.map pD))), some (.d (.int (i : Nat))), some (.d (.tuple [.tuple ws, y])), w6], S) := by
          simp [r_2_1, mDef, mSeq, mRet, mRetL, mRetV, mRetN, mIfS, mAsg, mNew, mAug, mSub, mApp, mExtN, mExtT, mPop, mDrop, mNext, mNever, mOp, mUn, mVar, mC, mQVar, mLVar, mIxV, mQE, mLE, mEN, asL, asQ, mTup, mLst, mDs, datas, mA0, mA1, mAV, mCat, mTB, mTru, tru, mTruQ, mAnd, mOr, mNot, mAndV, mOrV, mNotV, mIf, mChain, mLen, mAll, mAny, mBools, mSum, mList, mTuple, mB, fAbs, fInt, fMax2, fMin2, mIsi, fIsi, tyN, fAdd, fTT, fSub, fMulX, fMul, fRep, fII, fI0, bMul, bDiv, bMod, bPow, fDiv, fMod, fPow, fLt, fLe, fGt, fGe, fIs, fIsNot, fIsB, fNotB, fIsN, fNotN, isN, fNeg, fIx, mCall, mCallN, rtD, rtN, mgN, mg0, mg1, mgT, mO0, mO1, mSlT, mSlL, mYes, mR1, mR2, mNotT, mNotTQ, mSortI, mZip, mEnum, mInQ, mCatV, mCatX, mCatY, mSlV, mForV, mLcV, mIdx, mPopI, mRg1, mR3, mRevT, fBool, Option.bind, a6, atI_0, l2]
        rw [seq_nx k1]
        have key := lc_map (mg := mgN 6) (me := mCall 1 (lev 58)._law_is_integer (mAV 6 mA0)) (ρ := rR A good sts t v [some (.d (.list (t.places.map pD))), some (.d (.int (i : Nat))), some (.d (.tuple [.tuple ws, y])), none]) (S := S) (fun x => .bool (isI x)) (fun x => rR A good sts t v [some (.d (.list (t.places.map pD))), some (.d (.int (i : Nat))), some (.d (.tuple [.tuple ws, y])), some (.d x)]) (xs := ws) (fun x _ => rfl) (fun x hxm => call1_of rfl (law_int_any x (hws x hxm).1.nd S))
        have e4 : (ws.map fun x => PyData.bool (isI x)) = (ws.map isI).map PyData.bool := by rw [List.map_map]; rfl
        rw [e4] at key
        have m1 := all_of (lc_of (mi := mQE (mIxV 5 (mC (.int 0)))) (vs := [6]) (ρ := rR A good sts t v [some (.d (.list (t.places.map pD))), some (.d (.int (i : Nat))), some (.d (.tuple [.tuple ws, y])), w6]) (S := S) (S1 := S) (by simp [mDef, mSeq, mRet, mRetL, mRetV, mRetN, mIfS, mAsg, mNew, mAug, mSub, mApp, mExtN, mExtT, mPop, mDrop, mNext, mNever, mOp, mUn, mVar, mC, mQVar, mLVar, mIxV, mQE, mLE, mEN, asL, asQ, mTup, mLst, mDs, datas, mA0, mA1, mAV, mCat, mTB, mTru, tru, mTruQ, mAnd, mOr, mNot, mAndV, mOrV, mNotV, mIf, mChain, mLen, mAll, mAny, mBools, mSum, mList, mTuple, mB, fAbs, fInt, fMax2, fMin2, mIsi, fIsi, tyN, fAdd, fTT, fSub, fMulX, fMul, fRep, fII, fI0, bMul, bDiv, bMod, bPow, fDiv, fMod, fPow, fLt, fLe, fGt, fGe, fIs, fIsNot, fIsB, fNotB, fIsN, fNotN, isN, fNeg, fIx, mCall, mCallN, rtD, rtN, mgN, mg0, mg1, mgT, mO0, mO1, mSlT, mSlL, mYes, mR1, mR2, mNotT, mNotTQ, mSortI, mZip, mEnum, mInQ, mCatV, mCatX, mCatY, mSlV, mForV, mLcV, mIdx, mPopI, mRg1, mR3, mRevT, fBool, Option.bind, atI_0]) hwz key)
        rw [all_map_id] at m1
        cases ca : ws.all isI with
        | false =>
          rw [ca] at m1
          have : isEq (.tuple ws) (pD p) = false := isEq_f fun e => by
            injection e with e
            subst e
            rw [isI_place] at ca
            cases ca
          rw [this, Bool.false_and]
          refine rt_stop ?_
          simp [r_2_2, mIfS, mOr, mNot, mTru, m1, tru, mRet, mC]
        | true =>
          rw [ca] at m1
          have n1 := ne_pl2 (hw.1.mono (show 39 ≤ 64 by omega)) (by omega) (W.place p) (by omega) (pl_isI ca) (pl_place p)
          have q1 : (mNot (mTru (mAll (mLc (mQE (mIxV 5 (mC (.int 0)))) (mgN 6) mYes (mCall 1 (lev 58)._law_is_integer (mAV 6 mA0)) [6])))) (rR A good sts t v [some (.d (.list (t.places.map pD))), some (.d (.int (i : Nat))), some (.d (.tuple [.tuple ws, y])), w6]) S = some (false, S) := by
            simp only [mNot, mTru, m1, tru, Option.bind_some, Option.map_some, Bool.not_true]
          have q2 : mOp fNe (mIxV 5 (mC (.int 0))) (mIxV 3 (mVar 4)) (rR A good sts t v [some (.d (.list (t.places.map pD))), some (.d (.int (i : Nat))), some (.d (.tuple [.tuple ws, y])), w6]) S = _ := op_of (S1 := S) (S2 := S) (by simp [mDef, mSeq, mRet, mRetL, mRetV, mRetN, mIfS, mAsg, mNew, mAug, mSub, mApp, mExtN, mExtT, mPop, mDrop, mNext, mNever, mOp, mUn, mVar, mC, mQVar, mLVar, mIxV, mQE, mLE, mEN, asL, asQ, mTup, mLst, mDs, datas, mA0, mA1, mAV, mCat, mTB, mTru, tru, mTruQ, mAnd, mOr, mNot, mAndV, mOrV, mNotV, mIf, mChain, mLen, mAll, mAny, mBools, mSum, mList, mTuple, mB, fAbs, fInt, fMax2, fMin2, mIsi, fIsi, tyN, fAdd, fTT, fSub, fMulX, fMul, fRep, fII, fI0, bMul, bDiv, bMod, bPow, fDiv, fMod, fPow, fLt, fLe, fGt, fGe, fIs, fIsNot, fIsB, fNotB, fIsN, fNotN, isN, fNeg, fIx, mCall, mCallN, rtD, rtN, mgN, mg0, mg1, mgT, mO0, mO1, mSlT, mSlL, mYes, mR1, mR2, mNotT, mNotTQ, mSortI, mZip, mEnum, mInQ, mCatV, mCatX, mCatY, mSlV, mForV, mLcV, mIdx, mPopI, mRg1, mR3, mRevT, fBool, Option.bind, atI_0]) (by simp [mDef, mSeq, mRet, mRetL, mRetV, mRetN, mIfS, mAsg, mNew, mAug, mSub, mApp, mExtN, mExtT, mPop, mDrop, mNext, mNever, mOp, mUn, mVar, mC, mQVar, mLVar, mIxV, mQE, mLE, mEN, asL, asQ, mTup, mLst, mDs, datas, mA0, mA1, mAV, mCat, mTB, mTru, tru, mTruQ, mAnd, mOr, mNot, mAndV, mOrV, mNotV, mIf, mChain, mLen, mAll, mAny, mBools, mSum, mList, mTuple, mB, fAbs, fInt, fMax2, fMin2, mIsi, fIsi, tyN, fAdd, fTT, fSub, fMulX, fMul, fRep, fII, fI0, bMul, bDiv, bMod, bPow, fDiv, fMod, fPow, fLt, fLe, fGt, fGe, fIs, fIsNot, fIsB, fNotB, fIsN, fNotN, isN, fNeg, fIx, mCall, mCallN, rtD, rtN, mgN, mg0, mg1, mgT, mO0, mO1, mSlT, mSlL, mYes, mR1, mR2, mNotT, mNotTQ, mSortI, mZip, mEnum, mInQ, mCatV, mCatX, mCatY, mSlV, mForV, mLcV, mIdx, mPopI, mRg1, mR3, mRevT, fBool, Option.bind, e1]) n1
          cases cb : isEq (.tuple ws) (pD p) with
          | false =>
            rw [cb] at q2
            rw [Bool.false_and]
            refine rt_stop ?_
            exact if_rt (or_of q1 (tb_of q2)) rfl
          | true =>
            rw [cb] at q2
            rw [Bool.true_and]
            have k2 : r_2_2 (rR A good sts t v [some (.d (.list (t.places.map pD))), some (.d (.int (i : Nat))), some (.d (.tuple [.tuple ws, y])), w6]) S = some (.nx, rR A good sts t v [some (.d (.list (t.places.map pD))), some (.d (.int (i : Nat))), some (.d (.tuple [.tuple ws, y])), w6], S) := if_nx (or_of q1 (tb_of q2))
            rw [seq_nx k2]
            have e5 : (lev 58)._law_is_integer [.d y] S = _ := law_int_any y hy.1.nd S
            have e6 : (lev 58)._law_part [.d t.d, .d (pD p)] S = _ := part_eq S t p hp
            have so := sub_ok p t o hp
            have sn := so.2
            have e7 : (lev 58)._law_state [.d (auD A good sts), .d (t.sub p).d] S = _ := law_state_eq h (t.sub p) 58 S so.1 (by omega)
            cases ci : isI y with
            | false =>
              rw [ci] at e5
              have : isEq y (.int (st sts (t.sub p))) = false := isEq_f fun e => by subst e; cases ci
              rw [this]
              simp [r_2_3, mDef, mSeq, mRet, mRetL, mRetV, mRetN, mIfS, mAsg, mNew, mAug, mSub, mApp, mExtN, mExtT, mPop, mDrop, mNext, mNever, mOp, mUn, mVar, mC, mQVar, mLVar, mIxV, mQE, mLE, mEN, asL, asQ, mTup, mLst, mDs, datas, mA0, mA1, mAV, mCat, mTB, mTru, tru, mTruQ, mAnd, mOr, mNot, mAndV, mOrV, mNotV, mIf, mChain, mLen, mAll, mAny, mBools, mSum, mList, mTuple, mB, fAbs, fInt, fMax2, fMin2, mIsi, fIsi, tyN, fAdd, fTT, fSub, fMulX, fMul, fRep, fII, fI0, bMul, bDiv, bMod, bPow, fDiv, fMod, fPow, fLt, fLe, fGt, fGe, fIs, fIsNot, fIsB, fNotB, fIsN, fNotN, isN, fNeg, fIx, mCall, mCallN, rtD, rtN, mgN, mg0, mg1, mgT, mO0, mO1, mSlT, mSlL, mYes, mR1, mR2, mNotT, mNotTQ, mSortI, mZip, mEnum, mInQ, mCatV, mCatX, mCatY, mSlV, mForV, mLcV, mIdx, mPopI, mRg1, mR3, mRevT, fBool, Option.bind, a21, e5]
            | true =>
              rw [ci] at e5
              obtain ⟨j, rfl⟩ := isI_int ci
              have n2 := ne_int j (st sts (t.sub p))
              rw [isEq_int]
              cases cj : decide (j = (st sts (t.sub p) : Int)) with
              | true => rw [cj] at n2; simp [r_2_3, mDef, mSeq, mRet, mRetL, mRetV, mRetN, mIfS, mAsg, mNew, mAug, mSub, mApp, mExtN, mExtT, mPop, mDrop, mNext, mNever, mOp, mUn, mVar, mC, mQVar, mLVar, mIxV, mQE, mLE, mEN, asL, asQ, mTup, mLst, mDs, datas, mA0, mA1, mAV, mCat, mTB, mTru, tru, mTruQ, mAnd, mOr, mNot, mAndV, mOrV, mNotV, mIf, mChain, mLen, mAll, mAny, mBools, mSum, mList, mTuple, mB, fAbs, fInt, fMax2, fMin2, mIsi, fIsi, tyN, fAdd, fTT, fSub, fMulX, fMul, fRep, fII, fI0, bMul, bDiv, bMod, bPow, fDiv, fMod, fPow, fLt, fLe, fGt, fGe, fIs, fIsNot, fIsB, fNotB, fIsN, fNotN, isN, fNeg, fIx, mCall, mCallN, rtD, rtN, mgN, mg0, mg1, mgT, mO0, mO1, mSlT, mSlL, mYes, mR1, mR2, mNotT, mNotTQ, mSortI, mZip, mEnum, mInQ, mCatV, mCatX, mCatY, mSlV, mForV, mLcV, mIdx, mPopI, mRg1, mR3, mRevT, fBool, Option.bind, a21, e5, e1, e6, e7, n2]
              | false => rw [cj] at n2; simp [r_2_3, mDef, mSeq, mRet, mRetL, mRetV, mRetN, mIfS, mAsg, mNew, mAug, mSub, mApp, mExtN, mExtT, mPop, mDrop, mNext, mNever, mOp, mUn, mVar, mC, mQVar, mLVar, mIxV, mQE, mLE, mEN, asL, asQ, mTup, mLst, mDs, datas, mA0, mA1, mAV, mCat, mTB, mTru, tru, mTruQ, mAnd, mOr, mNot, mAndV, mOrV, mNotV, mIf, mChain, mLen, mAll, mAny, mBools, mSum, mList, mTuple, mB, fAbs, fInt, fMax2, fMin2, mIsi, fIsi, tyN, fAdd, fTT, fSub, fMulX, fMul, fRep, fII, fI0, bMul, bDiv, bMod, bPow, fDiv, fMod, fPow, fLt, fLe, fGt, fGe, fIs, fIsNot, fIsB, fNotB, fIsN, fNotN, isN, fNeg, fIx, mCall, mCallN, rtD, rtN, mgN, mg0, mg1, mgT, mO0, mO1, mSlT, mSlL, mYes, mR1, mR2, mNotT, mNotTQ, mSortI, mZip, mEnum, mInQ, mCatV, mCatX, mCatY, mSlV, mForV, mLcV, mIdx, mPopI, mRg1, mR3, mRevT, fBool, Option.bind, a21, e5, e1, e6, e7, n2]
      | none => exact bad1 (by rw [isEq_f (by rintro ⟨⟩), Bool.false_and]) (by simp [r_2_1, mDef, mSeq, mRet, mRetL, mRetV, mRetN, mIfS, mAsg, mNew, mAug, mSub, mApp, mExtN, mExtT, mPop, mDrop, mNext, mNever, mOp, mUn, mVar, mC, mQVar, mLVar, mIxV, mQE, mLE, mEN, asL, asQ, mTup, mLst, mDs, datas, mA0, mA1, mAV, mCat, mTB, mTru, tru, mTruQ, mAnd, mOr, mNot, mAndV, mOrV, mNotV, mIf, mChain, mLen, mAll, mAny, mBools, mSum, mList, mTuple, mB, fAbs, fInt, fMax2, fMin2, mIsi, fIsi, tyN, fAdd, fTT, fSub, fMulX, fMul, fRep, fII, fI0, bMul, bDiv, bMod, bPow, fDiv, fMod, fPow, fLt, fLe, fGt, fGe, fIs, fIsNot, fIsB, fNotB, fIsN, fNotN, isN, fNeg, fIx, mCall, mCallN, rtD, rtN, mgN, mg0, mg1, mgT, mO0, mO1, mSlT, mSlL, mYes, mR1, mR2, mNotT, mNotTQ, mSortI, mZip, mEnum, mInQ, mCatV, mCatX, mCatY, mSlV, mForV, mLcV, mIdx, mPopI, mRg1, mR3, mRevT, fBool, Option.bind, atI_0, l2, a6, a1])
      | bool _ => exact bad1 (by rw [isEq_f (by rintro ⟨⟩), Bool.false_and]) (by simp [r_2_1, mDef, mSeq, mRet, mRetL, mRetV, mRetN, mIfS, mAsg, mNew, mAug, mSub, mApp, mExtN, mExtT, mPop, mDrop, mNext, mNever, mOp, mUn, mVar, mC, mQVar, mLVar, mIxV, mQE, mLE, mEN, asL, asQ, mTup, mLst, mDs, datas, mA0, mA1, mAV, mCat, mTB, mTru, tru, mTruQ, mAnd, mOr, mNot, mAndV, mOrV, mNotV, mIf, mChain, mLen, mAll, mAny, mBools, mSum, mList, mTuple, mB, fAbs, fInt, fMax2, fMin2, mIsi, fIsi, tyN, fAdd, fTT, fSub, fMulX, fMul, fRep, fII, fI0, bMul, bDiv, bMod, bPow, fDiv, fMod, fPow, fLt, fLe, fGt, fGe, fIs, fIsNot, fIsB, fNotB, fIsN, fNotN, isN, fNeg, fIx, mCall, mCallN, rtD, rtN, mgN, mg0, mg1, mgT, mO0, mO1, mSlT, mSlL, mYes, mR1, mR2, mNotT, mNotTQ, mSortI, mZip, mEnum, mInQ, mCatV, mCatX, mCatY, mSlV, mForV, mLcV, mIdx, mPopI, mRg1, mR3, mRevT, fBool, Option.bind, atI_0, l2, a6, a2])
      | int _ => exact bad1 (by rw [isEq_f (by rintro ⟨⟩), Bool.false_and]) (by simp [r_2_1, mDef, mSeq, mRet, mRetL, mRetV, mRetN, mIfS, mAsg, mNew, mAug, mSub, mApp, mExtN, mExtT, mPop, mDrop, mNext, mNever, mOp, mUn, mVar, mC, mQVar, mLVar, mIxV, mQE, mLE, mEN, asL, asQ, mTup, mLst, mDs, datas, mA0, mA1, mAV, mCat, mTB, mTru, tru, mTruQ, mAnd, mOr, mNot, mAndV, mOrV, mNotV, mIf, mChain, mLen, mAll, mAny, mBools, mSum, mList, mTuple, mB, fAbs, fInt, fMax2, fMin2, mIsi, fIsi, tyN, fAdd, fTT, fSub, fMulX, fMul, fRep, fII, fI0, bMul, bDiv, bMod, bPow, fDiv, fMod, fPow, fLt, fLe, fGt, fGe, fIs, fIsNot, fIsB, fNotB, fIsN, fNotN, isN, fNeg, fIx, mCall, mCallN, rtD, rtN, mgN, mg0, mg1, mgT, mO0, mO1, mSlT, mSlL, mYes, mR1, mR2, mNotT, mNotTQ, mSortI, mZip, mEnum, mInQ, mCatV, mCatX, mCatY, mSlV, mForV, mLcV, mIdx, mPopI, mRg1, mR3, mRevT, fBool, Option.bind, atI_0, l2, a6, a3])
      | str _ => exact bad1 (by rw [isEq_f (by rintro ⟨⟩), Bool.false_and]) (by simp [r_2_1, mDef, mSeq, mRet, mRetL, mRetV, mRetN, mIfS, mAsg, mNew, mAug, mSub, mApp, mExtN, mExtT, mPop, mDrop, mNext, mNever, mOp, mUn, mVar, mC, mQVar, mLVar, mIxV, mQE, mLE, mEN, asL, asQ, mTup, mLst, mDs, datas, mA0, mA1, mAV, mCat, mTB, mTru, tru, mTruQ, mAnd, mOr, mNot, mAndV, mOrV, mNotV, mIf, mChain, mLen, mAll, mAny, mBools, mSum, mList, mTuple, mB, fAbs, fInt, fMax2, fMin2, mIsi, fIsi, tyN, fAdd, fTT, fSub, fMulX, fMul, fRep, fII, fI0, bMul, bDiv, bMod, bPow, fDiv, fMod, fPow, fLt, fLe, fGt, fGe, fIs, fIsNot, fIsB, fNotB, fIsN, fNotN, isN, fNeg, fIx, mCall, mCallN, rtD, rtN, mgN, mg0, mg1, mgT, mO0, mO1, mSlT, mSlL, mYes, mR1, mR2, mNotT, mNotTQ, mSortI, mZip, mEnum, mInQ, mCatV, mCatX, mCatY, mSlV, mForV, mLcV, mIdx, mPopI, mRg1, mR3, mRevT, fBool, Option.bind, atI_0, l2, a6, a4])
      | list _ => exact bad1 (by rw [isEq_f (by rintro ⟨⟩), Bool.false_and]) (by simp [r_2_1, mDef, mSeq, mRet, mRetL, mRetV, mRetN, mIfS, mAsg, mNew, mAug, mSub, mApp, mExtN, mExtT, mPop, mDrop, mNext, mNever, mOp, mUn, mVar, mC, mQVar, mLVar, mIxV, mQE, mLE, mEN, asL, asQ, mTup, mLst, mDs, datas, mA0, mA1, mAV, mCat, mTB, mTru, tru, mTruQ, mAnd, mOr, mNot, mAndV, mOrV, mNotV, mIf, mChain, mLen, mAll, mAny, mBools, mSum, mList, mTuple, mB, fAbs, fInt, fMax2, fMin2, mIsi, fIsi, tyN, fAdd, fTT, fSub, fMulX, fMul, fRep, fII, fI0, bMul, bDiv, bMod, bPow, fDiv, fMod, fPow, fLt, fLe, fGt, fGe, fIs, fIsNot, fIsB, fNotB, fIsN, fNotN, isN, fNeg, fIx, mCall, mCallN, rtD, rtN, mgN, mg0, mg1, mgT, mO0, mO1, mSlT, mSlL, mYes, mR1, mR2, mNotT, mNotTQ, mSortI, mZip, mEnum, mInQ, mCatV, mCatX, mCatY, mSlV, mForV, mLcV, mIdx, mPopI, mRg1, mR3, mRevT, fBool, Option.bind, atI_0, l2, a6, a5])
    · have l2 := ne_int (xs.length : Nat) 2
      rw [decide_eq_false (by omega)] at l2
      refine bad1 (isEq_f fun e => hl (by injection e with e; rw [e]; rfl)) ?_
      simp [r_2_1, mDef, mSeq, mRet, mRetL, mRetV, mRetN, mIfS, mAsg, mNew, mAug, mSub, mApp, mExtN, mExtT, mPop, mDrop, mNext, mNever, mOp, mUn, mVar, mC, mQVar, mLVar, mIxV, mQE, mLE, mEN, asL, asQ, mTup, mLst, mDs, datas, mA0, mA1, mAV, mCat, mTB, mTru, tru, mTruQ, mAnd, mOr, mNot, mAndV, mOrV, mNotV, mIf, mChain, mLen, mAll, mAny, mBools, mSum, mList, mTuple, mB, fAbs, fInt, fMax2, fMin2, mIsi, fIsi, tyN, fAdd, fTT, fSub, fMulX, fMul, fRep, fII, fI0, bMul, bDiv, bMod, bPow, fDiv, fMod, fPow, fLt, fLe, fGt, fGe, fIs, fIsNot, fIsB, fNotB, fIsN, fNotN, isN, fNeg, fIx, mCall, mCallN, rtD, rtN, mgN, mg0, mg1, mgT, mO0, mO1, mSlT, mSlL, mYes, mR1, mR2, mNotT, mNotTQ, mSortI, mZip, mEnum, mInQ, mCatV, mCatX, mCatY, mSlV, mForV, mLcV, mIdx, mPopI, mRg1, mR3, mRevT, fBool, Option.bind, a6, l2]
  | none => exact bad1 (nt _ (by rintro _ ⟨⟩)) (by simp [r_2_1, mDef, mSeq, mRet, mRetL, mRetV, mRetN, mIfS, mAsg, mNew, mAug, mSub, mApp, mExtN, mExtT, mPop, mDrop, mNext, mNever, mOp, mUn, mVar, mC, mQVar, mLVar, mIxV, mQE, mLE, mEN, asL, asQ, mTup, mLst, mDs, datas, mA0, mA1, mAV, mCat, mTB, mTru, tru, mTruQ, mAnd, mOr, mNot, mAndV, mOrV, mNotV, mIf, mChain, mLen, mAll, mAny, mBools, mSum, mList, mTuple, mB, fAbs, fInt, fMax2, fMin2, mIsi, fIsi, tyN, fAdd, fTT, fSub, fMulX, fMul, fRep, fII, fI0, bMul, bDiv, bMod, bPow, fDiv, fMod, fPow, fLt, fLe, fGt, fGe, fIs, fIsNot, fIsB, fNotB, fIsN, fNotN, isN, fNeg, fIx, mCall, mCallN, rtD, rtN, mgN, mg0, mg1, mgT, mO0, mO1, mSlT, mSlL, mYes, mR1, mR2, mNotT, mNotTQ, mSortI, mZip, mEnum, mInQ, mCatV, mCatX, mCatY, mSlV, mForV, mLcV, mIdx, mPopI, mRg1, mR3, mRevT, fBool, Option.bind, a1])
  | bool _ => exact bad1 (nt _ (by rintro _ ⟨⟩)) (by simp [r_2_1, mDef, mSeq, mRet, mRetL, mRetV, mRetN, mIfS, mAsg, mNew, mAug, mSub, mApp, mExtN, mExtT, mPop, mDrop, mNext, mNever, mOp, mUn, mVar, mC, mQVar, mLVar, mIxV, mQE, mLE, mEN, asL, asQ, mTup, mLst, mDs, datas, mA0, mA1, mAV, mCat, mTB, mTru, tru, mTruQ, mAnd, mOr, mNot, mAndV, mOrV, mNotV, mIf, mChain, mLen, mAll, mAny, mBools, mSum, mList, mTuple, mB, fAbs, fInt, fMax2, fMin2, mIsi, fIsi, tyN, fAdd, fTT, fSub, fMulX, fMul, fRep, fII, fI0, bMul, bDiv, bMod, bPow, fDiv, fMod, fPow, fLt, fLe, fGt, fGe, fIs, fIsNot, fIsB, fNotB, fIsN, fNotN, isN, fNeg, fIx, mCall, mCallN, rtD, rtN, mgN, mg0, mg1, mgT, mO0, mO1, mSlT, mSlL, mYes, mR1, mR2, mNotT, mNotTQ, mSortI, mZip, mEnum, mInQ, mCatV, mCatX, mCatY, mSlV, mForV, mLcV, mIdx, mPopI, mRg1, mR3, mRevT, fBool, Option.bind, a2])
  | int _ => exact bad1 (nt _ (by rintro _ ⟨⟩)) (by simp [r_2_1, mDef, mSeq, mRet, mRetL, mRetV, mRetN, mIfS, mAsg, mNew, mAug, mSub, mApp, mExtN, mExtT, mPop, mDrop, mNext, mNever, mOp, mUn, mVar, mC, mQVar, mLVar, mIxV, mQE, mLE, mEN, asL, asQ, mTup, mLst, mDs, datas, mA0, mA1, mAV, mCat, mTB, mTru, tru, mTruQ, mAnd, mOr, mNot, mAndV, mOrV, mNotV, mIf, mChain, mLen, mAll, mAny, mBools, mSum, mList, mTuple, mB, fAbs, fInt, fMax2, fMin2, mIsi, fIsi, tyN, fAdd, fTT, fSub, fMulX, fMul, fRep, fII, fI0, bMul, bDiv, bMod, bPow, fDiv, fMod, fPow, fLt, fLe, fGt, fGe, fIs, fIsNot, fIsB, fNotB, fIsN, fNotN, isN, fNeg, fIx, mCall, mCallN, rtD, rtN, mgN, mg0, mg1, mgT, mO0, mO1, mSlT, mSlL, mYes, mR1, mR2, mNotT, mNotTQ, mSortI, mZip, mEnum, mInQ, mCatV, mCatX, mCatY, mSlV, mForV, mLcV, mIdx, mPopI, mRg1, mR3, mRevT, fBool, Option.bind, a3])
  | str _ => exact bad1 (nt _ (by rintro _ ⟨⟩)) (by simp [r_2_1, mDef, mSeq, mRet, mRetL, mRetV, mRetN, mIfS, mAsg, mNew, mAug, mSub, mApp, mExtN, mExtT, mPop, mDrop, mNext, mNever, mOp, mUn, mVar, mC, mQVar, mLVar, mIxV, mQE, mLE, mEN, asL, asQ, mTup, mLst, mDs, datas, mA0, mA1, mAV, mCat, mTB, mTru, tru, mTruQ, mAnd, mOr, mNot, mAndV, mOrV, mNotV, mIf, mChain, mLen, mAll, mAny, mBools, mSum, mList, mTuple, mB, fAbs, fInt, fMax2, fMin2, mIsi, fIsi, tyN, fAdd, fTT, fSub, fMulX, fMul, fRep, fII, fI0, bMul, bDiv, bMod, bPow, fDiv, fMod, fPow, fLt, fLe, fGt, fGe, fIs, fIsNot, fIsB, fNotB, fIsN, fNotN, isN, fNeg, fIx, mCall, mCallN, rtD, rtN, mgN, mg0, mg1, mgT, mO0, mO1, mSlT, mSlL, mYes, mR1, mR2, mNotT, mNotTQ, mSortI, mZip, mEnum, mInQ, mCatV, mCatX, mCatY, mSlV, mForV, mLcV, mIdx, mPopI, mRg1, mR3, mRevT, fBool, Option.bind, a4])
  | list _ => exact bad1 (nt _ (by rintro _ ⟨⟩)) (by simp [r_2_1, mDef, mSeq, mRet, mRetL, mRetV, mRetN, mIfS, mAsg, mNew, mAug, mSub, mApp, mExtN, mExtT, mPop, mDrop, mNext, mNever, mOp, mUn, mVar, mC, mQVar, mLVar, mIxV, mQE, mLE, mEN, asL, asQ, mTup, mLst, mDs, datas, mA0, mA1, mAV, mCat, mTB, mTru, tru, mTruQ, mAnd, mOr, mNot, mAndV, mOrV, mNotV, mIf, mChain, mLen, mAll, mAny, mBools, mSum, mList, mTuple, mB, fAbs, fInt, fMax2, fMin2, mIsi, fIsi, tyN, fAdd, fTT, fSub, fMulX, fMul, fRep, fII, fI0, bMul, bDiv, bMod, bPow, fDiv, fMod, fPow, fLt, fLe, fGt, fGe, fIs, fIsNot, fIsB, fNotB, fIsN, fNotN, isN, fNeg, fIx, mCall, mCallN, rtD, rtN, mgN, mg0, mg1, mgT, mO0, mO1, mSlT, mSlL, mYes, mR1, mR2, mNotT, mNotTQ, mSortI, mZip, mEnum, mInQ, mCatV, mCatX, mCatY, mSlV, mForV, mLcV, mIdx, mPopI, mRg1, mR3, mRevT, fBool, Option.bind, a5])
end
end G
set_option linter.all false
set_option autoImplicit false
set_option maxRecDepth 100000
set_option maxHeartbeats 2000000
namespace G
open PySem L2
theorem rng_all {n : Nat} (b : D → Bool) : (rng 0 n).all b = true ↔ ∀ i, i < n → b (.int (i : Nat)) = true := by
  rw [List.all_eq_true]
  constructor
  · intro hh i hi
    refine hh _ ?_
    unfold rng
    exact List.mem_map.mpr ⟨i, List.mem_range.mpr (by simpa using hi), by simp⟩
  · intro hh x hx
    obtain ⟨i, rfl, hi⟩ := rng_mem hx
    exact hh i hi
noncomputable def atB (xs ys : List D) (d : D) : Bool := match d with
  | .int i => isEq (xs.getD i.toNat .none) (ys.getD i.toNat .none)
  | _ => false
theorem isEq_list {xs ys : List D} (hl : xs.length = ys.length) : (rng 0 ys.length).all (atB xs ys) = isEq (.tuple xs) (.tuple ys) := by
  rw [Bool.eq_iff_iff, rng_all, isEq_iff]
  constructor
  · intro hh
    congr 1
    refine List.ext_getElem hl fun i h1 h2 => ?_
    have := isEq_iff.mp (hh i h2)
    simpa [List.getD_eq_getElem?_getD, List.getElem?_eq_getElem, h1, h2] using this
  · intro e i _
    injection e with e
    subst e
    exact isEq_t rfl
theorem law_is_run_def : (lev 59)._law_is_run = mDef 3 7 fun _ => rB := rfl
section
variable {A : List Int} {good : List Bool} {sts : List Stp} (h : AuOk A good sts) {t : T} (o : t.ok A) (hn : t.n ≤ 15) (S : Sto)
include h o hn
theorem law_is_run_eq (v : D) (hv : Gv 38 v) : (lev 59)._law_is_run [.d (auD A good sts), .d t.d, .d v] S = some (.val (.bool (isEq v (.tuple (ruD sts t)))), S) := by
  obtain ⟨a1, a2, a3, a4, a5, a6⟩ := kit3
  rw [law_is_run_def]
  have e0 : (lev 58)._law_places [.d t.d] S = _ := places_eq t 58 S (by omega) (by omega)
  have pl := t.places_len
  have rl : (ruD sts t).length = t.n := by rw [ruD, List.length_map, pl]
  have K0 : r_0 (rR A good sts t v (List.replicate 4 none)) S = some (.nx, rR A good sts t v (some (.d (.list (t.places.map pD))) :: List.replicate 3 none), S) := asg_of (call1_of rfl e0) rfl
  have bad : isEq v (.tuple (ruD sts t)) = false → r_1 (rR A good sts t v (some (.d (.list (t.places.map pD))) :: List.replicate 3 none)) S = some (.rt (.val (.bool false)), rR A good sts t v (some (.d (.list (t.places.map pD))) :: List.replicate 3 none), S) → mDef 3 7 (fun _ => rB) [.d (auD A good sts), .d t.d, .d v] S = some (.val (.bool (isEq v (.tuple (ruD sts t)))), S) := fun e e' => by
    rw [e]
    exact def_rt3S (k := 4) ((seq_nx K0).trans (rt_stop e')) (List.take_length ..)
  have nt : ∀ y : D, (∀ ys, y ≠ .tuple ys) → isEq y (.tuple (ruD sts t)) = false := fun y hy => isEq_f fun e => hy _ e
  cases v with
  | dict _ => exact absurd hv.w.nd (by simp [notDict])
  | none => exact bad (nt _ (by rintro _ ⟨⟩)) (by simp [r_1, mDef, mSeq, mRet, mRetL, mRetV, mRetN, mIfS, mAsg, mNew, mAug, mSub, mApp, mExtN, mExtT, mPop, mDrop, mNext, mNever, mOp, mUn, mVar, mC, mQVar, mLVar, mIxV, mQE, mLE, mEN, asL, asQ, mTup, mLst, mDs, datas, mA0, mA1, mAV, mCat, mTB, mTru, tru, mTruQ, mAnd, mOr, mNot, mAndV, mOrV, mNotV, mIf, mChain, mLen, mAll, mAny, mBools, mSum, mList, mTuple, mB, fAbs, fInt, fMax2, fMin2, mIsi, fIsi, tyN, fAdd, fTT, fSub, fMulX, fMul, fRep, fII, fI0, bMul, bDiv, bMod, bPow, fDiv, fMod, fPow, fLt, fLe, fGt, fGe, fIs, fIsNot, fIsB, fNotB, fIsN, fNotN, isN, fNeg, fIx, mCall, mCallN, rtD, rtN, mgN, mg0, mg1, mgT, mO0, mO1, mSlT, mSlL, mYes, mR1, mR2, mNotT, mNotTQ, mSortI, mZip, mEnum, mInQ, mCatV, mCatX, mCatY, mSlV, mForV, mLcV, mIdx, mPopI, mRg1, mR3, mRevT, fBool, Option.bind, a1])
  | bool _ => exact bad (nt _ (by rintro _ ⟨⟩)) (by simp [r_1, mDef, mSeq, mRet, mRetL, mRetV, mRetN, mIfS, mAsg, mNew, mAug, mSub, mApp, mExtN, mExtT, mPop, mDrop, mNext, mNever, mOp, mUn, mVar, mC, mQVar, mLVar, mIxV, mQE, mLE, mEN, asL, asQ, mTup, mLst, mDs, datas, mA0, mA1, mAV, mCat, mTB, mTru, tru, mTruQ, mAnd, mOr, mNot, mAndV, mOrV, mNotV, mIf, mChain, mLen, mAll, mAny, mBools, mSum, mList, mTuple, mB, fAbs, fInt, fMax2, fMin2, mIsi, fIsi, tyN, fAdd, fTT, fSub, fMulX, fMul, fRep, fII, fI0, bMul, bDiv, bMod, bPow, fDiv, fMod, fPow, fLt, fLe, fGt, fGe, fIs, fIsNot, fIsB, fNotB, fIsN, fNotN, isN, fNeg, fIx, mCall, mCallN, rtD, rtN, mgN, mg0, mg1, mgT, mO0, mO1, mSlT, mSlL, mYes, mR1, mR2, mNotT, mNotTQ, mSortI, mZip, mEnum, mInQ, mCatV, mCatX, mCatY, mSlV, mForV, mLcV, mIdx, mPopI, mRg1, mR3, mRevT, fBool, Option.bind, a2])
  | int _ => exact bad (nt _ (by rintro _ ⟨⟩)) (by simp [r_1, mDef, mSeq, mRet, mRetL, mRetV, mRetN, mIfS, mAsg, mNew, mAug, mSub, mApp, mExtN, mExtT, mPop, mDrop, mNext, mNever, mOp, mUn, mVar, mC, mQVar, mLVar, mIxV, mQE, mLE, mEN, asL, asQ, mTup, mLst, mDs, datas, mA0, mA1, mAV, mCat, mTB, mTru, tru, mTruQ, mAnd, mOr, mNot, mAndV, mOrV, mNotV, mIf, mChain, mLen, mAll, mAny, mBools, mSum, mList, mTuple, mB, fAbs, fInt, fMax2, fMin2, mIsi, fIsi, tyN, fAdd, fTT, fSub, fMulX, fMul, fRep, fII, fI0, bMul, bDiv, bMod, bPow, fDiv, fMod, fPow, fLt, fLe, fGt, fGe, fIs, fIsNot, fIsB, fNotB, fIsN, fNotN, isN, fNeg, fIx, mCall, mCallN, rtD, rtN, mgN, mg0, mg1, mgT, mO0, mO1, mSlT, mSlL, mYes, mR1, mR2, mNotT, mNotTQ, mSortI, mZip, mEnum, mInQ, mCatV, mCatX, mCatY, mSlV, mForV, mLcV, mIdx, mPopI, mRg1, mR3, mRevT, fBool, Option.bind, a3])
  | str _ => exact bad (nt _ (by rintro _ ⟨⟩)) (by simp [r_1, mDef, mSeq, mRet, mRetL, mRetV, mRetN, mIfS, mAsg, mNew, mAug, mSub, mApp, mExtN, mExtT, mPop, mDrop, mNext, mNever, mOp, mUn, mVar, mC, mQVar, mLVar, mIxV, mQE, mLE, mEN, asL, asQ, mTup, mLst, mDs, datas, mA0, mA1, mAV, mCat, mTB, mTru, tru, mTruQ, mAnd, mOr, mNot, mAndV, mOrV, mNotV, mIf, mChain, mLen, mAll, mAny, mBools, mSum, mList, mTuple, mB, fAbs, fInt, fMax2, fMin2, mIsi, fIsi, tyN, fAdd, fTT, fSub, fMulX, fMul, fRep, fII, fI0, bMul, bDiv, bMod, bPow, fDiv, fMod, fPow, fLt, fLe, fGt, fGe, fIs, fIsNot, fIsB, fNotB, fIsN, fNotN, isN, fNeg, fIx, mCall, mCallN, rtD, rtN, mgN, mg0, mg1, mgT, mO0, mO1, mSlT, mSlL, mYes, mR1, mR2, mNotT, mNotTQ, mSortI, mZip, mEnum, mInQ, mCatV, mCatX, mCatY, mSlV, mForV, mLcV, mIdx, mPopI, mRg1, mR3, mRevT, fBool, Option.bind, a4])
  | list _ => exact bad (nt _ (by rintro _ ⟨⟩)) (by simp [r_1, mDef, mSeq, mRet, mRetL, mRetV, mRetN, mIfS, mAsg, mNew, mAug, mSub, mApp, mExtN, mExtT, mPop, mDrop, mNext, mNever, mOp, mUn, mVar, mC, mQVar, mLVar, mIxV, mQE, mLE, mEN, asL, asQ, mTup, mLst, mDs, datas, mA0, mA1, mAV, mCat, mTB, mTru, tru, mTruQ, mAnd, mOr, mNot, mAndV, mOrV, mNotV, mIf, mChain, mLen, mAll, mAny, mBools, mSum, mList, mTuple, mB, fAbs, fInt, fMax2, fMin2, mIsi, fIsi, tyN, fAdd, fTT, fSub, fMulX, fMul, fRep, fII, fI0, bMul, bDiv, bMod, bPow, fDiv, fMod, fPow, fLt, fLe, fGt, fGe, fIs, fIsNot, fIsB, fNotB, fIsN, fNotN, isN, fNeg, fIx, mCall, mCallN, rtD, rtN, mgN, mg0, mg1, mgT, mO0, mO1, mSlT, mSlL, mYes, mR1, mR2, mNotT, mNotTQ, mSortI, mZip, mEnum, mInQ, mCatV, mCatX, mCatY, mSlV, mForV, mLcV, mIdx, mPopI, mRg1, mR3, mRevT, fBool, Option.bind, a5])
  | tuple xs =>
    obtain ⟨hxs, hz⟩ := inv_all rfl (hv.w.mono (show 38 ≤ 38 + 1 by omega)) hv.d
    by_cases hl : xs.length = t.n
    · have l2 := ne_int (xs.length : Nat) (t.n : Nat)
      rw [decide_eq_true (by omega)] at l2
      have K1 : r_1 (rR A good sts t (.tuple xs) (some (.d (.list (t.places.map pD))) :: List.replicate 3 none)) S = some (.nx, rR A good sts t (.tuple xs) (some (.d (.list (t.places.map pD))) :: List.replicate 3 none), S) := by
        simp [r_1, mDef, mSeq, mRet, mRetL, mRetV, mRetN, mIfS, mAsg, mNew, mAug, mSub, mApp, mExtN, mExtT, mPop, mDrop, mNext, mNever, mOp, mUn, mVar, mC, mQVar, mLVar, mIxV, mQE, mLE, mEN, asL, asQ, mTup, mLst, mDs, datas, mA0, mA1, mAV, mCat, mTB, mTru, tru, mTruQ, mAnd, mOr, mNot, mAndV, mOrV, mNotV, mIf, mChain, mLen, mAll, mAny, mBools, mSum, mList, mTuple, mB, fAbs, fInt, fMax2, fMin2, mIsi, fIsi, tyN, fAdd, fTT, fSub, fMulX, fMul, fRep, fII, fI0, bMul, bDiv, bMod, bPow, fDiv, fMod, fPow, fLt, fLe, fGt, fGe, fIs, fIsNot, fIsB, fNotB, fIsN, fNotN, isN, fNeg, fIx, mCall, mCallN, rtD, rtN, mgN, mg0, mg1, mgT, mO0, mO1, mSlT, mSlL, mYes, mR1, mR2, mNotT, mNotTQ, mSortI, mZip, mEnum, mInQ, mCatV, mCatX, mCatY, mSlV, mForV, mLcV, mIdx, mPopI, mRg1, mR3, mRevT, fBool, Option.bind, a6, pl, l2]
      obtain ⟨ρ', hP, e6⟩ := for_test (P := fun ρ => ∃ w4 w5 w6, ρ = rR A good sts t (.tuple xs) [some (.d (.list (t.places.map pD))), w4, w5, w6]) (mg := mgN 4) (mb := r_2b) (S := S) (atB xs (ruD sts t)) (rng 0 (ruD sts t).length) (rR A good sts t (.tuple xs) (some (.d (.list (t.places.map pD))) :: List.replicate 3 none)) ⟨none, none, none, rfl⟩ (fun x hx ρ hP => by
        obtain ⟨w4, w5, w6, rfl⟩ := hP
        obtain ⟨i, rfl, hi⟩ := rng_mem hx
        have hi1 : i < t.places.length := by omega
        have hi2 : i < xs.length := by omega
        have e1 : atI (t.places.map pD) (i : Int) = some (pD t.places[i]) := by
          rw [atI_n (by omega) (by rw [List.length_map]; omega), Int.toNat_natCast, List.getElem?_map, List.getElem?_eq_getElem hi1]
          rfl
        have e2 : atI xs (i : Int) = some xs[i] := by
          rw [atI_n (by omega) (by omega), Int.toNat_natCast, List.getElem?_eq_getElem hi2]
        have hx' := hxs _ (List.getElem_mem hi2)
        have key := rstep h o hn S (v := .tuple xs) (x := xs[i]) (i := i) (p := t.places[i]) ⟨hx'.1.mono (by omega), hx'.2⟩ (places_has t _ (List.getElem_mem hi1)) (fun w5 w6 => by simp [r_2_0, mDef, mSeq, mRet, mRetL, mRetV, mRetN, mIfS, mAsg, mNew, mAug, mSub, mApp, mExtN, mExtT, mPop, mDrop, mNext, mNever, mOp, mUn, mVar, mC, mQVar, mLVar, mIxV, mQE, mLE, mEN, asL, asQ, mTup, mLst, mDs, datas, mA0, mA1, mAV, mCat, mTB, mTru, tru, mTruQ, mAnd, mOr, mNot, mAndV, mOrV, mNotV, mIf, mChain, mLen, mAll, mAny, mBools, mSum, mList, mTuple, mB, fAbs, fInt, fMax2, fMin2, mIsi, fIsi, tyN, fAdd, fTT, fSub, fMulX, fMul, fRep, fII, fI0, bMul, bDiv, bMod, bPow, fDiv, fMod, fPow, fLt, fLe, fGt, fGe, fIs, fIsNot, fIsB, fNotB, fIsN, fNotN, isN, fNeg, fIx, mCall, mCallN, rtD, rtN, mgN, mg0, mg1, mgT, mO0, mO1, mSlT, mSlL, mYes, mR1, mR2, mNotT, mNotTQ, mSortI, mZip, mEnum, mInQ, mCatV, mCatX, mCatY, mSlV, mForV, mLcV, mIdx, mPopI, mRg1, mR3, mRevT, fBool, Option.bind, e2]) e1 w5 w6
        have hb : atB xs (ruD sts t) (.int (i : Nat)) = isEq xs[i] (.tuple [pD t.places[i], .int (st sts (t.sub t.places[i]))]) := by
          show isEq (xs.getD i .none) ((ruD sts t).getD i .none) = _
          rw [List.getD_eq_getElem?_getD, List.getD_eq_getElem?_getD, List.getElem?_eq_getElem hi2, ruD, List.getElem?_map, List.getElem?_eq_getElem hi1]
          rfl
        rw [hb]
        exact ⟨_, _, rfl, ⟨some (.d (.int (i : Nat))), some (.d xs[i]), w6, rfl⟩, key⟩)
      rw [isEq_list (by omega)] at e6
      have hr := r1_eq (m := mLen (mQVar 3)) (ρ := rR A good sts t (.tuple xs) (some (.d (.list (t.places.map pD))) :: List.replicate 3 none)) (S := S) (S1 := S) (j := (ruD sts t).length) (by simp [mDef, mSeq, mRet, mRetL, mRetV, mRetN, mIfS, mAsg, mNew, mAug, mSub, mApp, mExtN, mExtT, mPop, mDrop, mNext, mNever, mOp, mUn, mVar, mC, mQVar, mLVar, mIxV, mQE, mLE, mEN, asL, asQ, mTup, mLst, mDs, datas, mA0, mA1, mAV, mCat, mTB, mTru, tru, mTruQ, mAnd, mOr, mNot, mAndV, mOrV, mNotV, mIf, mChain, mLen, mAll, mAny, mBools, mSum, mList, mTuple, mB, fAbs, fInt, fMax2, fMin2, mIsi, fIsi, tyN, fAdd, fTT, fSub, fMulX, fMul, fRep, fII, fI0, bMul, bDiv, bMod, bPow, fDiv, fMod, fPow, fLt, fLe, fGt, fGe, fIs, fIsNot, fIsB, fNotB, fIsN, fNotN, isN, fNeg, fIx, mCall, mCallN, rtD, rtN, mgN, mg0, mg1, mgT, mO0, mO1, mSlT, mSlL, mYes, mR1, mR2, mNotT, mNotTQ, mSortI, mZip, mEnum, mInQ, mCatV, mCatX, mCatY, mSlV, mForV, mLcV, mIdx, mPopI, mRg1, mR3, mRevT, fBool, Option.bind, pl, rl]) (bR (by omega))
      have K2 := (for_eq (mg := mgN 4) (mb := r_2b) hr).trans e6
      cases c : isEq (.tuple xs) (.tuple (ruD sts t)) with
      | true =>
        rw [c] at K2
        exact def_rt3S (k := 4) ((seq_nx K0).trans ((seq_nx K1).trans ((seq_nx K2).trans rfl))) (List.take_length ..)
      | false =>
        rw [c] at K2
        exact def_rt3S (k := 4) ((seq_nx K0).trans ((seq_nx K1).trans (rt_stop K2))) (List.take_length ..)
    · have l2 := ne_int (xs.length : Nat) (t.n : Nat)
      rw [decide_eq_false (by omega)] at l2
      refine bad (isEq_f fun e => hl (by injection e with e; rw [e]; exact rl)) ?_
      simp [r_1, mDef, mSeq, mRet, mRetL, mRetV, mRetN, mIfS, mAsg, mNew, mAug, mSub, mApp, mExtN, mExtT, mPop, mDrop, mNext, mNever, mOp, mUn, mVar, mC, mQVar, mLVar, mIxV, mQE, mLE, mEN, asL, asQ, mTup, mLst, mDs, datas, mA0, mA1, mAV, mCat, mTB, mTru, tru, mTruQ, mAnd, mOr, mNot, mAndV, mOrV, mNotV, mIf, mChain, mLen, mAll, mAny, mBools, mSum, mList, mTuple, mB, fAbs, fInt, fMax2, fMin2, mIsi, fIsi, tyN, fAdd, fTT, fSub, fMulX, fMul, fRep, fII, fI0, bMul, bDiv, bMod, bPow, fDiv, fMod, fPow, fLt, fLe, fGt, fGe, fIs, fIsNot, fIsB, fNotB, fIsN, fNotN, isN, fNeg, fIx, mCall, mCallN, rtD, rtN, mgN, mg0, mg1, mgT, mO0, mO1, mSlT, mSlL, mYes, mR1, mR2, mNotT, mNotTQ, mSortI, mZip, mEnum, mInQ, mCatV, mCatX, mCatY, mSlV, mForV, mLcV, mIdx, mPopI, mRg1, mR3, mRevT, fBool, Option.bind, a6, pl, l2]
end
end G
set_option linter.all false
set_option autoImplicit false
set_option maxRecDepth 100000
set_option maxHeartbeats 2000000
namespace G
open PySem L2
/- 0 stream, 1 row, 2 states, 3 at, 4 place, 5 own, 6 pick, 7 bad -/
def b_0 : MS := (mAsg (mCall 2 (lev 58)._law_next (mAV 0 (mA1 (mLen (mQVar 1)) mA0))) (mgN 3))
def b_1 : MS := (mAsg (mIxV 1 (mVar 3)) (mgT 2 (mg1 (mgN 4) (mg1 (mgN 5) mg0))))
def b_2 : MS := (mAsg (mCall 2 (lev 58)._law_next (mAV 0 (mA1 (mC (.int 7)) mA0))) (mgN 6))
def b_3 : MS := (mIfS (mTB (mOp fEq (mVar 6) (mC (.int 0)))) (mRet (mOp fAdd (mOp fAdd (mSlT (mVar 1) mO0 (mO1 (mVar 3))) (mTup (mA1 (mTup (mA1 (mVar 4) (mA1 (mOp fIx (mEN (mLst (mA1 (mCall 2 (lev 58)._law_next (mAV 0 (mAV 2 mA0))) (mA1 (mOp fAdd (mVar 5) (mC (.int 1))) (mA1 (mUn fNeg (mC (.int 1))) (mA1 (mC (.bool true)) (mA1 (mC (.bool false)) (mA1 (mC .none) (mA1 (mC (.str "0")) mA0))))))))) (mCall 2 (lev 58)._law_next (mAV 0 (mA1 (mC (.int 7)) mA0)))) mA0))) mA0))) (mSlT (mVar 1) (mO1 (mOp fAdd (mVar 3) (mC (.int 1)))) mO0))) mNext)
def b_4 : MS := (mIfS (mTB (mOp fEq (mVar 6) (mC (.int 1)))) (mRet (mOp fAdd (mSlT (mVar 1) mO0 (mO1 (mVar 3))) (mSlT (mVar 1) (mO1 (mOp fAdd (mVar 3) (mC (.int 1)))) mO0))) mNext)
def b_5 : MS := (mIfS (mTB (mOp fEq (mVar 6) (mC (.int 2)))) (mSeq (mAsg (mEN (mLst (mA1 (mC .none) (mA1 (mTup (mA1 (mVar 4) mA0)) (mA1 (mEN (mLst (mA1 (mVar 4) (mA1 (mVar 5) mA0)))) (mA1 (mTup (mA1 (mVar 4) (mA1 (mVar 5) (mA1 (mC (.int 0)) mA0)))) (mA1 (mTup (mA1 (mVar 5) (mA1 (mVar 4) mA0))) (mA1 (mTup (mA1 (mEN (mList (mQVar 4))) (mA1 (mVar 5) mA0))) (mA1 (mTup (mA1 (mOp fAdd (mVar 4) (mTup (mA1 (mC (.int 0)) mA0))) (mA1 (mVar 5) mA0))) (mA1 (mTup (mA1 (mOp fAdd (mTup (mA1 (mC (.bool true)) mA0)) (mVar 4)) (mA1 (mVar 5) mA0))) mA0)))))))))) (mgN 7))   (mRet (mOp fAdd (mOp fAdd (mSlT (mVar 1) mO0 (mO1 (mVar 3))) (mTup (mA1 (mIxV 7 (mCall 2 (lev 58)._law_next (mAV 0 (mA1 (mC (.int 8)) mA0)))) mA0))) (mSlT (mVar 1) (mO1 (mOp fAdd (mVar 3) (mC (.int 1)))) mO0)))) mNext)
def b_6 : MS := (mIfS (mTB (mOp fEq (mVar 6) (mC (.int 3)))) (mRet (mOp fIx (mEN (mLst (mA1 (mC .none) (mA1 (mEN (mList (mQVar 1))) (mA1 (mRevT (mVar 1)) (mA1 (mOp fAdd (mVar 1) (mSlT (mVar 1) (mO1 (mUn fNeg (mC (.int 1)))) mO0)) (mA1 (mTup mA0) (mA1 (mOp fAdd (mVar 1) (mTup (mA1 (mC .none) mA0))) (mA1 (mC (.int 0)) mA0))))))))) (mCall 2 (lev 58)._law_next (mAV 0 (mA1 (mC (.int 7)) mA0))))) mNext)
def b_7 : MS := (mIfS (mAnd (mTB (mOp fEq (mVar 6) (mC (.int 4)))) (mTB (mOp fGt (mLen (mQVar 4)) (mC (.int 0))))) (mRet (mOp fAdd (mOp fAdd (mSlT (mVar 1) mO0 (mO1 (mVar 3))) (mTup (mA1 (mTup (mA1 (mOp fAdd (mSlT (mVar 4) mO0 (mO1 (mUn fNeg (mC (.int 1))))) (mTup (mA1 (mB fBool (mA1 (mIxV 4 (mUn fNeg (mC (.int 1)))) mA0)) mA0))) (mA1 (mVar 5) mA0))) mA0))) (mSlT (mVar 1) (mO1 (mOp fAdd (mVar 3) (mC (.int 1)))) mO0))) mNext)
def b_8 : MS := (mRet (mVar 1))
def bB : MS := (mSeq b_0 (mSeq b_1 (mSeq b_2 (mSeq b_3 (mSeq b_4 (mSeq b_5 (mSeq b_6 (mSeq b_7 b_8))))))))
theorem n58 : (lev 58)._law_next = d__law_next := rfl
theorem bent_def : (lev 59)._law_bent = mDef 3 8 fun _ => bB := rfl
theorem Gv.ints (l : List Nat) (hz : l.length ≤ 1000000) : Gv 1 (pD l) := Gv.tup (k := 0) (fun x hx => by obtain ⟨i, _, rfl⟩ := List.mem_map.mp hx; exact .int _ _) (by rw [List.length_map]; exact hz)
/-- a row with one item put in place of another -/
theorem Gv.put3 {xs L R : List D} (hx : ∀ x ∈ xs, Gv 2 x) (hL : ∀ x ∈ L, x ∈ xs) (hR : ∀ x ∈ R, x ∈ xs) {k : Nat} {ys : List D} (hy : ∀ y ∈ ys, Gv k y) (hk : 2 ≤ k) (hz : (L ++ ys ++ R).length ≤ 1000000) : Gv (k + 1) (.tuple (L ++ ys ++ R)) := Gv.tup (fun z hz => by
  rcases List.mem_append.mp hz with hz | hz
  · rcases List.mem_append.mp hz with hz | hz
    · exact (hx z (hL z hz)).mono hk
    · exact hy z hz
  · exact (hx z (hR z hz)).mono hk) hz
section
variable {A : List Int} {good : List Bool} {sts : List Stp} (h : AuOk A good sts) {t : T} (o : t.ok A) (hn : t.n ≤ 15) (S : Sto) (hS : Sg 0 S)
include h o hn hS
theorem bent_sp : ∃ (v : D) (S' : Sto), Gv 38 v ∧ Ad 0 S S' ∧ (lev 59)._law_bent [.loc 0, .d (.tuple (ruD sts t)), .d (.int (good.length : Nat))] S = some (.val v, S') := by
  have hg := h.len
  have pl := t.places_len
  have np := t.n_pos
  have rl : (ruD sts t).length = t.n := by rw [ruD, List.length_map, pl]
  have hxs : ∀ x ∈ ruD sts t, Gv 2 x := fun x hx => by
    obtain ⟨p, hp, rfl⟩ := List.mem_map.mp hx
    have := has_plen (places_has t p hp)
    exact pair_gv (Gv.ints p (by omega)) (.int _ _)
  obtain ⟨g, S1, hg1, ad1, e1⟩ := nx 58 n58 t.n (by omega) (by omega) S hS
  have K0 : b_0 [some (.loc 0), some (.d (.tuple (ruD sts t))), some (.d (.int (good.length : Nat))), none, none, none, none, none] S = some (.nx, [some (.loc 0), some (.d (.tuple (ruD sts t))), some (.d (.int (good.length : Nat))), some (.d (.int (g : Nat))), none, none, none, none], S1) := by
    simp [b_0, mDef, mSeq, mRet, mRetL, mRetV, mRetN, mIfS, mAsg, mNew, mAug, mSub, mApp, mExtN, mExtT, mPop, mDrop, mNext, mNever, mOp, mUn, mVar, mC, mQVar, mLVar, mIxV, mQE, mLE, mEN, asL, asQ, mTup, mLst, mDs, datas, mA0, mA1, mAV, mCat, mTB, mTru, tru, mTruQ, mAnd, mOr, mNot, mAndV, mOrV, mNotV, mIf, mChain, mLen, mAll, mAny, mBools, mSum, mList, mTuple, mB, fAbs, fInt, fMax2, fMin2, mIsi, fIsi, tyN, fAdd, fTT, fSub, fMulX, fMul, fRep, fII, fI0, bMul, bDiv, bMod, bPow, fDiv, fMod, fPow, fLt, fLe, fGt, fGe, fIs, fIsNot, fIsB, fNotB, fIsN, fNotN, isN, fNeg, fIx, mCall, mCallN, rtD, rtN, mgN, mg0, mg1, mgT, mO0, mO1, mSlT, mSlL, mYes, mR1, mR2, mNotT, mNotTQ, mSortI, mZip, mEnum, mInQ, mCatV, mCatX, mCatY, mSlV, mForV, mLcV, mIdx, mPopI, mRg1, mR3, mRevT, fBool, Option.bind, rl, e1]
  have hi1 : g < t.places.length := by omega
  obtain ⟨p, hpe⟩ : ∃ p, t.places[g]? = some p := ⟨_, List.getElem?_eq_getElem hi1⟩
  have hp := places_has t p (List.mem_of_getElem? hpe)
  have hpl := has_plen hp
  obtain ⟨q, hq⟩ : ∃ q : Int, q = (st sts (t.sub p) : Int) := ⟨_, rfl⟩
  have e2 : atI (ruD sts t) (g : Int) = some (.tuple [pD p, .int q]) := by
    rw [atI_n (by omega) (by omega), Int.toNat_natCast, ruD, List.getElem?_map, hpe, hq]
    rfl
  obtain ⟨xs, hxe⟩ : ∃ xs, ruD sts t = xs := ⟨_, rfl⟩
  rw [hxe] at hxs rl e2 K0 ⊢
  have K1 : b_1 [some (.loc 0), some (.d (.tuple xs)), some (.d (.int (good.length : Nat))), some (.d (.int (g : Nat))), none, none, none, none] S1 = some (.nx, [some (.loc 0), some (.d (.tuple xs)), some (.d (.int (good.length : Nat))), some (.d (.int (g : Nat))), some (.d (pD p)), some (.d (.int q)), none, none], S1) := by
    simp [b_1, mDef, mSeq, mRet, mRetL, mRetV, mRetN, mIfS, mAsg, mNew, mAug, mSub, mApp, mExtN, mExtT, mPop, mDrop, mNext, mNever, mOp, mUn, mVar, mC, mQVar, mLVar, mIxV, mQE, mLE, mEN, asL, asQ, mTup, mLst, mDs, datas, mA0, mA1, mAV, mCat, mTB, mTru, tru, mTruQ, mAnd, mOr, mNot, mAndV, mOrV, mNotV, mIf, mChain, mLen, mAll, mAny, mBools, mSum, mList, mTuple, mB, fAbs, fInt, fMax2, fMin2, mIsi, fIsi, tyN, fAdd, fTT, fSub, fMulX, fMul, fRep, fII, fI0, bMul, bDiv, bMod, bPow, fDiv, fMod, fPow, fLt, fLe, fGt, fGe, fIs, fIsNot, fIsB, fNotB, fIsN, fNotN, isN, fNeg, fIx, mCall, mCallN, rtD, rtN, mgN, mg0, mg1, mgT, mO0, mO1, mSlT, mSlL, mYes, mR1, mR2, mNotT, mNotTQ, mSortI, mZip, mEnum, mInQ, mCatV, mCatX, mCatY, mSlV, mForV, mLcV, mIdx, mPopI, mRg1, mR3, mRevT, fBool, Option.bind, e2]
  obtain ⟨c, S2, hc1, ad2, e3⟩ := nx 58 n58 7 (by omega) (by omega) S1 ad1.sg
  have e3 : (lev 58)._law_next [.loc 0, .d (.int 7)] S1 = some (.val (.int (c : Nat)), S2) := e3
  obtain ⟨r, hr⟩ : ∃ r : List (Option Sl), r = [some (.loc 0), some (.d (.tuple xs)), some (.d (.int (good.length : Nat))), some (.d (.int (g : Nat))), some (.d (pD p)), some (.d (.int q)), some (.d (.int (c : Nat)))] := ⟨_, rfl⟩
  obtain ⟨ρ, hρ⟩ : ∃ ρ : Rho, ρ = r ++ [none] := ⟨_, rfl⟩
  have K2 : b_2 [some (.loc 0), some (.d (.tuple xs)), some (.d (.int (good.length : Nat))), some (.d (.int (g : Nat))), some (.d (pD p)), some (.d (.int q)), none, none] S1 = some (.nx, ρ, S2) := by
    rw [hρ, hr]
    simp [b_2, mDef, mSeq, mRet, mRetL, mRetV, mRetN, mIfS, mAsg, mNew, mAug, mSub, mApp, mExtN, mExtT, mPop, mDrop, mNext, mNever, mOp, mUn, mVar, mC, mQVar, mLVar, mIxV, mQE, mLE, mEN, asL, asQ, mTup, mLst, mDs, datas, mA0, mA1, mAV, mCat, mTB, mTru, tru, mTruQ, mAnd, mOr, mNot, mAndV, mOrV, mNotV, mIf, mChain, mLen, mAll, mAny, mBools, mSum, mList, mTuple, mB, fAbs, fInt, fMax2, fMin2, mIsi, fIsi, tyN, fAdd, fTT, fSub, fMulX, fMul, fRep, fII, fI0, bMul, bDiv, bMod, bPow, fDiv, fMod, fPow, fLt, fLe, fGt, fGe, fIs, fIsNot, fIsB, fNotB, fIsN, fNotN, isN, fNeg, fIx, mCall, mCallN, rtD, rtN, mgN, mg0, mg1, mgT, mO0, mO1, mSlT, mSlL, mYes, mR1, mR2, mNotT, mNotTQ, mSortI, mZip, mEnum, mInQ, mCatV, mCatX, mCatY, mSlV, mForV, mLcV, mIdx, mPopI, mRg1, mR3, mRevT, fBool, Option.bind, e3]
  have ad12 := ad1.trans ad2
  have fin : ∀ (v : D) (S' : Sto), Gv 38 v → Ad 0 S S' → (∃ ρ', mSeq b_3 (mSeq b_4 (mSeq b_5 (mSeq b_6 (mSeq b_7 b_8)))) ρ S2 = some (.rt (.val v), ρ', S')) → ∃ (v : D) (S' : Sto), Gv 38 v ∧ Ad 0 S S' ∧ (lev 59)._law_bent [.loc 0, .d (.tuple xs), .d (.int (good.length : Nat))] S = some (.val v, S') := fun v S' hv ad ⟨ρ', e⟩ => by
    refine ⟨v, S', hv, ad, ?_⟩
    rw [bent_def]
    exact def_rt3S (k := 5) ((seq_nx K0).trans ((seq_nx K1).trans ((seq_nx K2).trans e))) ad.take
  have tg : ∀ (k : Int), (mTB (mOp fEq (mVar 6) (mC (.int k)))) ρ S2 = some (decide ((c : Int) = k), S2) := fun k => by
    have e := eq_int (c : Nat) k
    rw [hρ, hr]
    simp [mTB, mOp, mVar, mC, e]
  -- slices
  obtain ⟨L, hL⟩ : ∃ L, cut xs none (some (g : Int)) = L := ⟨_, rfl⟩
  obtain ⟨R, hR⟩ : ∃ R, cut xs (some ((g : Int) + 1)) none = R := ⟨_, rfl⟩
  obtain ⟨mL, lL⟩ := cut_mem xs none (some (g : Int))
  obtain ⟨mR, lR⟩ := cut_mem xs (some ((g : Int) + 1)) none
  rw [hL] at mL lL
  rw [hR] at mR lR
  have sL : ∀ (z : Option Sl) (S : Sto), mSlT (mVar 1) mO0 (mO1 (mVar 3)) (r ++ [z]) S = some (.tuple L, S) := fun z S => by
    rw [hr]
    simp [mDef, mSeq, mRet, mRetL, mRetV, mRetN, mIfS, mAsg, mNew, mAug, mSub, mApp, mExtN, mExtT, mPop, mDrop, mNext, mNever, mOp, mUn, mVar, mC, mQVar, mLVar, mIxV, mQE, mLE, mEN, asL, asQ, mTup, mLst, mDs, datas, mA0, mA1, mAV, mCat, mTB, mTru, tru, mTruQ, mAnd, mOr, mNot, mAndV, mOrV, mNotV, mIf, mChain, mLen, mAll, mAny, mBools, mSum, mList, mTuple, mB, fAbs, fInt, fMax2, fMin2, mIsi, fIsi, tyN, fAdd, fTT, fSub, fMulX, fMul, fRep, fII, fI0, bMul, bDiv, bMod, bPow, fDiv, fMod, fPow, fLt, fLe, fGt, fGe, fIs, fIsNot, fIsB, fNotB, fIsN, fNotN, isN, fNeg, fIx, mCall, mCallN, rtD, rtN, mgN, mg0, mg1, mgT, mO0, mO1, mSlT, mSlL, mYes, mR1, mR2, mNotT, mNotTQ, mSortI, mZip, mEnum, mInQ, mCatV, mCatX, mCatY, mSlV, mForV, mLcV, mIdx, mPopI, mRg1, mR3, mRevT, fBool, Option.bind, hL]
  have sR : ∀ (z : Option Sl) (S : Sto), mSlT (mVar 1) (mO1 (mOp fAdd (mVar 3) (mC (.int 1)))) mO0 (r ++ [z]) S = some (.tuple R, S) := fun z S => by
    rw [hr]
    simp [mDef, mSeq, mRet, mRetL, mRetV, mRetN, mIfS, mAsg, mNew, mAug, mSub, mApp, mExtN, mExtT, mPop, mDrop, mNext, mNever, mOp, mUn, mVar, mC, mQVar, mLVar, mIxV, mQE, mLE, mEN, asL, asQ, mTup, mLst, mDs, datas, mA0, mA1, mAV, mCat, mTB, mTru, tru, mTruQ, mAnd, mOr, mNot, mAndV, mOrV, mNotV, mIf, mChain, mLen, mAll, mAny, mBools, mSum, mList, mTuple, mB, fAbs, fInt, fMax2, fMin2, mIsi, fIsi, tyN, fAdd, fTT, fSub, fMulX, fMul, fRep, fII, fI0, bMul, bDiv, bMod, bPow, fDiv, fMod, fPow, fLt, fLe, fGt, fGe, fIs, fIsNot, fIsB, fNotB, fIsN, fNotN, isN, fNeg, fIx, mCall, mCallN, rtD, rtN, mgN, mg0, mg1, mgT, mO0, mO1, mSlT, mSlL, mYes, mR1, mR2, mNotT, mNotTQ, mSortI, mZip, mEnum, mInQ, mCatV, mCatX, mCatY, mSlV, mForV, mLcV, mIdx, mPopI, mRg1, mR3, mRevT, fBool, Option.bind, hR]
  have add : ∀ (X Y : List D), (X ++ Y).length ≤ 1000000 → fAdd (.tuple X) (.tuple Y) = some (.tuple (X ++ Y)) := fun X Y hz => by
    rw [List.length_append] at hz
    simp [fAdd, fI0, fTT, hz]
  have put : ∀ (m : ME) (z : Option Sl) (S S' : Sto) (y : D), m (r ++ [z]) S = some (y, S') → mOp fAdd (mOp fAdd (mSlT (mVar 1) mO0 (mO1 (mVar 3))) (mTup (mA1 m mA0))) (mSlT (mVar 1) (mO1 (mOp fAdd (mVar 3) (mC (.int 1)))) mO0) (r ++ [z]) S = some (.tuple (L ++ [y] ++ R), S') := fun m z S S' y e =>
    op_of (op_of (sL z S) (show mTup (mA1 m mA0) (r ++ [z]) S = some (.tuple [y], S') by simp [mTup, mDs, mA1, mA0, e, datas]) (add L [y] (by simp; omega))) (sR z S') (add (L ++ [y]) R (by simp; omega))
  have gput : ∀ (k : Nat) (y : D), Gv k y → 2 ≤ k → k ≤ 10 → Gv 38 (.tuple (L ++ [y] ++ R)) := fun k y hy h1 h2 => (Gv.put3 hxs mL mR (k := k) (fun z hz => by rw [List.mem_singleton.mp hz]; exact hy) h1 (by simp; omega)).mono (by omega)
  have gp : Gv 1 (pD p) := Gv.ints p (by omega)
  have gi : ∀ x ∈ iD p, Gv 0 x := fun x hx => by obtain ⟨i, _, rfl⟩ := List.mem_map.mp hx; exact .int _ _
  have lp : (iD p).length = p.length := List.length_map ..
  have hmem : ∀ {x : D} {ys : List D} {g : Nat}, atI ys (g : Int) = some x → x ∈ ys := fun {x ys g} e => by
    unfold atI at e
    cases e1 : ixN ys.length (g : Int) with
    | none => rw [e1] at e; cases e
    | some j => rw [e1] at e; exact List.mem_of_getElem? e
  by_cases z0 : (c : Int) = 0
  · have tt := tg 0
    rw [decide_eq_true z0] at tt
    obtain ⟨d, S3, hd1, ad3, e4⟩ := nx 58 n58 good.length (by omega) (by omega) S2 ad2.sg
    obtain ⟨f, S4, hf1, ad4, e5⟩ := nx 58 n58 7 (by omega) (by omega) S3 ad3.sg
    have e5 : (lev 58)._law_next [.loc 0, .d (.int 7)] S3 = some (.val (.int (f : Nat)), S4) := e5
    obtain ⟨ys, hys⟩ : ∃ ys : List D, ys = [.int (d : Nat), .int (q + 1), .int (-1), .bool true, .bool false, .none, .str "0"] := ⟨_, rfl⟩
    obtain ⟨x, hx, e6⟩ := at_get (xs := ys) (g := (f : Int)) (by omega) (by rw [hys]; simp only [List.length_cons, List.length_nil]; omega)
    have gx : Gv 0 x := by
      rw [hys] at hx
      simp only [List.mem_cons, List.not_mem_nil, or_false] at hx
      rcases hx with rfl | rfl | rfl | rfl | rfl | rfl | rfl
      · exact .int _ _
      · exact .int _ _
      · exact .int _ _
      · exact .bool _ _
      · exact .bool _ _
      · exact .non _
      · exact .str _ _ sh_0
    refine fin _ S4 (gput 2 (.tuple [pD p, x]) (pair_gv gp (gx.mono (by omega))) (by omega) (by omega)) (ad12.trans (ad3.trans ad4)) ⟨ρ, rt_stop (if_rt tt (ret_of ?_))⟩
    rw [hρ]
    refine put _ none S2 S4 _ ?_
    rw [hr]
    rw [hys] at e6
    simp [mDef, mSeq, mRet, mRetL, mRetV, mRetN, mIfS, mAsg, mNew, mAug, mSub, mApp, mExtN, mExtT, mPop, mDrop, mNext, mNever, mOp, mUn, mVar, mC, mQVar, mLVar, mIxV, mQE, mLE, mEN, asL, asQ, mTup, mLst, mDs, datas, mA0, mA1, mAV, mCat, mTB, mTru, tru, mTruQ, mAnd, mOr, mNot, mAndV, mOrV, mNotV, mIf, mChain, mLen, mAll, mAny, mBools, mSum, mList, mTuple, mB, fAbs, fInt, fMax2, fMin2, mIsi, fIsi, tyN, fAdd, fTT, fSub, fMulX, fMul, fRep, fII, fI0, bMul, bDiv, bMod, bPow, fDiv, fMod, fPow, fLt, fLe, fGt, fGe, fIs, fIsNot, fIsB, fNotB, fIsN, fNotN, isN, fNeg, fIx, mCall, mCallN, rtD, rtN, mgN, mg0, mg1, mgT, mO0, mO1, mSlT, mSlL, mYes, mR1, mR2, mNotT, mNotTQ, mSortI, mZip, mEnum, mInQ, mCatV, mCatX, mCatY, mSlV, mForV, mLcV, mIdx, mPopI, mRg1, mR3, mRevT, fBool, Option.bind, e4, e5, e6]
  · have tt := tg 0
    rw [decide_eq_false z0] at tt
    have k3 : b_3 ρ S2 = some (.nx, ρ, S2) := if_nx tt
    by_cases z1 : (c : Int) = 1
    · have tt := tg 1
      rw [decide_eq_true z1] at tt
      refine fin (.tuple (L ++ R)) S2 ?_ ad12 ⟨ρ, (seq_nx k3).trans (rt_stop (if_rt tt (ret_of ?_)))⟩
      · have := Gv.put3 hxs mL mR (k := 2) (ys := []) (by simp) (by omega) (by simp; omega)
        rw [List.append_nil] at this
        exact this.mono (by omega)
      · rw [hρ]
        exact op_of (sL none S2) (sR none S2) (add L R (by simp; omega))
    · have tt := tg 1
      rw [decide_eq_false z1] at tt
      have k4 : b_4 ρ S2 = some (.nx, ρ, S2) := if_nx tt
      by_cases z2 : (c : Int) = 2
      · have tt := tg 2
        rw [decide_eq_true z2] at tt
        obtain ⟨f, S3, hf1, ad3, e4⟩ := nx 58 n58 8 (by omega) (by omega) S2 ad2.sg
        have e4 : (lev 58)._law_next [.loc 0, .d (.int 8)] S2 = some (.val (.int (f : Nat)), S3) := e4
        obtain ⟨ys, hys⟩ : ∃ ys : List D, ys = [.none, .tuple [pD p], .list [pD p, .int q], .tuple [pD p, .int q, .int 0], .tuple [.int q, pD p], .tuple [.list (iD p), .int q], .tuple [.tuple (iD p ++ [.int 0]), .int q], .tuple [.tuple (.bool true :: iD p), .int q]] := ⟨_, rfl⟩
        obtain ⟨x, hx, e6⟩ := at_get (xs := ys) (g := (f : Int)) (by omega) (by rw [hys]; simp only [List.length_cons, List.length_nil]; omega)
        have gx : Gv 4 x := by
          rw [hys] at hx
          simp only [List.mem_cons, List.not_mem_nil, or_false] at hx
          rcases hx with rfl | rfl | rfl | rfl | rfl | rfl | rfl | rfl
          · exact .non _
          · exact Gv.tup (k := 3) (by simpa using gp.mono (by omega)) (by simp)
          · exact Gv.list (k := 3) (by simpa using ⟨(gp.mono (show 1 ≤ 3 by omega)).w, .int _ _⟩)
          · exact Gv.tup (k := 3) (by simpa using ⟨gp.mono (by omega), .int _ _, .int _ _⟩) (by simp)
          · exact Gv.tup (k := 3) (by simpa using ⟨.int _ _, gp.mono (by omega)⟩) (by simp)
          · exact pair_gv (k := 3) ((Gv.list (k := 0) fun x hx => (gi x hx).w).mono (by omega)) (.int _ _)
          · exact pair_gv (k := 3) ((Gv.flat (by simp; omega) fun x hx => by
              rcases List.mem_append.mp hx with hx | hx
              · exact gi x hx
              · rw [List.mem_singleton.mp hx]; exact .int _ _).mono (by omega)) (.int _ _)
          · exact pair_gv (k := 3) ((Gv.flat (by simp; omega) fun x hx => by
              rcases List.mem_cons.mp hx with rfl | hx
              · exact .bool _ _
              · exact gi x hx).mono (by omega)) (.int _ _)
        refine fin _ S3 (gput 4 x gx (by omega) (by omega)) (ad12.trans ad3) ⟨r ++ [some (.d (.list ys))], (seq_nx k3).trans ((seq_nx k4).trans (rt_stop (if_rt tt ((seq_nx (ρ1 := r ++ [some (.d (.list ys))]) (S1 := S2) ?_).trans (ret_of ?_)))))⟩
        · rw [hρ, hr, hys]
          have : p.length + 1 ≤ 1000000 := by omega
          have : 1 + p.length ≤ 1000000 := by omega
          simp [mDef, mSeq, mRet, mRetL, mRetV, mRetN, mIfS, mAsg, mNew, mAug, mSub, mApp, mExtN, mExtT, mPop, mDrop, mNext, mNever, mOp, mUn, mVar, mC, mQVar, mLVar, mIxV, mQE, mLE, mEN, asL, asQ, mTup, mLst, mDs, datas, mA0, mA1, mAV, mCat, mTB, mTru, tru, mTruQ, mAnd, mOr, mNot, mAndV, mOrV, mNotV, mIf, mChain, mLen, mAll, mAny, mBools, mSum, mList, mTuple, mB, fAbs, fInt, fMax2, fMin2, mIsi, fIsi, tyN, fAdd, fTT, fSub, fMulX, fMul, fRep, fII, fI0, bMul, bDiv, bMod, bPow, fDiv, fMod, fPow, fLt, fLe, fGt, fGe, fIs, fIsNot, fIsB, fNotB, fIsN, fNotN, isN, fNeg, fIx, mCall, mCallN, rtD, rtN, mgN, mg0, mg1, mgT, mO0, mO1, mSlT, mSlL, mYes, mR1, mR2, mNotT, mNotTQ, mSortI, mZip, mEnum, mInQ, mCatV, mCatX, mCatY, mSlV, mForV, mLcV, mIdx, mPopI, mRg1, mR3, mRevT, fBool, Option.bind, *]
        · refine put _ _ S2 S3 _ ?_
          rw [hr]
          simp [mDef, mSeq, mRet, mRetL, mRetV, mRetN, mIfS, mAsg, mNew, mAug, mSub, mApp, mExtN, mExtT, mPop, mDrop, mNext, mNever, mOp, mUn, mVar, mC, mQVar, mLVar, mIxV, mQE, mLE, mEN, asL, asQ, mTup, mLst, mDs, datas, mA0, mA1, mAV, mCat, mTB, mTru, tru, mTruQ, mAnd, mOr, mNot, mAndV, mOrV, mNotV, mIf, mChain, mLen, mAll, mAny, mBools, mSum, mList, mTuple, mB, fAbs, fInt, fMax2, fMin2, mIsi, fIsi, tyN, fAdd, fTT, fSub, fMulX, fMul, fRep, fII, fI0, bMul, bDiv, bMod, bPow, fDiv, fMod, fPow, fLt, fLe, fGt, fGe, fIs, fIsNot, fIsB, fNotB, fIsN, fNotN, isN, fNeg, fIx, mCall, mCallN, rtD, rtN, mgN, mg0, mg1, mgT, mO0, mO1, mSlT, mSlL, mYes, mR1, mR2, mNotT, mNotTQ, mSortI, mZip, mEnum, mInQ, mCatV, mCatX, mCatY, mSlV, mForV, mLcV, mIdx, mPopI, mRg1, mR3, mRevT, fBool, Option.bind, e4, e6]
      · have tt := tg 2
        rw [decide_eq_false z2] at tt
        have k5 : b_5 ρ S2 = some (.nx, ρ, S2) := if_nx tt
        by_cases z3 : (c : Int) = 3
        · have tt := tg 3
          rw [decide_eq_true z3] at tt
          obtain ⟨f, S3, hf1, ad3, e4⟩ := nx 58 n58 7 (by omega) (by omega) S2 ad2.sg
          have e4 : (lev 58)._law_next [.loc 0, .d (.int 7)] S2 = some (.val (.int (f : Nat)), S3) := e4
          obtain ⟨M, hM⟩ : ∃ M, cut xs (some (-1)) none = M := ⟨_, rfl⟩
          obtain ⟨mM, lM⟩ := cut_mem xs (some (-1)) none
          rw [hM] at mM lM
          obtain ⟨ys, hys⟩ : ∃ ys : List D, ys = [.none, .list xs, .tuple xs.reverse, .tuple (xs ++ M), .tuple [], .tuple (xs ++ [.none]), .int 0] := ⟨_, rfl⟩
          obtain ⟨x, hx, e6⟩ := at_get (xs := ys) (g := (f : Int)) (by omega) (by rw [hys]; simp only [List.length_cons, List.length_nil]; omega)
          have gx : Gv 3 x := by
            rw [hys] at hx
            simp only [List.mem_cons, List.not_mem_nil, or_false] at hx
            rcases hx with rfl | rfl | rfl | rfl | rfl | rfl | rfl
            · exact .non _
            · exact Gv.list fun x hx => (hxs x hx).w
            · exact Gv.tup (fun x hx => hxs x (List.mem_reverse.mp hx)) (by simp; omega)
            · exact Gv.tup (fun x hx => by
                rcases List.mem_append.mp hx with hx | hx
                · exact hxs x hx
                · exact hxs x (mM x hx)) (by simp; omega)
            · exact Gv.tup (by simp) (by simp)
            · exact Gv.tup (fun x hx => by
                rcases List.mem_append.mp hx with hx | hx
                · exact hxs x hx
                · rw [List.mem_singleton.mp hx]; exact .non _) (by simp; omega)
            · exact .int _ _
          refine fin x S3 (gx.mono (by omega)) (ad12.trans ad3) ⟨ρ, (seq_nx k3).trans ((seq_nx k4).trans ((seq_nx k5).trans (rt_stop (if_rt tt (ret_of ?_)))))⟩
          rw [hρ, hr]
          rw [hys] at e6
          have a1 := add xs M (by simp; omega)
          have a2 := add xs [.none] (by simp; omega)
          have b1 : xs.length + M.length ≤ 1000000 := by omega
          have b2 : xs.length + 1 ≤ 1000000 := by omega
          simp [mDef, mSeq, mRet, mRetL, mRetV, mRetN, mIfS, mAsg, mNew, mAug, mSub, mApp, mExtN, mExtT, mPop, mDrop, mNext, mNever, mOp, mUn, mVar, mC, mQVar, mLVar, mIxV, mQE, mLE, mEN, asL, asQ, mTup, mLst, mDs, datas, mA0, mA1, mAV, mCat, mTB, mTru, tru, mTruQ, mAnd, mOr, mNot, mAndV, mOrV, mNotV, mIf, mChain, mLen, mAll, mAny, mBools, mSum, mList, mTuple, mB, fAbs, fInt, fMax2, fMin2, mIsi, fIsi, tyN, fAdd, fTT, fSub, fMulX, fMul, fRep, fII, fI0, bMul, bDiv, bMod, bPow, fDiv, fMod, fPow, fLt, fLe, fGt, fGe, fIs, fIsNot, fIsB, fNotB, fIsN, fNotN, isN, fNeg, fIx, mCall, mCallN, rtD, rtN, mgN, mg0, mg1, mgT, mO0, mO1, mSlT, mSlL, mYes, mR1, mR2, mNotT, mNotTQ, mSortI, mZip, mEnum, mInQ, mCatV, mCatX, mCatY, mSlV, mForV, mLcV, mIdx, mPopI, mRg1, mR3, mRevT, fBool, Option.bind, e4, e6, hM, b1, b2]
        · have tt := tg 3
          rw [decide_eq_false z3] at tt
          have k6 : b_6 ρ S2 = some (.nx, ρ, S2) := if_nx tt
          have lst : fin = fin := rfl
          have done : ∀ (b : Bool), (mAnd (mTB (mOp fEq (mVar 6) (mC (.int 4)))) (mTB (mOp fGt (mLen (mQVar 4)) (mC (.int 0))))) ρ S2 = some (b, S2) → (b = true → p ≠ []) → ∃ (v : D) (S' : Sto), Gv 38 v ∧ Ad 0 S S' ∧ (lev 59)._law_bent [.loc 0, .d (.tuple xs), .d (.int (good.length : Nat))] S = some (.val v, S') := fun b tt hb => by
            cases b with
            | false =>
              have k7 : b_7 ρ S2 = some (.nx, ρ, S2) := if_nx tt
              refine fin (.tuple xs) S2 ((Gv.tup hxs (by omega)).mono (by omega)) ad12 ⟨ρ, (seq_nx k3).trans ((seq_nx k4).trans ((seq_nx k5).trans ((seq_nx k6).trans ((seq_nx k7).trans (ret_of ?_)))))⟩
              rw [hρ, hr]
              rfl
            | true =>
              have hne := hb rfl
              obtain ⟨p', j, rfl⟩ : ∃ p' j, p = p' ++ [j] := ⟨_, _, (List.dropLast_concat_getLast hne).symm⟩
              obtain ⟨M, hM⟩ : ∃ M, cut (iD (p' ++ [j])) none (some (-1)) = M := ⟨_, rfl⟩
              obtain ⟨mM, lM⟩ := cut_mem (iD (p' ++ [j])) none (some (-1))
              rw [hM] at mM lM
              have e7 : atI (iD (p' ++ [j])) (-1) = some (.int (j : Nat)) := by
                unfold atI ixN
                rw [lp]
                simp only [List.length_append, List.length_cons, List.length_nil]
                rw [show iD (p' ++ [j]) = iD p' ++ [.int (j : Nat)] by simp [iD]]
                have : (iD p').length = p'.length := List.length_map ..
                rw [if_neg (by omega), if_pos (by omega), Option.bind_some, show ((-1 : Int) + ((p'.length + (0 + 1) : Nat) : Int)).toNat = p'.length by omega, List.getElem?_append_right (by omega), this, Nat.sub_self]
                rfl
              have lM' : M.length + 1 ≤ 1000000 := by rw [lp] at lM; omega
              refine fin _ S2 (gput 2 (.tuple [.tuple (M ++ [.bool ((j : Int) != 0)]), .int q]) (pair_gv (Gv.flat (by simp; omega) fun x hx => ?_) (.int _ _)) (by omega) (by omega)) ad12 ⟨ρ, (seq_nx k3).trans ((seq_nx k4).trans ((seq_nx k5).trans ((seq_nx k6).trans (rt_stop (if_rt tt (ret_of ?_))))))⟩
              · rcases List.mem_append.mp hx with hx | hx
                · exact gi x (mM x hx)
                · rw [List.mem_singleton.mp hx]; exact .bool _ _
              · rw [hρ]
                refine put _ none S2 S2 _ ?_
                rw [hr]
                have hpd : pD (p' ++ [j]) = .tuple (iD (p' ++ [j])) := rfl
                rw [hpd]
                generalize iD (p' ++ [j]) = zs at hM e7 ⊢
                simp [mDef, mSeq, mRet, mRetL, mRetV, mRetN, mIfS, mAsg, mNew, mAug, mSub, mApp, mExtN, mExtT, mPop, mDrop, mNext, mNever, mOp, mUn, mVar, mC, mQVar, mLVar, mIxV, mQE, mLE, mEN, asL, asQ, mTup, mLst, mDs, datas, mA0, mA1, mAV, mCat, mTB, mTru, tru, mTruQ, mAnd, mOr, mNot, mAndV, mOrV, mNotV, mIf, mChain, mLen, mAll, mAny, mBools, mSum, mList, mTuple, mB, fAbs, fInt, fMax2, fMin2, mIsi, fIsi, tyN, fAdd, fTT, fSub, fMulX, fMul, fRep, fII, fI0, bMul, bDiv, bMod, bPow, fDiv, fMod, fPow, fLt, fLe, fGt, fGe, fIs, fIsNot, fIsB, fNotB, fIsN, fNotN, isN, fNeg, fIx, mCall, mCallN, rtD, rtN, mgN, mg0, mg1, mgT, mO0, mO1, mSlT, mSlL, mYes, mR1, mR2, mNotT, mNotTQ, mSortI, mZip, mEnum, mInQ, mCatV, mCatX, mCatY, mSlV, mForV, mLcV, mIdx, mPopI, mRg1, mR3, mRevT, fBool, Option.bind, hM, e7, lM']
          have t4 := tg 4
          by_cases z4 : (c : Int) = 4
          · rw [decide_eq_true z4] at t4
            by_cases zp : p = []
            · refine done false ?_ (by simp)
              rw [hρ, hr] at t4 ⊢
              subst zp
              simp only [mAnd, t4, Option.bind_some]
              simp [mDef, mSeq, mRet, mRetL, mRetV, mRetN, mIfS, mAsg, mNew, mAug, mSub, mApp, mExtN, mExtT, mPop, mDrop, mNext, mNever, mOp, mUn, mVar, mC, mQVar, mLVar, mIxV, mQE, mLE, mEN, asL, asQ, mTup, mLst, mDs, datas, mA0, mA1, mAV, mCat, mTB, mTru, tru, mTruQ, mAnd, mOr, mNot, mAndV, mOrV, mNotV, mIf, mChain, mLen, mAll, mAny, mBools, mSum, mList, mTuple, mB, fAbs, fInt, fMax2, fMin2, mIsi, fIsi, tyN, fAdd, fTT, fSub, fMulX, fMul, fRep, fII, fI0, bMul, bDiv, bMod, bPow, fDiv, fMod, fPow, fLt, fLe, fGt, fGe, fIs, fIsNot, fIsB, fNotB, fIsN, fNotN, isN, fNeg, fIx, mCall, mCallN, rtD, rtN, mgN, mg0, mg1, mgT, mO0, mO1, mSlT, mSlL, mYes, mR1, mR2, mNotT, mNotTQ, mSortI, mZip, mEnum, mInQ, mCatV, mCatX, mCatY, mSlV, mForV, mLcV, mIdx, mPopI, mRg1, mR3, mRevT, fBool, Option.bind]
            · refine done true ?_ (fun _ => zp)
              rw [hρ, hr] at t4 ⊢
              simp only [mAnd, t4, Option.bind_some]
              have : 0 < p.length := List.length_pos_iff.mpr zp
              simp [mDef, mSeq, mRet, mRetL, mRetV, mRetN, mIfS, mAsg, mNew, mAug, mSub, mApp, mExtN, mExtT, mPop, mDrop, mNext, mNever, mOp, mUn, mVar, mC, mQVar, mLVar, mIxV, mQE, mLE, mEN, asL, asQ, mTup, mLst, mDs, datas, mA0, mA1, mAV, mCat, mTB, mTru, tru, mTruQ, mAnd, mOr, mNot, mAndV, mOrV, mNotV, mIf, mChain, mLen, mAll, mAny, mBools, mSum, mList, mTuple, mB, fAbs, fInt, fMax2, fMin2, mIsi, fIsi, tyN, fAdd, fTT, fSub, fMulX, fMul, fRep, fII, fI0, bMul, bDiv, bMod, bPow, fDiv, fMod, fPow, fLt, fLe, fGt, fGe, fIs, fIsNot, fIsB, fNotB, fIsN, fNotN, isN, fNeg, fIx, mCall, mCallN, rtD, rtN, mgN, mg0, mg1, mgT, mO0, mO1, mSlT, mSlL, mYes, mR1, mR2, mNotT, mNotTQ, mSortI, mZip, mEnum, mInQ, mCatV, mCatX, mCatY, mSlV, mForV, mLcV, mIdx, mPopI, mRg1, mR3, mRevT, fBool, Option.bind]
              omega
          · rw [decide_eq_false z4] at t4
            refine done false ?_ (by simp)
            simp [mAnd, t4]
end
end G
set_option linter.all false
set_option autoImplicit false
set_option maxRecDepth 100000
set_option maxHeartbeats 2000000
namespace G
open PySem L2
/- 0 script, 1 stream, 2 automaton, 3 tree, 4 row, 5 place, 6 turn, 7 value, 8 actual -/
def p_0 : MS := (mNew 1 (mCallN 1 (lev 59)._law_stream (mAV 0 mA0)))
def p_1 : MS := (mAsg (mCall 2 (lev 59)._law_automaton (mAV 1 (mA1 (mC (.int 3)) mA0))) (mgN 2))
def p_2 : MS := (mAsg (mCall 3 (lev 59)._law_tree (mAV 1 (mA1 (mIxV 2 (mC (.int 0))) (mA1 (mOp fAdd (mC (.int 1)) (mCall 2 (lev 59)._law_next (mAV 1 (mA1 (mC (.int 9)) mA0)))) mA0)))) (mgN 3))
def p_3 : MS := (mAsg (mTuple (mLc (mQE (mCall 1 (lev 59)._law_places (mAV 3 mA0))) (mgN 5) mYes (mTup (mA1 (mVar 5) (mA1 (mCall 2 (lev 59)._law_state (mAV 2 (mA1 (mCall 2 (lev 59)._law_part (mAV 3 (mAV 5 mA0))) mA0))) mA0))) [5])) (mgN 4))
def p_4_0 : MS := (mAsg (mCall 3 (lev 59)._law_bent (mAV 1 (mAV 4 (mA1 (mLen (mQE (mIxV 2 (mC (.int 1))))) mA0)))) (mgN 7))
def p_4_1 : MS := (mAsg (mCall 3 (lev 59).accepts_run (mAV 2 (mAV 3 (mAV 7 mA0)))) (mgN 8))
def p_4_2 : MS := (mIfS (mOr (mNot (mTru (mIsi "bool" (mVar 8)))) (mTB (mOp fNe (mVar 8) (mCall 3 (lev 59)._law_is_run (mAV 2 (mAV 3 (mAV 7 mA0))))))) (mRet (mC (.bool false))) mNext)
def p_4b : MS := (mSeq p_4_0 (mSeq p_4_1 p_4_2))
def p_4 : MS := (mFor (mR1 (mC (.int 6))) (mgN 6) p_4b)
def p_5 : MS := (mRet (mOp fIs (mCall 3 (lev 59).accepts_run (mAV 2 (mAV 3 (mAV 4 mA0)))) (mC (.bool true))))
def pB : MS := (mSeq p_0 (mSeq p_1 (mSeq p_2 (mSeq p_3 (mSeq p_4 p_5)))))
abbrev R4 (A : List Int) (good : List Bool) (sts : List Stp) (t : T) (w0 : Option Sl) (r : List (Option Sl)) : Rho := w0 :: some (.loc 0) :: some (.d (auD A good sts)) :: some (.d t.d) :: some (.d (.tuple (ruD sts t))) :: r
section
variable {A : List Int} {good : List Bool} {sts : List Stp} (h : AuOk A good sts) {t : T} (o : t.ok A) (hn : t.n ≤ 15)
include h o hn
theorem row_eq (w0 : Option Sl) (S : Sto) (r : List (Option Sl)) : p_3 (w0 :: some (.loc 0) :: some (.d (auD A good sts)) :: some (.d t.d) :: none :: none :: r) S = some (.nx, R4 A good sts t w0 (none :: r), S) := by
  have e5 : (lev 59)._law_places [.d t.d] S = _ := places_eq t 59 S (by omega) (by omega)
  have hq : (mQE (mCall 1 (lev 59)._law_places (mAV 3 mA0))) (w0 :: some (.loc 0) :: some (.d (auD A good sts)) :: some (.d t.d) :: none :: none :: r) S = some (t.places.map pD, S) := by
    simp [mDef, mSeq, mRet, mRetL, mRetV, mRetN, mIfS, mAsg, mNew, mAug, mSub, mApp, mExtN, mExtT, mPop, mDrop, mNext, mNever, mOp, mUn, mVar, mC, mQVar, mLVar, mIxV, mQE, mLE, mEN, asL, asQ, mTup, mLst, mDs, datas, mA0, mA1, mAV, mCat, mTB, mTru, tru, mTruQ, mAnd, mOr, mNot, mAndV, mOrV, mNotV, mIf, mChain, mLen, mAll, mAny, mBools, mSum, mList, mTuple, mB, fAbs, fInt, fMax2, fMin2, mIsi, fIsi, tyN, fAdd, fTT, fSub, fMulX, fMul, fRep, fII, fI0, bMul, bDiv, bMod, bPow, fDiv, fMod, fPow, fLt, fLe, fGt, fGe, fIs, fIsNot, fIsB, fNotB, fIsN, fNotN, isN, fNeg, fIx, mCall, mCallN, rtD, rtN, mgN, mg0, mg1, mgT, mO0, mO1, mSlT, mSlL, mYes, mR1, mR2, mNotT, mNotTQ, mSortI, mZip, mEnum, mInQ, mCatV, mCatX, mCatY, mSlV, mForV, mLcV, mIdx, mPopI, mRg1, mR3, mRevT, fBool, Option.bind, e5]
  have key := lc_map (mg := mgN 5) (me := mTup (mA1 (mVar 5) (mA1 (mCall 2 (lev 59)._law_state (mAV 2 (mA1 (mCall 2 (lev 59)._law_part (mAV 3 (mAV 5 mA0))) mA0))) mA0))) (ρ := w0 :: some (.loc 0) :: some (.d (auD A good sts)) :: some (.d t.d) :: none :: none :: r) (S := S) (fun d => .tuple [d, .int (st sts (t.sub (getP d)))]) (fun d => w0 :: some (.loc 0) :: some (.d (auD A good sts)) :: some (.d t.d) :: none :: some (.d d) :: r) (xs := t.places.map pD) (fun x _ => rfl) (fun x hx => by
    obtain ⟨p, hp, rfl⟩ := List.mem_map.mp hx
    have hh := places_has t p hp
    have so := sub_ok p t o hh
    have e6 : (lev 59)._law_part [.d t.d, .d (pD p)] S = _ := part_eq S t p hh
    have e7 : (lev 59)._law_state [.d (auD A good sts), .d (t.sub p).d] S = _ := law_state_eq h (t.sub p) 59 S so.1 (by omega)
    rw [getP_pD]
    generalize pD p = y at e6 ⊢
    simp [mDef, mSeq, mRet, mRetL, mRetV, mRetN, mIfS, mAsg, mNew, mAug, mSub, mApp, mExtN, mExtT, mPop, mDrop, mNext, mNever, mOp, mUn, mVar, mC, mQVar, mLVar, mIxV, mQE, mLE, mEN, asL, asQ, mTup, mLst, mDs, datas, mA0, mA1, mAV, mCat, mTB, mTru, tru, mTruQ, mAnd, mOr, mNot, mAndV, mOrV, mNotV, mIf, mChain, mLen, mAll, mAny, mBools, mSum, mList, mTuple, mB, fAbs, fInt, fMax2, fMin2, mIsi, fIsi, tyN, fAdd, fTT, fSub, fMulX, fMul, fRep, fII, fI0, bMul, bDiv, bMod, bPow, fDiv, fMod, fPow, fLt, fLe, fGt, fGe, fIs, fIsNot, fIsB, fNotB, fIsN, fNotN, isN, fNeg, fIx, mCall, mCallN, rtD, rtN, mgN, mg0, mg1, mgT, mO0, mO1, mSlT, mSlL, mYes, mR1, mR2, mNotT, mNotTQ, mSortI, mZip, mEnum, mInQ, mCatV, mCatX, mCatY, mSlV, mForV, mLcV, mIdx, mPopI, mRg1, mR3, mRevT, fBool, Option.bind, e6, e7])
  rw [List.map_map] at key
  have e8 : t.places.map ((fun d => PyData.tuple [d, .int (st sts (t.sub (getP d)))]) ∘ pD) = ruD sts t := by
    unfold ruD
    refine List.map_congr_left fun p _ => ?_
    show PyData.tuple [pD p, .int (st sts (t.sub (getP (pD p))))] = _
    rw [getP_pD]
  rw [e8] at key
  exact asg_of (tuple_of (lc_of (vs := [5]) hq (by rw [List.length_map, t.places_len]; omega) key)) rfl
theorem turn (S : Sto) (hS : Sg 0 S) (w0 w5 w6 w7 w8 : Option Sl) : ∃ v7 v8 S', Ad 0 S S' ∧ p_4b (R4 A good sts t w0 [w5, w6, w7, w8]) S = some (.nx, R4 A good sts t w0 [w5, w6, v7, v8], S') := by
  obtain ⟨v, S1, hv, ad, e1⟩ := bent_sp h o hn S hS
  have ml : mLen (mQE (mIxV 2 (mC (.int 1)))) (R4 A good sts t w0 [w5, w6, w7, w8]) S = some (.int (good.length : Nat), S) := by
    simp [mDef, mSeq, mRet, mRetL, mRetV, mRetN, mIfS, mAsg, mNew, mAug, mSub, mApp, mExtN, mExtT, mPop, mDrop, mNext, mNever, mOp, mUn, mVar, mC, mQVar, mLVar, mIxV, mQE, mLE, mEN, asL, asQ, mTup, mLst, mDs, datas, mA0, mA1, mAV, mCat, mTB, mTru, tru, mTruQ, mAnd, mOr, mNot, mAndV, mOrV, mNotV, mIf, mChain, mLen, mAll, mAny, mBools, mSum, mList, mTuple, mB, fAbs, fInt, fMax2, fMin2, mIsi, fIsi, tyN, fAdd, fTT, fSub, fMulX, fMul, fRep, fII, fI0, bMul, bDiv, bMod, bPow, fDiv, fMod, fPow, fLt, fLe, fGt, fGe, fIs, fIsNot, fIsB, fNotB, fIsN, fNotN, isN, fNeg, fIx, mCall, mCallN, rtD, rtN, mgN, mg0, mg1, mgT, mO0, mO1, mSlT, mSlL, mYes, mR1, mR2, mNotT, mNotTQ, mSortI, mZip, mEnum, mInQ, mCatV, mCatX, mCatY, mSlV, mForV, mLcV, mIdx, mPopI, mRg1, mR3, mRevT, fBool, Option.bind, auD, a31]
  have K0 : p_4_0 (R4 A good sts t w0 [w5, w6, w7, w8]) S = some (.nx, R4 A good sts t w0 [w5, w6, some (.d v), w8], S1) := asg_of (call3a_of rfl rfl ml e1) rfl
  have e2 := acc_eq h o hn v (hv.mono (by omega)) S1
  have K1 : p_4_1 (R4 A good sts t w0 [w5, w6, some (.d v), w8]) S1 = some (.nx, R4 A good sts t w0 [w5, w6, some (.d v), some (.d (.bool (isEq v (.tuple (ruD sts t)))))], S1) := asg_of (call3_of rfl rfl rfl e2) rfl
  have e3 := law_is_run_eq h o hn S1 v hv
  obtain ⟨b1, b2, b3, b4, b5, b6⟩ := kit2
  have q1 : (mNot (mTru (mIsi "bool" (mVar 8)))) (R4 A good sts t w0 [w5, w6, some (.d v), some (.d (.bool (isEq v (.tuple (ruD sts t)))))]) S1 = some (false, S1) := by
    simp [mDef, mSeq, mRet, mRetL, mRetV, mRetN, mIfS, mAsg, mNew, mAug, mSub, mApp, mExtN, mExtT, mPop, mDrop, mNext, mNever, mOp, mUn, mVar, mC, mQVar, mLVar, mIxV, mQE, mLE, mEN, asL, asQ, mTup, mLst, mDs, datas, mA0, mA1, mAV, mCat, mTB, mTru, tru, mTruQ, mAnd, mOr, mNot, mAndV, mOrV, mNotV, mIf, mChain, mLen, mAll, mAny, mBools, mSum, mList, mTuple, mB, fAbs, fInt, fMax2, fMin2, mIsi, fIsi, tyN, fAdd, fTT, fSub, fMulX, fMul, fRep, fII, fI0, bMul, bDiv, bMod, bPow, fDiv, fMod, fPow, fLt, fLe, fGt, fGe, fIs, fIsNot, fIsB, fNotB, fIsN, fNotN, isN, fNeg, fIx, mCall, mCallN, rtD, rtN, mgN, mg0, mg1, mgT, mO0, mO1, mSlT, mSlL, mYes, mR1, mR2, mNotT, mNotTQ, mSortI, mZip, mEnum, mInQ, mCatV, mCatX, mCatY, mSlV, mForV, mLcV, mIdx, mPopI, mRg1, mR3, mRevT, fBool, Option.bind, b2]
  have q2 : mOp fNe (mVar 8) (mCall 3 (lev 59)._law_is_run (mAV 2 (mAV 3 (mAV 7 mA0)))) (R4 A good sts t w0 [w5, w6, some (.d v), some (.d (.bool (isEq v (.tuple (ruD sts t)))))]) S1 = _ := op_of (S1 := S1) (S2 := S1) (x := .bool (isEq v (.tuple (ruD sts t)))) rfl (call3_of rfl rfl rfl e3) (ne_same (W.bool 0 _) (by omega))
  have K2 : p_4_2 (R4 A good sts t w0 [w5, w6, some (.d v), some (.d (.bool (isEq v (.tuple (ruD sts t)))))]) S1 = some (.nx, R4 A good sts t w0 [w5, w6, some (.d v), some (.d (.bool (isEq v (.tuple (ruD sts t)))))], S1) := if_nx (or_of q1 (tb_of q2))
  exact ⟨_, _, S1, ad, (seq_nx K0).trans ((seq_nx K1).trans K2)⟩
theorem row_gv : Gv 40 (.tuple (ruD sts t)) := (Gv.tup (k := 2) (fun x hx => by
    obtain ⟨p, hp, rfl⟩ := List.mem_map.mp hx
    have := has_plen (places_has t p hp)
    exact pair_gv (Gv.ints p (by omega)) (.int _ _)) (by rw [ruD, List.length_map, t.places_len]; omega)).mono (by omega)
end
theorem law_lev : (lev 60).law = mDef 1 9 fun _ => pB := rfl
theorem law_true (ns : List Int) (h : ns.length ≤ 63) : ∃ S', (lev LV).law [.d (.list (ns.map .int))] [] = some (.val (.bool true), S') := by
  refine ⟨[], ?_⟩
  show (lev 60).law _ _ = _
  rw [law_lev]
  obtain ⟨A, good, sts, S1, ha, sg1, l1, e0, e1⟩ := aut_draw 3 (by omega) (by omega) ns
  have e1 : (lev 59)._law_automaton [.loc 0, .d (.int 3)] [some (Cell ns 0 0)] = some (.val (auD A good sts), S1) := e1
  obtain ⟨w0, hw0⟩ : ∃ w0 : Option Sl, some (.d (.list (ns.map .int))) = w0 := ⟨_, rfl⟩
  have K0 : p_0 (some (.d (.list (ns.map .int))) :: List.replicate 8 none) [] = some (.nx, w0 :: some (.loc 0) :: List.replicate 7 none, [some (Cell ns 0 0)]) := by
    simp [p_0, mDef, mSeq, mRet, mRetL, mRetV, mRetN, mIfS, mAsg, mNew, mAug, mSub, mApp, mExtN, mExtT, mPop, mDrop, mNext, mNever, mOp, mUn, mVar, mC, mQVar, mLVar, mIxV, mQE, mLE, mEN, asL, asQ, mTup, mLst, mDs, datas, mA0, mA1, mAV, mCat, mTB, mTru, tru, mTruQ, mAnd, mOr, mNot, mAndV, mOrV, mNotV, mIf, mChain, mLen, mAll, mAny, mBools, mSum, mList, mTuple, mB, fAbs, fInt, fMax2, fMin2, mIsi, fIsi, tyN, fAdd, fTT, fSub, fMulX, fMul, fRep, fII, fI0, bMul, bDiv, bMod, bPow, fDiv, fMod, fPow, fLt, fLe, fGt, fGe, fIs, fIsNot, fIsB, fNotB, fIsN, fNotN, isN, fNeg, fIx, mCall, mCallN, rtD, rtN, mgN, mg0, mg1, mgT, mO0, mO1, mSlT, mSlL, mYes, mR1, mR2, mNotT, mNotTQ, mSortI, mZip, mEnum, mInQ, mCatV, mCatX, mCatY, mSlV, mForV, mLcV, mIdx, mPopI, mRg1, mR3, mRevT, fBool, Option.bind, e0, ← hw0]
  have K1 : p_1 (w0 :: some (.loc 0) :: List.replicate 7 none) [some (Cell ns 0 0)] = some (.nx, w0 :: some (.loc 0) :: some (.d (auD A good sts)) :: List.replicate 6 none, S1) := by
    simp [p_1, mDef, mSeq, mRet, mRetL, mRetV, mRetN, mIfS, mAsg, mNew, mAug, mSub, mApp, mExtN, mExtT, mPop, mDrop, mNext, mNever, mOp, mUn, mVar, mC, mQVar, mLVar, mIxV, mQE, mLE, mEN, asL, asQ, mTup, mLst, mDs, datas, mA0, mA1, mAV, mCat, mTB, mTru, tru, mTruQ, mAnd, mOr, mNot, mAndV, mOrV, mNotV, mIf, mChain, mLen, mAll, mAny, mBools, mSum, mList, mTuple, mB, fAbs, fInt, fMax2, fMin2, mIsi, fIsi, tyN, fAdd, fTT, fSub, fMulX, fMul, fRep, fII, fI0, bMul, bDiv, bMod, bPow, fDiv, fMod, fPow, fLt, fLe, fGt, fGe, fIs, fIsNot, fIsB, fNotB, fIsN, fNotN, isN, fNeg, fIx, mCall, mCallN, rtD, rtN, mgN, mg0, mg1, mgT, mO0, mO1, mSlT, mSlL, mYes, mR1, mR2, mNotT, mNotTQ, mSortI, mZip, mEnum, mInQ, mCatV, mCatX, mCatY, mSlV, mForV, mLcV, mIdx, mPopI, mRg1, mR3, mRevT, fBool, Option.bind, e1]
  obtain ⟨g, t, S2, S3, o, hn, ad, e2, e3⟩ := tree_draw ha.ar 9 (by omega) (by omega) S1 sg1
  have K2 : p_2 (w0 :: some (.loc 0) :: some (.d (auD A good sts)) :: List.replicate 6 none) S1 = some (.nx, w0 :: some (.loc 0) :: some (.d (auD A good sts)) :: some (.d t.d) :: List.replicate 5 none, S3) := by
    simp [p_2, mDef, mSeq, mRet, mRetL, mRetV, mRetN, mIfS, mAsg, mNew, mAug, mSub, mApp, mExtN, mExtT, mPop, mDrop, mNext, mNever, mOp, mUn, mVar, mC, mQVar, mLVar, mIxV, mQE, mLE, mEN, asL, asQ, mTup, mLst, mDs, datas, mA0, mA1, mAV, mCat, mTB, mTru, tru, mTruQ, mAnd, mOr, mNot, mAndV, mOrV, mNotV, mIf, mChain, mLen, mAll, mAny, mBools, mSum, mList, mTuple, mB, fAbs, fInt, fMax2, fMin2, mIsi, fIsi, tyN, fAdd, fTT, fSub, fMulX, fMul, fRep, fII, fI0, bMul, bDiv, bMod, bPow, fDiv, fMod, fPow, fLt, fLe, fGt, fGe, fIs, fIsNot, fIsB, fNotB, fIsN, fNotN, isN, fNeg, fIx, mCall, mCallN, rtD, rtN, mgN, mg0, mg1, mgT, mO0, mO1, mSlT, mSlL, mYes, mR1, mR2, mNotT, mNotTQ, mSortI, mZip, mEnum, mInQ, mCatV, mCatX, mCatY, mSlV, mForV, mLcV, mIdx, mPopI, mRg1, mR3, mRevT, fBool, Option.bind, auD, a30', e2, e3]
  have K3 : p_3 (w0 :: some (.loc 0) :: some (.d (auD A good sts)) :: some (.d t.d) :: List.replicate 5 none) S3 = some (.nx, R4 A good sts t w0 (List.replicate 4 none), S3) := row_eq ha o (by omega) w0 S3 [none, none, none]
  obtain ⟨ρ', S', hP, e6⟩ := for_nxS (P := fun ρ S => Sg 0 S ∧ ∃ r5 r6 r7 r8, ρ = R4 A good sts t w0 [r5, r6, r7, r8]) (mg := mgN 6) (mb := p_4b) (rng 0 6) (R4 A good sts t w0 (List.replicate 4 none)) S3 ⟨ad.sg, none, none, none, none, rfl⟩ (fun x hx ρ S hP => by
    obtain ⟨sg, r5, r6, r7, r8, rfl⟩ := hP
    obtain ⟨v7, v8, S', ad, e⟩ := turn ha o (by omega) S sg w0 r5 (some (.d x)) r7 r8
    exact ⟨_, _, S', rfl, ⟨ad.sg, _, _, _, _, rfl⟩, e⟩)
  have hr := r1_eq (m := mC (.int 6)) (ρ := R4 A good sts t w0 (List.replicate 4 none)) (S := S3) (S1 := S3) (j := 6) rfl (bR (m := 6) (by omega))
  have K4 : p_4 (R4 A good sts t w0 (List.replicate 4 none)) S3 = some (.nx, ρ', S') := (for_eq hr).trans e6
  obtain ⟨sg', r5, r6, r7, r8, rfl⟩ := hP
  have e7 := acc_eq ha o (by omega) (.tuple (ruD sts t)) (row_gv ha o (by omega)) S'
  rw [isEq_t rfl] at e7
  have K5 : p_5 (R4 A good sts t w0 [r5, r6, r7, r8]) S' = some (.rt (.val (.bool true)), R4 A good sts t w0 [r5, r6, r7, r8], S') := ret_of (op_of (call3_of rfl rfl rfl e7) rfl rfl)
  exact def_rt (k := 8) ((seq_nx K0).trans ((seq_nx K1).trans ((seq_nx K2).trans ((seq_nx K3).trans ((seq_nx K4).trans K5)))))
end G
set_option Elab.async false
set_option linter.all false
set_option autoImplicit false
set_option maxRecDepth 100000
set_option maxHeartbeats 4000000
namespace G
open PySem L2
structure Facts (K : PySem.W.Frag) (mg : Str → Option Value) where
  a_require : Addr
  fd_require : FuncData
  F_require : Fun K "require" "require" s_require a_require fd_require
  g_require : mg "require" = some (.ref a_require)
  b_require : Binds K fd_require ["holds", "name"] []
  a_is_integer : Addr
  fd_is_integer : FuncData
  F_is_integer : Fun K "is_integer" "is_integer" s_is_integer a_is_integer fd_is_integer
  g_is_integer : mg "is_integer" = some (.ref a_is_integer)
  b_is_integer : Binds K fd_is_integer ["value", "least", "most"] []
  a_is_tuple : Addr
  fd_is_tuple : FuncData
  F_is_tuple : Fun K "is_tuple" "is_tuple" s_is_tuple a_is_tuple fd_is_tuple
  g_is_tuple : mg "is_tuple" = some (.ref a_is_tuple)
  b_is_tuple : Binds K fd_is_tuple ["value", "least", "most"] []
  a_are_integers : Addr
  fd_are_integers : FuncData
  F_are_integers : Fun K "are_integers" "are_integers" s_are_integers a_are_integers fd_are_integers
  g_are_integers : mg "are_integers" = some (.ref a_are_integers)
  b_are_integers : Binds K fd_are_integers ["values", "least", "most"] []
  a_lead : Addr
  fd_lead : FuncData
  F_lead : Fun K "lead" "lead" s_lead a_lead fd_lead
  g_lead : mg "lead" = some (.ref a_lead)
  b_lead : Binds K fd_lead ["entry", "states"] []
  a_state_of : Addr
  fd_state_of : FuncData
  F_state_of : Fun K "state_of" "state_of" s_state_of a_state_of fd_state_of
  g_state_of : mg "state_of" = some (.ref a_state_of)
  b_state_of : Binds K fd_state_of ["automaton", "tree"] []
  a_places_of : Addr
  fd_places_of : FuncData
  F_places_of : Fun K "places_of" "places_of" s_places_of a_places_of fd_places_of
  g_places_of : mg "places_of" = some (.ref a_places_of)
  b_places_of : Binds K fd_places_of ["tree"] []
  a_part_at : Addr
  fd_part_at : FuncData
  F_part_at : Fun K "part_at" "part_at" s_part_at a_part_at fd_part_at
  g_part_at : mg "part_at" = some (.ref a_part_at)
  b_part_at : Binds K fd_part_at ["tree", "place"] []
  a_is_arities : Addr
  fd_is_arities : FuncData
  F_is_arities : Fun K "is_arities" "is_arities" s_is_arities a_is_arities fd_is_arities
  g_is_arities : mg "is_arities" = some (.ref a_is_arities)
  b_is_arities : Binds K fd_is_arities ["value"] []
  a_is_tree : Addr
  fd_is_tree : FuncData
  F_is_tree : Fun K "is_tree" "is_tree" s_is_tree a_is_tree fd_is_tree
  g_is_tree : mg "is_tree" = some (.ref a_is_tree)
  b_is_tree : Binds K fd_is_tree ["arities", "value"] []
  a__is_node : Addr
  fd__is_node : FuncData
  F__is_node : Fun K "_is_node" "_is_node" s__is_node a__is_node fd__is_node
  g__is_node : mg "_is_node" = some (.ref a__is_node)
  b__is_node : Binds K fd__is_node ["arities", "value"] []
  a_is_place : Addr
  fd_is_place : FuncData
  F_is_place : Fun K "is_place" "is_place" s_is_place a_is_place fd_is_place
  g_is_place : mg "is_place" = some (.ref a_is_place)
  b_is_place : Binds K fd_is_place ["value"] []
  a_is_automaton : Addr
  fd_is_automaton : FuncData
  F_is_automaton : Fun K "is_automaton" "is_automaton" s_is_automaton a_is_automaton fd_is_automaton
  g_is_automaton : mg "is_automaton" = some (.ref a_is_automaton)
  b_is_automaton : Binds K fd_is_automaton ["value"] []
  a__is_entry : Addr
  fd__is_entry : FuncData
  F__is_entry : Fun K "_is_entry" "_is_entry" s__is_entry a__is_entry fd__is_entry
  g__is_entry : mg "_is_entry" = some (.ref a__is_entry)
  b__is_entry : Binds K fd__is_entry ["value", "arity", "many"] []
  a_require_automaton_and_tree : Addr
  fd_require_automaton_and_tree : FuncData
  F_require_automaton_and_tree : Fun K "require_automaton_and_tree" "require_automaton_and_tree" s_require_automaton_and_tree a_require_automaton_and_tree fd_require_automaton_and_tree
  g_require_automaton_and_tree : mg "require_automaton_and_tree" = some (.ref a_require_automaton_and_tree)
  b_require_automaton_and_tree : Binds K fd_require_automaton_and_tree ["automaton", "tree"] []
  a_run : Addr
  fd_run : FuncData
  F_run : Fun K "run" "run" s_run a_run fd_run
  g_run : mg "run" = some (.ref a_run)
  b_run : Binds K fd_run ["automaton", "tree"] []
  a_accepts_run : Addr
  fd_accepts_run : FuncData
  F_accepts_run : Fun K "accepts_run" "accepts_run" s_accepts_run a_accepts_run fd_accepts_run
  g_accepts_run : mg "accepts_run" = some (.ref a_accepts_run)
  b_accepts_run : Binds K fd_accepts_run ["automaton", "tree", "value"] []
  a__is_placed_state : Addr
  fd__is_placed_state : FuncData
  F__is_placed_state : Fun K "_is_placed_state" "_is_placed_state" s__is_placed_state a__is_placed_state fd__is_placed_state
  g__is_placed_state : mg "_is_placed_state" = some (.ref a__is_placed_state)
  b__is_placed_state : Binds K fd__is_placed_state ["value"] []
  a__law_stream : Addr
  fd__law_stream : FuncData
  F__law_stream : Fun K "_law_stream" "_law_stream" s__law_stream a__law_stream fd__law_stream
  g__law_stream : mg "_law_stream" = some (.ref a__law_stream)
  b__law_stream : Binds K fd__law_stream ["script"] []
  a__law_next : Addr
  fd__law_next : FuncData
  F__law_next : Fun K "_law_next" "_law_next" s__law_next a__law_next fd__law_next
  g__law_next : mg "_law_next" = some (.ref a__law_next)
  b__law_next : Binds K fd__law_next ["stream", "many"] []
  a__law_is_integer : Addr
  fd__law_is_integer : FuncData
  F__law_is_integer : Fun K "_law_is_integer" "_law_is_integer" s__law_is_integer a__law_is_integer fd__law_is_integer
  g__law_is_integer : mg "_law_is_integer" = some (.ref a__law_is_integer)
  b__law_is_integer : Binds K fd__law_is_integer ["actual"] []
  a__law_step : Addr
  fd__law_step : FuncData
  F__law_step : Fun K "_law_step" "_law_step" s__law_step a__law_step fd__law_step
  g__law_step : mg "_law_step" = some (.ref a__law_step)
  b__law_step : Binds K fd__law_step ["stream", "arity", "states"] []
  a__law_automaton : Addr
  fd__law_automaton : FuncData
  F__law_automaton : Fun K "_law_automaton" "_law_automaton" s__law_automaton a__law_automaton fd__law_automaton
  g__law_automaton : mg "_law_automaton" = some (.ref a__law_automaton)
  b__law_automaton : Binds K fd__law_automaton ["stream", "most"] []
  a__law_entry : Addr
  fd__law_entry : FuncData
  F__law_entry : Fun K "_law_entry" "_law_entry" s__law_entry a__law_entry fd__law_entry
  g__law_entry : mg "_law_entry" = some (.ref a__law_entry)
  b__law_entry : Binds K fd__law_entry ["automaton", "symbol", "states"] []
  a__law_state : Addr
  fd__law_state : FuncData
  F__law_state : Fun K "_law_state" "_law_state" s__law_state a__law_state fd__law_state
  g__law_state : mg "_law_state" = some (.ref a__law_state)
  b__law_state : Binds K fd__law_state ["automaton", "tree"] []
  a__law_tree : Addr
  fd__law_tree : FuncData
  F__law_tree : Fun K "_law_tree" "_law_tree" s__law_tree a__law_tree fd__law_tree
  g__law_tree : mg "_law_tree" = some (.ref a__law_tree)
  b__law_tree : Binds K fd__law_tree ["stream", "arities", "most"] []
  a__law_places : Addr
  fd__law_places : FuncData
  F__law_places : Fun K "_law_places" "_law_places" s__law_places a__law_places fd__law_places
  g__law_places : mg "_law_places" = some (.ref a__law_places)
  b__law_places : Binds K fd__law_places ["tree"] []
  a__law_part : Addr
  fd__law_part : FuncData
  F__law_part : Fun K "_law_part" "_law_part" s__law_part a__law_part fd__law_part
  g__law_part : mg "_law_part" = some (.ref a__law_part)
  b__law_part : Binds K fd__law_part ["tree", "place"] []
  a__law_bent : Addr
  fd__law_bent : FuncData
  F__law_bent : Fun K "_law_bent" "_law_bent" s__law_bent a__law_bent fd__law_bent
  g__law_bent : mg "_law_bent" = some (.ref a__law_bent)
  b__law_bent : Binds K fd__law_bent ["stream", "row", "states"] []
  a__law_is_run : Addr
  fd__law_is_run : FuncData
  F__law_is_run : Fun K "_law_is_run" "_law_is_run" s__law_is_run a__law_is_run fd__law_is_run
  g__law_is_run : mg "_law_is_run" = some (.ref a__law_is_run)
  b__law_is_run : Binds K fd__law_is_run ["automaton", "tree", "value"] []
  a_law : Addr
  fd_law : FuncData
  F_law : Fun K "law" "law" s_law a_law fd_law
  g_law : mg "law" = some (.ref a_law)
  b_law : Binds K fd_law ["script"] []
  z_isinstance : mg "isinstance" = none
  z_int : mg "int" = none
  z_bool : mg "bool" = none
  z_tuple : mg "tuple" = none
  z_len : mg "len" = none
  z_all : mg "all" = none
  z_enumerate : mg "enumerate" = none
  z_zip : mg "zip" = none
  z_list : mg "list" = none
  z_abs : mg "abs" = none
  z_range : mg "range" = none
  z_max : mg "max" = none
  t_MOST_SYMBOLS : Tok
  c_MOST_SYMBOLS : mg "MOST_SYMBOLS" = some (.int 4 t_MOST_SYMBOLS)
  t_MOST_CHILDREN : Tok
  c_MOST_CHILDREN : mg "MOST_CHILDREN" = some (.int 2 t_MOST_CHILDREN)
  t_MOST_NODES : Tok
  c_MOST_NODES : mg "MOST_NODES" = some (.int 15 t_MOST_NODES)
  t_LONGEST_PLACE : Tok
  c_LONGEST_PLACE : mg "LONGEST_PLACE" = some (.int 14 t_LONGEST_PLACE)
  t_MOST_STATES : Tok
  c_MOST_STATES : mg "MOST_STATES" = some (.int 4 t_MOST_STATES)
section
variable {P : Program} {w : World} {K : PySem.W.Frag} {mg : Str → Option Value} {base : Heap}
structure AllOk (P : Program) (w : World) (K : PySem.W.Frag) (mg : Str → Option Value) (base : Heap) (T : Facts K mg) (n : Nat) : Prop where
  h_require : FnOk P w K mg base CX0 n T.a_require T.fd_require ["holds", "name"] (spD K 2 (lev n).require)
  h_is_integer : FnOk P w K mg base CX0 n T.a_is_integer T.fd_is_integer ["value", "least", "most"] (spD K 3 (lev n).is_integer)
  h_is_tuple : FnOk P w K mg base CX0 n T.a_is_tuple T.fd_is_tuple ["value", "least", "most"] (spD K 3 (lev n).is_tuple)
  h_are_integers : FnOk P w K mg base CX0 n T.a_are_integers T.fd_are_integers ["values", "least", "most"] (spD K 3 (lev n).are_integers)
  h_lead : FnOk P w K mg base CX0 n T.a_lead T.fd_lead ["entry", "states"] (spD K 2 (lev n).lead)
  h_state_of : FnOk P w K mg base CX0 n T.a_state_of T.fd_state_of ["automaton", "tree"] (spD K 2 (lev n).state_of)
  h_places_of : FnOk P w K mg base CX0 n T.a_places_of T.fd_places_of ["tree"] (spD K 1 (lev n).places_of)
  h_part_at : FnOk P w K mg base CX0 n T.a_part_at T.fd_part_at ["tree", "place"] (spD K 2 (lev n).part_at)
  h_is_arities : FnOk P w K mg base CX0 n T.a_is_arities T.fd_is_arities ["value"] (spD K 1 (lev n).is_arities)
  h_is_tree : FnOk P w K mg base CX0 n T.a_is_tree T.fd_is_tree ["arities", "value"] (spD K 2 (lev n).is_tree)
  h__is_node : FnOk P w K mg base CX0 n T.a__is_node T.fd__is_node ["arities", "value"] (spD K 2 (lev n)._is_node)
  h_is_place : FnOk P w K mg base CX0 n T.a_is_place T.fd_is_place ["value"] (spD K 1 (lev n).is_place)
  h_is_automaton : FnOk P w K mg base CX0 n T.a_is_automaton T.fd_is_automaton ["value"] (spD K 1 (lev n).is_automaton)
  h__is_entry : FnOk P w K mg base CX0 n T.a__is_entry T.fd__is_entry ["value", "arity", "many"] (spD K 3 (lev n)._is_entry)
  h_require_automaton_and_tree : FnOk P w K mg base CX0 n T.a_require_automaton_and_tree T.fd_require_automaton_and_tree ["automaton", "tree"] (spD K 2 (lev n).require_automaton_and_tree)
  h_run : FnOk P w K mg base CX0 n T.a_run T.fd_run ["automaton", "tree"] (spD K 2 (lev n).run)
  h_accepts_run : FnOk P w K mg base CX0 n T.a_accepts_run T.fd_accepts_run ["automaton", "tree", "value"] (spD K 3 (lev n).accepts_run)
  h__is_placed_state : FnOk P w K mg base CX0 n T.a__is_placed_state T.fd__is_placed_state ["value"] (spD K 1 (lev n)._is_placed_state)
  h__law_stream : FnOk P w K mg base CX0 n T.a__law_stream T.fd__law_stream ["script"] (spD K 1 (lev n)._law_stream)
  h__law_next : FnOk P w K mg base CX0 n T.a__law_next T.fd__law_next ["stream", "many"] (spD K 2 (lev n)._law_next)
  h__law_is_integer : FnOk P w K mg base CX0 n T.a__law_is_integer T.fd__law_is_integer ["actual"] (spD K 1 (lev n)._law_is_integer)
  h__law_step : FnOk P w K mg base CX0 n T.a__law_step T.fd__law_step ["stream", "arity", "states"] (spD K 3 (lev n)._law_step)
  h__law_automaton : FnOk P w K mg base CX0 n T.a__law_automaton T.fd__law_automaton ["stream", "most"] (spD K 2 (lev n)._law_automaton)
  h__law_entry : FnOk P w K mg base CX0 n T.a__law_entry T.fd__law_entry ["automaton", "symbol", "states"] (spD K 3 (lev n)._law_entry)
  h__law_state : FnOk P w K mg base CX0 n T.a__law_state T.fd__law_state ["automaton", "tree"] (spD K 2 (lev n)._law_state)
  h__law_tree : FnOk P w K mg base CX0 n T.a__law_tree T.fd__law_tree ["stream", "arities", "most"] (spD K 3 (lev n)._law_tree)
  h__law_places : FnOk P w K mg base CX0 n T.a__law_places T.fd__law_places ["tree"] (spD K 1 (lev n)._law_places)
  h__law_part : FnOk P w K mg base CX0 n T.a__law_part T.fd__law_part ["tree", "place"] (spD K 2 (lev n)._law_part)
  h__law_bent : FnOk P w K mg base CX0 n T.a__law_bent T.fd__law_bent ["stream", "row", "states"] (spD K 3 (lev n)._law_bent)
  h__law_is_run : FnOk P w K mg base CX0 n T.a__law_is_run T.fd__law_is_run ["automaton", "tree", "value"] (spD K 3 (lev n)._law_is_run)
  h_law : FnOk P w K mg base CX0 n T.a_law T.fd_law ["script"] (spD K 1 (lev n).law)
theorem all_ok (T : Facts K mg) : ∀ n : Nat, AllOk P w K mg base T n
  | 0 => ⟨def_0 fun _ _ => rfl, def_0 fun _ _ => rfl, def_0 fun _ _ => rfl, def_0 fun _ _ => rfl, def_0 fun _ _ => rfl, def_0 fun _ _ => rfl, def_0 fun _ _ => rfl, def_0 fun _ _ => rfl, def_0 fun _ _ => rfl, def_0 fun _ _ => rfl, def_0 fun _ _ => rfl, def_0 fun _ _ => rfl, def_0 fun _ _ => rfl, def_0 fun _ _ => rfl, def_0 fun _ _ => rfl, def_0 fun _ _ => rfl, def_0 fun _ _ => rfl, def_0 fun _ _ => rfl, def_0 fun _ _ => rfl, def_0 fun _ _ => rfl, def_0 fun _ _ => rfl, def_0 fun _ _ => rfl, def_0 fun _ _ => rfl, def_0 fun _ _ => rfl, def_0 fun _ _ => rfl, def_0 fun _ _ => rfl, def_0 fun _ _ => rfl, def_0 fun _ _ => rfl, def_0 fun _ _ => rfl, def_0 fun _ _ => rfl, def_0 fun _ _ => rfl⟩
  | n + 1 =>
    have ih := all_ok T n
    ⟨ok_require T.F_require,
     ok_is_integer T.F_is_integer T.z_isinstance T.z_int T.z_bool,
     ok_is_tuple T.F_is_tuple T.z_isinstance T.z_tuple T.z_len,
     ok_are_integers T.F_are_integers ih.h_is_integer T.g_is_integer T.F_is_integer.kp T.b_is_integer T.z_all,
     ok_lead T.F_lead,
     ok_state_of T.F_state_of ih.h_state_of T.g_state_of T.F_state_of.kp T.b_state_of ih.h_lead T.g_lead T.F_lead.kp T.b_lead,
     ok_places_of T.F_places_of ih.h_places_of T.g_places_of T.F_places_of.kp T.b_places_of T.z_enumerate,
     ok_part_at T.F_part_at T.z_len,
     ok_is_arities T.F_is_arities ih.h_is_tuple T.g_is_tuple T.F_is_tuple.kp T.b_is_tuple ih.h_are_integers T.g_are_integers T.F_are_integers.kp T.b_are_integers T.c_MOST_SYMBOLS T.c_MOST_CHILDREN,
     ok_is_tree T.F_is_tree ih.h__is_node T.g__is_node T.F__is_node.kp T.b__is_node T.c_MOST_NODES,
     ok__is_node T.F__is_node ih.h_is_tuple T.g_is_tuple T.F_is_tuple.kp T.b_is_tuple ih.h_is_integer T.g_is_integer T.F_is_integer.kp T.b_is_integer T.z_len T.c_MOST_CHILDREN,
     ok_is_place T.F_is_place ih.h_is_tuple T.g_is_tuple T.F_is_tuple.kp T.b_is_tuple ih.h_are_integers T.g_are_integers T.F_are_integers.kp T.b_are_integers T.c_LONGEST_PLACE T.c_MOST_CHILDREN,
     ok_is_automaton T.F_is_automaton ih.h_is_tuple T.g_is_tuple T.F_is_tuple.kp T.b_is_tuple ih.h_is_arities T.g_is_arities T.F_is_arities.kp T.b_is_arities ih.h__is_entry T.g__is_entry T.F__is_entry.kp T.b__is_entry T.z_all T.z_isinstance T.z_bool T.z_len T.z_zip T.c_MOST_STATES,
     ok__is_entry T.F__is_entry ih.h_is_integer T.g_is_integer T.F_is_integer.kp T.b_is_integer ih.h_is_tuple T.g_is_tuple T.F_is_tuple.kp T.b_is_tuple ih.h__is_entry T.g__is_entry T.F__is_entry.kp T.b__is_entry T.z_all,
     ok_require_automaton_and_tree T.F_require_automaton_and_tree ih.h_require T.g_require T.F_require.kp T.b_require ih.h_is_automaton T.g_is_automaton T.F_is_automaton.kp T.b_is_automaton ih.h_is_tree T.g_is_tree T.F_is_tree.kp T.b_is_tree,
     ok_run T.F_run ih.h_require_automaton_and_tree T.g_require_automaton_and_tree T.F_require_automaton_and_tree.kp T.b_require_automaton_and_tree ih.h_places_of T.g_places_of T.F_places_of.kp T.b_places_of ih.h_state_of T.g_state_of T.F_state_of.kp T.b_state_of ih.h_part_at T.g_part_at T.F_part_at.kp T.b_part_at T.z_tuple,
     ok_accepts_run T.F_accepts_run ih.h_run T.g_run T.F_run.kp T.b_run ih.h_is_tuple T.g_is_tuple T.F_is_tuple.kp T.b_is_tuple ih.h__is_placed_state T.g__is_placed_state T.F__is_placed_state.kp T.b__is_placed_state T.z_len T.z_all,
     ok__is_placed_state T.F__is_placed_state ih.h_is_tuple T.g_is_tuple T.F_is_tuple.kp T.b_is_tuple ih.h_is_place T.g_is_place T.F_is_place.kp T.b_is_place ih.h_is_integer T.g_is_integer T.F_is_integer.kp T.b_is_integer T.c_MOST_STATES,
     ok__law_stream T.F__law_stream T.z_list,
     ok__law_next T.F__law_next T.z_len T.z_abs T.z_int,
     ok__law_is_integer T.F__law_is_integer T.z_isinstance T.z_int T.z_bool,
     ok__law_step T.F__law_step ih.h__law_next T.g__law_next T.F__law_next.kp T.b__law_next ih.h__law_step T.g__law_step T.F__law_step.kp T.b__law_step T.z_tuple T.z_range,
     ok__law_automaton T.F__law_automaton ih.h__law_next T.g__law_next T.F__law_next.kp T.b__law_next ih.h__law_step T.g__law_step T.F__law_step.kp T.b__law_step T.z_max T.z_tuple T.z_range,
     ok__law_entry T.F__law_entry,
     ok__law_state T.F__law_state ih.h__law_entry T.g__law_entry T.F__law_entry.kp T.b__law_entry ih.h__law_state T.g__law_state T.F__law_state.kp T.b__law_state,
     ok__law_tree T.F__law_tree ih.h__law_next T.g__law_next T.F__law_next.kp T.b__law_next ih.h__law_tree T.g__law_tree T.F__law_tree.kp T.b__law_tree T.z_range T.z_len,
     ok__law_places T.F__law_places ih.h__law_places T.g__law_places T.F__law_places.kp T.b__law_places T.z_range T.z_len,
     ok__law_part T.F__law_part,
     ok__law_bent T.F__law_bent ih.h__law_next T.g__law_next T.F__law_next.kp T.b__law_next T.z_len T.z_list T.z_bool,
     ok__law_is_run T.F__law_is_run ih.h__law_places T.g__law_places T.F__law_places.kp T.b__law_places ih.h__law_is_integer T.g__law_is_integer T.F__law_is_integer.kp T.b__law_is_integer ih.h__law_state T.g__law_state T.F__law_state.kp T.b__law_state ih.h__law_part T.g__law_part T.F__law_part.kp T.b__law_part T.z_isinstance T.z_tuple T.z_len T.z_range T.z_all,
     ok_law T.F_law ih.h__law_stream T.g__law_stream T.F__law_stream.kp T.b__law_stream ih.h__law_automaton T.g__law_automaton T.F__law_automaton.kp T.b__law_automaton ih.h__law_tree T.g__law_tree T.F__law_tree.kp T.b__law_tree ih.h__law_next T.g__law_next T.F__law_next.kp T.b__law_next ih.h__law_places T.g__law_places T.F__law_places.kp T.b__law_places ih.h__law_state T.g__law_state T.F__law_state.kp T.b__law_state ih.h__law_part T.g__law_part T.F__law_part.kp T.b__law_part ih.h__law_bent T.g__law_bent T.F__law_bent.kp T.b__law_bent ih.h_accepts_run T.g_accepts_run T.F_accepts_run.kp T.b_accepts_run ih.h__law_is_run T.g__law_is_run T.F__law_is_run.kp T.b__law_is_run T.z_tuple T.z_range T.z_len T.z_isinstance T.z_bool⟩
def spLaw (K : PySem.W.Frag) : Sp := fun vs H Q _ => ∃ (a : Addr) (ns : List Int), vs = [.ref a] ∧ SqL K H a (ns.map V.int) ∧ ns.length ≤ 63 ∧ ∀ H', Q (.bl true) H'
theorem rl_ints {M : Adr} {H : Hp} : ∀ ns : List Int, RlA K M H (ns.map V.int) (ns.map PyData.int)
  | [] => .nil
  | n :: r => .cons (.int n) (rl_ints r)
theorem Ok.empty {H : Hp} : Ok K ⟨[], []⟩ [] H where
  len := rfl
  inj := fun i j a h _ => by simp at h
  cell := fun n xs h => by simp at h
  lst := fun a h => by rcases h with h | h <;> cases h
  dj := fun a h => by cases h
theorem law_sp (LV : Nat) (hm : ∀ ns : List Int, ns.length ≤ 63 → ∃ S', (lev LV).law [.d (.list (ns.map .int))] [] = some (.val (.bool true), S')) (vs : List V) (H : Hp) (Q : VK) (E : XK) (h : spLaw K vs H Q E) : spD K 1 (lev LV).law vs H Q E := by
  obtain ⟨a, ns, rfl, hS, hl, q⟩ := h
  obtain ⟨S', e⟩ := hm ns hl
  refine ⟨rfl, ⟨[], []⟩, [], [.d (.list (ns.map .int))], _, S', Ok.empty, .cons ?_ .nil, e, fun v H' M' x ok r => ?_⟩
  · refine Rl.lst ?_ (rl_ints ns)
    rcases hS with hS | hS
    · exact .inl ⟨hS, fun z => by rcases z with z | z <;> cases z⟩
    · exact .inr (.inr hS)
  · cases r
    exact q H'
end
theorem all_mk (LV : Nat) (hm : ∀ ns : List Int, ns.length ≤ 63 → ∃ S', (lev LV).law [.d (.list (ns.map .int))] [] = some (.val (.bool true), S')) {l : PySem.W.OpenLaw} {w : World} {K : PySem.W.Frag} {h : Heap} {mg : Str → Option Value} {fa : Addr} (X : K.In h) (hG : h.Ns mainGlobals mg) (hfa : mg "law" = some (.ref fa))
    {f_require : Addr} {od_require an_require : Option Addr} {sl_require : Array (Option Value)} {oc_require kV_require dc_require pm_require cd_require ct_require : Value} (a_require : PySem.W.nsIn K mainGlobals "require" = some (some (.ref f_require))) (l_require : K.lookup f_require = some ⟨oc_require, od_require, .func (PySem.W.fnOf "require" "require" (defArgs s_require) (defBody s_require) (defScope s_require) .none kV_require dc_require pm_require an_require cd_require ct_require), sl_require⟩) (c_require : PySem.W.codeIn K cd_require "require" = true) (k_require : PySem.W.keepIn K (.ref f_require) = true)
    {f_is_integer : Addr} {od_is_integer an_is_integer : Option Addr} {sl_is_integer : Array (Option Value)} {oc_is_integer kV_is_integer dc_is_integer pm_is_integer cd_is_integer ct_is_integer : Value} (a_is_integer : PySem.W.nsIn K mainGlobals "is_integer" = some (some (.ref f_is_integer))) (l_is_integer : K.lookup f_is_integer = some ⟨oc_is_integer, od_is_integer, .func (PySem.W.fnOf "is_integer" "is_integer" (defArgs s_is_integer) (defBody s_is_integer) (defScope s_is_integer) .none kV_is_integer dc_is_integer pm_is_integer an_is_integer cd_is_integer ct_is_integer), sl_is_integer⟩) (c_is_integer : PySem.W.codeIn K cd_is_integer "is_integer" = true) (k_is_integer : PySem.W.keepIn K (.ref f_is_integer) = true)
    {f_is_tuple : Addr} {od_is_tuple an_is_tuple : Option Addr} {sl_is_tuple : Array (Option Value)} {oc_is_tuple kV_is_tuple dc_is_tuple pm_is_tuple cd_is_tuple ct_is_tuple : Value} (a_is_tuple : PySem.W.nsIn K mainGlobals "is_tuple" = some (some (.ref f_is_tuple))) (l_is_tuple : K.lookup f_is_tuple = some ⟨oc_is_tuple, od_is_tuple, .func (PySem.W.fnOf "is_tuple" "is_tuple" (defArgs s_is_tuple) (defBody s_is_tuple) (defScope s_is_tuple) .none kV_is_tuple dc_is_tuple pm_is_tuple an_is_tuple cd_is_tuple ct_is_tuple), sl_is_tuple⟩) (c_is_tuple : PySem.W.codeIn K cd_is_tuple "is_tuple" = true) (k_is_tuple : PySem.W.keepIn K (.ref f_is_tuple) = true)
    {f_are_integers : Addr} {od_are_integers an_are_integers : Option Addr} {sl_are_integers : Array (Option Value)} {oc_are_integers kV_are_integers dc_are_integers pm_are_integers cd_are_integers ct_are_integers : Value} (a_are_integers : PySem.W.nsIn K mainGlobals "are_integers" = some (some (.ref f_are_integers))) (l_are_integers : K.lookup f_are_integers = some ⟨oc_are_integers, od_are_integers, .func (PySem.W.fnOf "are_integers" "are_integers" (defArgs s_are_integers) (defBody s_are_integers) (defScope s_are_integers) .none kV_are_integers dc_are_integers pm_are_integers an_are_integers cd_are_integers ct_are_integers), sl_are_integers⟩) (c_are_integers : PySem.W.codeIn K cd_are_integers "are_integers" = true) (k_are_integers : PySem.W.keepIn K (.ref f_are_integers) = true)
    {f_lead : Addr} {od_lead an_lead : Option Addr} {sl_lead : Array (Option Value)} {oc_lead kV_lead dc_lead pm_lead cd_lead ct_lead : Value} (a_lead : PySem.W.nsIn K mainGlobals "lead" = some (some (.ref f_lead))) (l_lead : K.lookup f_lead = some ⟨oc_lead, od_lead, .func (PySem.W.fnOf "lead" "lead" (defArgs s_lead) (defBody s_lead) (defScope s_lead) .none kV_lead dc_lead pm_lead an_lead cd_lead ct_lead), sl_lead⟩) (c_lead : PySem.W.codeIn K cd_lead "lead" = true) (k_lead : PySem.W.keepIn K (.ref f_lead) = true)
    {f_state_of : Addr} {od_state_of an_state_of : Option Addr} {sl_state_of : Array (Option Value)} {oc_state_of kV_state_of dc_state_of pm_state_of cd_state_of ct_state_of : Value} (a_state_of : PySem.W.nsIn K mainGlobals "state_of" = some (some (.ref f_state_of))) (l_state_of : K.lookup f_state_of = some ⟨oc_state_of, od_state_of, .func (PySem.W.fnOf "state_of" "state_of" (defArgs s_state_of) (defBody s_state_of) (defScope s_state_of) .none kV_state_of dc_state_of pm_state_of an_state_of cd_state_of ct_state_of), sl_state_of⟩) (c_state_of : PySem.W.codeIn K cd_state_of "state_of" = true) (k_state_of : PySem.W.keepIn K (.ref f_state_of) = true)
    {f_places_of : Addr} {od_places_of an_places_of : Option Addr} {sl_places_of : Array (Option Value)} {oc_places_of kV_places_of dc_places_of pm_places_of cd_places_of ct_places_of : Value} (a_places_of : PySem.W.nsIn K mainGlobals "places_of" = some (some (.ref f_places_of))) (l_places_of : K.lookup f_places_of = some ⟨oc_places_of, od_places_of, .func (PySem.W.fnOf "places_of" "places_of" (defArgs s_places_of) (defBody s_places_of) (defScope s_places_of) .none kV_places_of dc_places_of pm_places_of an_places_of cd_places_of ct_places_of), sl_places_of⟩) (c_places_of : PySem.W.codeIn K cd_places_of "places_of" = true) (k_places_of : PySem.W.keepIn K (.ref f_places_of) = true)
    {f_part_at : Addr} {od_part_at an_part_at : Option Addr} {sl_part_at : Array (Option Value)} {oc_part_at kV_part_at dc_part_at pm_part_at cd_part_at ct_part_at : Value} (a_part_at : PySem.W.nsIn K mainGlobals "part_at" = some (some (.ref f_part_at))) (l_part_at : K.lookup f_part_at = some ⟨oc_part_at, od_part_at, .func (PySem.W.fnOf "part_at" "part_at" (defArgs s_part_at) (defBody s_part_at) (defScope s_part_at) .none kV_part_at dc_part_at pm_part_at an_part_at cd_part_at ct_part_at), sl_part_at⟩) (c_part_at : PySem.W.codeIn K cd_part_at "part_at" = true) (k_part_at : PySem.W.keepIn K (.ref f_part_at) = true)
    {f_is_arities : Addr} {od_is_arities an_is_arities : Option Addr} {sl_is_arities : Array (Option Value)} {oc_is_arities kV_is_arities dc_is_arities pm_is_arities cd_is_arities ct_is_arities : Value} (a_is_arities : PySem.W.nsIn K mainGlobals "is_arities" = some (some (.ref f_is_arities))) (l_is_arities : K.lookup f_is_arities = some ⟨oc_is_arities, od_is_arities, .func (PySem.W.fnOf "is_arities" "is_arities" (defArgs s_is_arities) (defBody s_is_arities) (defScope s_is_arities) .none kV_is_arities dc_is_arities pm_is_arities an_is_arities cd_is_arities ct_is_arities), sl_is_arities⟩) (c_is_arities : PySem.W.codeIn K cd_is_arities "is_arities" = true) (k_is_arities : PySem.W.keepIn K (.ref f_is_arities) = true)
    {f_is_tree : Addr} {od_is_tree an_is_tree : Option Addr} {sl_is_tree : Array (Option Value)} {oc_is_tree kV_is_tree dc_is_tree pm_is_tree cd_is_tree ct_is_tree : Value} (a_is_tree : PySem.W.nsIn K mainGlobals "is_tree" = some (some (.ref f_is_tree))) (l_is_tree : K.lookup f_is_tree = some ⟨oc_is_tree, od_is_tree, .func (PySem.W.fnOf "is_tree" "is_tree" (defArgs s_is_tree) (defBody s_is_tree) (defScope s_is_tree) .none kV_is_tree dc_is_tree pm_is_tree an_is_tree cd_is_tree ct_is_tree), sl_is_tree⟩) (c_is_tree : PySem.W.codeIn K cd_is_tree "is_tree" = true) (k_is_tree : PySem.W.keepIn K (.ref f_is_tree) = true)
    {f__is_node : Addr} {od__is_node an__is_node : Option Addr} {sl__is_node : Array (Option Value)} {oc__is_node kV__is_node dc__is_node pm__is_node cd__is_node ct__is_node : Value} (a__is_node : PySem.W.nsIn K mainGlobals "_is_node" = some (some (.ref f__is_node))) (l__is_node : K.lookup f__is_node = some ⟨oc__is_node, od__is_node, .func (PySem.W.fnOf "_is_node" "_is_node" (defArgs s__is_node) (defBody s__is_node) (defScope s__is_node) .none kV__is_node dc__is_node pm__is_node an__is_node cd__is_node ct__is_node), sl__is_node⟩) (c__is_node : PySem.W.codeIn K cd__is_node "_is_node" = true) (k__is_node : PySem.W.keepIn K (.ref f__is_node) = true)
    {f_is_place : Addr} {od_is_place an_is_place : Option Addr} {sl_is_place : Array (Option Value)} {oc_is_place kV_is_place dc_is_place pm_is_place cd_is_place ct_is_place : Value} (a_is_place : PySem.W.nsIn K mainGlobals "is_place" = some (some (.ref f_is_place))) (l_is_place : K.lookup f_is_place = some ⟨oc_is_place, od_is_place, .func (PySem.W.fnOf "is_place" "is_place" (defArgs s_is_place) (defBody s_is_place) (defScope s_is_place) .none kV_is_place dc_is_place pm_is_place an_is_place cd_is_place ct_is_place), sl_is_place⟩) (c_is_place : PySem.W.codeIn K cd_is_place "is_place" = true) (k_is_place : PySem.W.keepIn K (.ref f_is_place) = true)
    {f_is_automaton : Addr} {od_is_automaton an_is_automaton : Option Addr} {sl_is_automaton : Array (Option Value)} {oc_is_automaton kV_is_automaton dc_is_automaton pm_is_automaton cd_is_automaton ct_is_automaton : Value} (a_is_automaton : PySem.W.nsIn K mainGlobals "is_automaton" = some (some (.ref f_is_automaton))) (l_is_automaton : K.lookup f_is_automaton = some ⟨oc_is_automaton, od_is_automaton, .func (PySem.W.fnOf "is_automaton" "is_automaton" (defArgs s_is_automaton) (defBody s_is_automaton) (defScope s_is_automaton) .none kV_is_automaton dc_is_automaton pm_is_automaton an_is_automaton cd_is_automaton ct_is_automaton), sl_is_automaton⟩) (c_is_automaton : PySem.W.codeIn K cd_is_automaton "is_automaton" = true) (k_is_automaton : PySem.W.keepIn K (.ref f_is_automaton) = true)
    {f__is_entry : Addr} {od__is_entry an__is_entry : Option Addr} {sl__is_entry : Array (Option Value)} {oc__is_entry kV__is_entry dc__is_entry pm__is_entry cd__is_entry ct__is_entry : Value} (a__is_entry : PySem.W.nsIn K mainGlobals "_is_entry" = some (some (.ref f__is_entry))) (l__is_entry : K.lookup f__is_entry = some ⟨oc__is_entry, od__is_entry, .func (PySem.W.fnOf "_is_entry" "_is_entry" (defArgs s__is_entry) (defBody s__is_entry) (defScope s__is_entry) .none kV__is_entry dc__is_entry pm__is_entry an__is_entry cd__is_entry ct__is_entry), sl__is_entry⟩) (c__is_entry : PySem.W.codeIn K cd__is_entry "_is_entry" = true) (k__is_entry : PySem.W.keepIn K (.ref f__is_entry) = true)
    {f_require_automaton_and_tree : Addr} {od_require_automaton_and_tree an_require_automaton_and_tree : Option Addr} {sl_require_automaton_and_tree : Array (Option Value)} {oc_require_automaton_and_tree kV_require_automaton_and_tree dc_require_automaton_and_tree pm_require_automaton_and_tree cd_require_automaton_and_tree ct_require_automaton_and_tree : Value} (a_require_automaton_and_tree : PySem.W.nsIn K mainGlobals "require_automaton_and_tree" = some (some (.ref f_require_automaton_and_tree))) (l_require_automaton_and_tree : K.lookup f_require_automaton_and_tree = some ⟨oc_require_automaton_and_tree, od_require_automaton_and_tree, .func (PySem.W.fnOf "require_automaton_and_tree" "require_automaton_and_tree" (defArgs s_require_automaton_and_tree) (defBody s_require_automaton_and_tree) (defScope s_require_automaton_and_tree) .none kV_require_automaton_and_tree dc_require_automaton_and_tree pm_require_automaton_and_tree an_require_automaton_and_tree cd_require_automaton_and_tree ct_require_automaton_and_tree), sl_require_automaton_and_tree⟩) (c_require_automaton_and_tree : PySem.W.codeIn K cd_require_automaton_and_tree "require_automaton_and_tree" = true) (k_require_automaton_and_tree : PySem.W.keepIn K (.ref f_require_automaton_and_tree) = true)
    {f_run : Addr} {od_run an_run : Option Addr} {sl_run : Array (Option Value)} {oc_run kV_run dc_run pm_run cd_run ct_run : Value} (a_run : PySem.W.nsIn K mainGlobals "run" = some (some (.ref f_run))) (l_run : K.lookup f_run = some ⟨oc_run, od_run, .func (PySem.W.fnOf "run" "run" (defArgs s_run) (defBody s_run) (defScope s_run) .none kV_run dc_run pm_run an_run cd_run ct_run), sl_run⟩) (c_run : PySem.W.codeIn K cd_run "run" = true) (k_run : PySem.W.keepIn K (.ref f_run) = true)
    {f_accepts_run : Addr} {od_accepts_run an_accepts_run : Option Addr} {sl_accepts_run : Array (Option Value)} {oc_accepts_run kV_accepts_run dc_accepts_run pm_accepts_run cd_accepts_run ct_accepts_run : Value} (a_accepts_run : PySem.W.nsIn K mainGlobals "accepts_run" = some (some (.ref f_accepts_run))) (l_accepts_run : K.lookup f_accepts_run = some ⟨oc_accepts_run, od_accepts_run, .func (PySem.W.fnOf "accepts_run" "accepts_run" (defArgs s_accepts_run) (defBody s_accepts_run) (defScope s_accepts_run) .none kV_accepts_run dc_accepts_run pm_accepts_run an_accepts_run cd_accepts_run ct_accepts_run), sl_accepts_run⟩) (c_accepts_run : PySem.W.codeIn K cd_accepts_run "accepts_run" = true) (k_accepts_run : PySem.W.keepIn K (.ref f_accepts_run) = true)
    {f__is_placed_state : Addr} {od__is_placed_state an__is_placed_state : Option Addr} {sl__is_placed_state : Array (Option Value)} {oc__is_placed_state kV__is_placed_state dc__is_placed_state pm__is_placed_state cd__is_placed_state ct__is_placed_state : Value} (a__is_placed_state : PySem.W.nsIn K mainGlobals "_is_placed_state" = some (some (.ref f__is_placed_state))) (l__is_placed_state : K.lookup f__is_placed_state = some ⟨oc__is_placed_state, od__is_placed_state, .func (PySem.W.fnOf "_is_placed_state" "_is_placed_state" (defArgs s__is_placed_state) (defBody s__is_placed_state) (defScope s__is_placed_state) .none kV__is_placed_state dc__is_placed_state pm__is_placed_state an__is_placed_state cd__is_placed_state ct__is_placed_state), sl__is_placed_state⟩) (c__is_placed_state : PySem.W.codeIn K cd__is_placed_state "_is_placed_state" = true) (k__is_placed_state : PySem.W.keepIn K (.ref f__is_placed_state) = true)
    {f__law_stream : Addr} {od__law_stream an__law_stream : Option Addr} {sl__law_stream : Array (Option Value)} {oc__law_stream kV__law_stream dc__law_stream pm__law_stream cd__law_stream ct__law_stream : Value} (a__law_stream : PySem.W.nsIn K mainGlobals "_law_stream" = some (some (.ref f__law_stream))) (l__law_stream : K.lookup f__law_stream = some ⟨oc__law_stream, od__law_stream, .func (PySem.W.fnOf "_law_stream" "_law_stream" (defArgs s__law_stream) (defBody s__law_stream) (defScope s__law_stream) .none kV__law_stream dc__law_stream pm__law_stream an__law_stream cd__law_stream ct__law_stream), sl__law_stream⟩) (c__law_stream : PySem.W.codeIn K cd__law_stream "_law_stream" = true) (k__law_stream : PySem.W.keepIn K (.ref f__law_stream) = true)
    {f__law_next : Addr} {od__law_next an__law_next : Option Addr} {sl__law_next : Array (Option Value)} {oc__law_next kV__law_next dc__law_next pm__law_next cd__law_next ct__law_next : Value} (a__law_next : PySem.W.nsIn K mainGlobals "_law_next" = some (some (.ref f__law_next))) (l__law_next : K.lookup f__law_next = some ⟨oc__law_next, od__law_next, .func (PySem.W.fnOf "_law_next" "_law_next" (defArgs s__law_next) (defBody s__law_next) (defScope s__law_next) .none kV__law_next dc__law_next pm__law_next an__law_next cd__law_next ct__law_next), sl__law_next⟩) (c__law_next : PySem.W.codeIn K cd__law_next "_law_next" = true) (k__law_next : PySem.W.keepIn K (.ref f__law_next) = true)
    {f__law_is_integer : Addr} {od__law_is_integer an__law_is_integer : Option Addr} {sl__law_is_integer : Array (Option Value)} {oc__law_is_integer kV__law_is_integer dc__law_is_integer pm__law_is_integer cd__law_is_integer ct__law_is_integer : Value} (a__law_is_integer : PySem.W.nsIn K mainGlobals "_law_is_integer" = some (some (.ref f__law_is_integer))) (l__law_is_integer : K.lookup f__law_is_integer = some ⟨oc__law_is_integer, od__law_is_integer, .func (PySem.W.fnOf "_law_is_integer" "_law_is_integer" (defArgs s__law_is_integer) (defBody s__law_is_integer) (defScope s__law_is_integer) .none kV__law_is_integer dc__law_is_integer pm__law_is_integer an__law_is_integer cd__law_is_integer ct__law_is_integer), sl__law_is_integer⟩) (c__law_is_integer : PySem.W.codeIn K cd__law_is_integer "_law_is_integer" = true) (k__law_is_integer : PySem.W.keepIn K (.ref f__law_is_integer) = true)
    {f__law_step : Addr} {od__law_step an__law_step : Option Addr} {sl__law_step : Array (Option Value)} {oc__law_step kV__law_step dc__law_step pm__law_step cd__law_step ct__law_step : Value} (a__law_step : PySem.W.nsIn K mainGlobals "_law_step" = some (some (.ref f__law_step))) (l__law_step : K.lookup f__law_step = some ⟨oc__law_step, od__law_step, .func (PySem.W.fnOf "_law_step" "_law_step" (defArgs s__law_step) (defBody s__law_step) (defScope s__law_step) .none kV__law_step dc__law_step pm__law_step an__law_step cd__law_step ct__law_step), sl__law_step⟩) (c__law_step : PySem.W.codeIn K cd__law_step "_law_step" = true) (k__law_step : PySem.W.keepIn K (.ref f__law_step) = true)
    {f__law_automaton : Addr} {od__law_automaton an__law_automaton : Option Addr} {sl__law_automaton : Array (Option Value)} {oc__law_automaton kV__law_automaton dc__law_automaton pm__law_automaton cd__law_automaton ct__law_automaton : Value} (a__law_automaton : PySem.W.nsIn K mainGlobals "_law_automaton" = some (some (.ref f__law_automaton))) (l__law_automaton : K.lookup f__law_automaton = some ⟨oc__law_automaton, od__law_automaton, .func (PySem.W.fnOf "_law_automaton" "_law_automaton" (defArgs s__law_automaton) (defBody s__law_automaton) (defScope s__law_automaton) .none kV__law_automaton dc__law_automaton pm__law_automaton an__law_automaton cd__law_automaton ct__law_automaton), sl__law_automaton⟩) (c__law_automaton : PySem.W.codeIn K cd__law_automaton "_law_automaton" = true) (k__law_automaton : PySem.W.keepIn K (.ref f__law_automaton) = true)
    {f__law_entry : Addr} {od__law_entry an__law_entry : Option Addr} {sl__law_entry : Array (Option Value)} {oc__law_entry kV__law_entry dc__law_entry pm__law_entry cd__law_entry ct__law_entry : Value} (a__law_entry : PySem.W.nsIn K mainGlobals "_law_entry" = some (some (.ref f__law_entry))) (l__law_entry : K.lookup f__law_entry = some ⟨oc__law_entry, od__law_entry, .func (PySem.W.fnOf "_law_entry" "_law_entry" (defArgs s__law_entry) (defBody s__law_entry) (defScope s__law_entry) .none kV__law_entry dc__law_entry pm__law_entry an__law_entry cd__law_entry ct__law_entry), sl__law_entry⟩) (c__law_entry : PySem.W.codeIn K cd__law_entry "_law_entry" = true) (k__law_entry : PySem.W.keepIn K (.ref f__law_entry) = true)
    {f__law_state : Addr} {od__law_state an__law_state : Option Addr} {sl__law_state : Array (Option Value)} {oc__law_state kV__law_state dc__law_state pm__law_state cd__law_state ct__law_state : Value} (a__law_state : PySem.W.nsIn K mainGlobals "_law_state" = some (some (.ref f__law_state))) (l__law_state : K.lookup f__law_state = some ⟨oc__law_state, od__law_state, .func (PySem.W.fnOf "_law_state" "_law_state" (defArgs s__law_state) (defBody s__law_state) (defScope s__law_state) .none kV__law_state dc__law_state pm__law_state an__law_state cd__law_state ct__law_state), sl__law_state⟩) (c__law_state : PySem.W.codeIn K cd__law_state "_law_state" = true) (k__law_state : PySem.W.keepIn K (.ref f__law_state) = true)
    {f__law_tree : Addr} {od__law_tree an__law_tree : Option Addr} {sl__law_tree : Array (Option Value)} {oc__law_tree kV__law_tree dc__law_tree pm__law_tree cd__law_tree ct__law_tree : Value} (a__law_tree : PySem.W.nsIn K mainGlobals "_law_tree" = some (some (.ref f__law_tree))) (l__law_tree : K.lookup f__law_tree = some ⟨oc__law_tree, od__law_tree, .func (PySem.W.fnOf "_law_tree" "_law_tree" (defArgs s__law_tree) (defBody s__law_tree) (defScope s__law_tree) .none kV__law_tree dc__law_tree pm__law_tree an__law_tree cd__law_tree ct__law_tree), sl__law_tree⟩) (c__law_tree : PySem.W.codeIn K cd__law_tree "_law_tree" = true) (k__law_tree : PySem.W.keepIn K (.ref f__law_tree) = true)
    {f__law_places : Addr} {od__law_places an__law_places : Option Addr} {sl__law_places : Array (Option Value)} {oc__law_places kV__law_places dc__law_places pm__law_places cd__law_places ct__law_places : Value} (a__law_places : PySem.W.nsIn K mainGlobals "_law_places" = some (some (.ref f__law_places))) (l__law_places : K.lookup f__law_places = some ⟨oc__law_places, od__law_places, .func (PySem.W.fnOf "_law_places" "_law_places" (defArgs s__law_places) (defBody s__law_places) (defScope s__law_places) .none kV__law_places dc__law_places pm__law_places an__law_places cd__law_places ct__law_places), sl__law_places⟩) (c__law_places : PySem.W.codeIn K cd__law_places "_law_places" = true) (k__law_places : PySem.W.keepIn K (.ref f__law_places) = true)
    {f__law_part : Addr} {od__law_part an__law_part : Option Addr} {sl__law_part : Array (Option Value)} {oc__law_part kV__law_part dc__law_part pm__law_part cd__law_part ct__law_part : Value} (a__law_part : PySem.W.nsIn K mainGlobals "_law_part" = some (some (.ref f__law_part))) (l__law_part : K.lookup f__law_part = some ⟨oc__law_part, od__law_part, .func (PySem.W.fnOf "_law_part" "_law_part" (defArgs s__law_part) (defBody s__law_part) (defScope s__law_part) .none kV__law_part dc__law_part pm__law_part an__law_part cd__law_part ct__law_part), sl__law_part⟩) (c__law_part : PySem.W.codeIn K cd__law_part "_law_part" = true) (k__law_part : PySem.W.keepIn K (.ref f__law_part) = true)
    {f__law_bent : Addr} {od__law_bent an__law_bent : Option Addr} {sl__law_bent : Array (Option Value)} {oc__law_bent kV__law_bent dc__law_bent pm__law_bent cd__law_bent ct__law_bent : Value} (a__law_bent : PySem.W.nsIn K mainGlobals "_law_bent" = some (some (.ref f__law_bent))) (l__law_bent : K.lookup f__law_bent = some ⟨oc__law_bent, od__law_bent, .func (PySem.W.fnOf "_law_bent" "_law_bent" (defArgs s__law_bent) (defBody s__law_bent) (defScope s__law_bent) .none kV__law_bent dc__law_bent pm__law_bent an__law_bent cd__law_bent ct__law_bent), sl__law_bent⟩) (c__law_bent : PySem.W.codeIn K cd__law_bent "_law_bent" = true) (k__law_bent : PySem.W.keepIn K (.ref f__law_bent) = true)
    {f__law_is_run : Addr} {od__law_is_run an__law_is_run : Option Addr} {sl__law_is_run : Array (Option Value)} {oc__law_is_run kV__law_is_run dc__law_is_run pm__law_is_run cd__law_is_run ct__law_is_run : Value} (a__law_is_run : PySem.W.nsIn K mainGlobals "_law_is_run" = some (some (.ref f__law_is_run))) (l__law_is_run : K.lookup f__law_is_run = some ⟨oc__law_is_run, od__law_is_run, .func (PySem.W.fnOf "_law_is_run" "_law_is_run" (defArgs s__law_is_run) (defBody s__law_is_run) (defScope s__law_is_run) .none kV__law_is_run dc__law_is_run pm__law_is_run an__law_is_run cd__law_is_run ct__law_is_run), sl__law_is_run⟩) (c__law_is_run : PySem.W.codeIn K cd__law_is_run "_law_is_run" = true) (k__law_is_run : PySem.W.keepIn K (.ref f__law_is_run) = true)
    {f_law : Addr} {od_law an_law : Option Addr} {sl_law : Array (Option Value)} {oc_law kV_law dc_law pm_law cd_law ct_law : Value} (a_law : PySem.W.nsIn K mainGlobals "law" = some (some (.ref f_law))) (l_law : K.lookup f_law = some ⟨oc_law, od_law, .func (PySem.W.fnOf "law" "law" (defArgs s_law) (defBody s_law) (defScope s_law) .none kV_law dc_law pm_law an_law cd_law ct_law), sl_law⟩) (c_law : PySem.W.codeIn K cd_law "law" = true) (k_law : PySem.W.keepIn K (.ref f_law) = true)
    (z_isinstance : PySem.W.nsIn K mainGlobals "isinstance" = some none)
    (z_int : PySem.W.nsIn K mainGlobals "int" = some none)
    (z_bool : PySem.W.nsIn K mainGlobals "bool" = some none)
    (z_tuple : PySem.W.nsIn K mainGlobals "tuple" = some none)
    (z_len : PySem.W.nsIn K mainGlobals "len" = some none)
    (z_all : PySem.W.nsIn K mainGlobals "all" = some none)
    (z_enumerate : PySem.W.nsIn K mainGlobals "enumerate" = some none)
    (z_zip : PySem.W.nsIn K mainGlobals "zip" = some none)
    (z_list : PySem.W.nsIn K mainGlobals "list" = some none)
    (z_abs : PySem.W.nsIn K mainGlobals "abs" = some none)
    (z_range : PySem.W.nsIn K mainGlobals "range" = some none)
    (z_max : PySem.W.nsIn K mainGlobals "max" = some none)
    {t_MOST_SYMBOLS : Tok} (q_MOST_SYMBOLS : PySem.W.nsIn K mainGlobals "MOST_SYMBOLS" = some (some (.int 4 t_MOST_SYMBOLS)))
    {t_MOST_CHILDREN : Tok} (q_MOST_CHILDREN : PySem.W.nsIn K mainGlobals "MOST_CHILDREN" = some (some (.int 2 t_MOST_CHILDREN)))
    {t_MOST_NODES : Tok} (q_MOST_NODES : PySem.W.nsIn K mainGlobals "MOST_NODES" = some (some (.int 15 t_MOST_NODES)))
    {t_LONGEST_PLACE : Tok} (q_LONGEST_PLACE : PySem.W.nsIn K mainGlobals "LONGEST_PLACE" = some (some (.int 14 t_LONGEST_PLACE)))
    {t_MOST_STATES : Tok} (q_MOST_STATES : PySem.W.nsIn K mainGlobals "MOST_STATES" = some (some (.int 4 t_MOST_STATES))) :
    ∃ fd : FuncData, (∀ (s : Shared) (v : Value), BindsTo s fd ⟨[v], []⟩ [("script", v)]) ∧ ∀ base : Heap, K.In base → base.Ns mainGlobals mg → FnOk l.prog w K mg base CX0 LV fa fd ["script"] (spLaw K) := by
  have e0 : fa = f_law := by
    have e := hfa.symm.trans (PySem.W.mg_of X hG a_law)
    cases e
    rfl
  have T : { T : Facts K mg // T.a_law = f_law ∧ T.fd_law = PySem.W.fnOf "law" "law" (defArgs s_law) (defBody s_law) (defScope s_law) .none kV_law dc_law pm_law an_law cd_law ct_law } := ⟨{
    a_require := f_require
    fd_require := _
    F_require := fun_mk (st := s_require) l_require c_require k_require
    g_require := PySem.W.mg_of X hG a_require
    b_require := (fun_mk (st := s_require) l_require c_require k_require).binds (ps := ["holds", "name"]) fun _ _ _ _ _ _ us hl => match us, hl with | [_, _], _ => rfl
    a_is_integer := f_is_integer
    fd_is_integer := _
    F_is_integer := fun_mk (st := s_is_integer) l_is_integer c_is_integer k_is_integer
    g_is_integer := PySem.W.mg_of X hG a_is_integer
    b_is_integer := (fun_mk (st := s_is_integer) l_is_integer c_is_integer k_is_integer).binds (ps := ["value", "least", "most"]) fun _ _ _ _ _ _ us hl => match us, hl with | [_, _, _], _ => rfl
    a_is_tuple := f_is_tuple
    fd_is_tuple := _
    F_is_tuple := fun_mk (st := s_is_tuple) l_is_tuple c_is_tuple k_is_tuple
    g_is_tuple := PySem.W.mg_of X hG a_is_tuple
    b_is_tuple := (fun_mk (st := s_is_tuple) l_is_tuple c_is_tuple k_is_tuple).binds (ps := ["value", "least", "most"]) fun _ _ _ _ _ _ us hl => match us, hl with | [_, _, _], _ => rfl
    a_are_integers := f_are_integers
    fd_are_integers := _
    F_are_integers := fun_mk (st := s_are_integers) l_are_integers c_are_integers k_are_integers
    g_are_integers := PySem.W.mg_of X hG a_are_integers
    b_are_integers := (fun_mk (st := s_are_integers) l_are_integers c_are_integers k_are_integers).binds (ps := ["values", "least", "most"]) fun _ _ _ _ _ _ us hl => match us, hl with | [_, _, _], _ => rfl
    a_lead := f_lead
    fd_lead := _
    F_lead := fun_mk (st := s_lead) l_lead c_lead k_lead
    g_lead := PySem.W.mg_of X hG a_lead
    b_lead := (fun_mk (st := s_lead) l_lead c_lead k_lead).binds (ps := ["entry", "states"]) fun _ _ _ _ _ _ us hl => match us, hl with | [_, _], _ => rfl
    a_state_of := f_state_of
    fd_state_of := _
    F_state_of := fun_mk (st := s_state_of) l_state_of c_state_of k_state_of
    g_state_of := PySem.W.mg_of X hG a_state_of
    b_state_of := (fun_mk (st := s_state_of) l_state_of c_state_of k_state_of).binds (ps := ["automaton", "tree"]) fun _ _ _ _ _ _ us hl => match us, hl with | [_, _], _ => rfl
    a_places_of := f_places_of
    fd_places_of := _
    F_places_of := fun_mk (st := s_places_of) l_places_of c_places_of k_places_of
    g_places_of := PySem.W.mg_of X hG a_places_of
    b_places_of := (fun_mk (st := s_places_of) l_places_of c_places_of k_places_of).binds (ps := ["tree"]) fun _ _ _ _ _ _ us hl => match us, hl with | [_], _ => rfl
    a_part_at := f_part_at
    fd_part_at := _
    F_part_at := fun_mk (st := s_part_at) l_part_at c_part_at k_part_at
    g_part_at := PySem.W.mg_of X hG a_part_at
    b_part_at := (fun_mk (st := s_part_at) l_part_at c_part_at k_part_at).binds (ps := ["tree", "place"]) fun _ _ _ _ _ _ us hl => match us, hl with | [_, _], _ => rfl
    a_is_arities := f_is_arities
    fd_is_arities := _
    F_is_arities := fun_mk (st := s_is_arities) l_is_arities c_is_arities k_is_arities
    g_is_arities := PySem.W.mg_of X hG a_is_arities
    b_is_arities := (fun_mk (st := s_is_arities) l_is_arities c_is_arities k_is_arities).binds (ps := ["value"]) fun _ _ _ _ _ _ us hl => match us, hl with | [_], _ => rfl
    a_is_tree := f_is_tree
    fd_is_tree := _
    F_is_tree := fun_mk (st := s_is_tree) l_is_tree c_is_tree k_is_tree
    g_is_tree := PySem.W.mg_of X hG a_is_tree
    b_is_tree := (fun_mk (st := s_is_tree) l_is_tree c_is_tree k_is_tree).binds (ps := ["arities", "value"]) fun _ _ _ _ _ _ us hl => match us, hl with | [_, _], _ => rfl
    a__is_node := f__is_node
    fd__is_node := _
    F__is_node := fun_mk (st := s__is_node) l__is_node c__is_node k__is_node
    g__is_node := PySem.W.mg_of X hG a__is_node
    b__is_node := (fun_mk (st := s__is_node) l__is_node c__is_node k__is_node).binds (ps := ["arities", "value"]) fun _ _ _ _ _ _ us hl => match us, hl with | [_, _], _ => rfl
    a_is_place := f_is_place
    fd_is_place := _
    F_is_place := fun_mk (st := s_is_place) l_is_place c_is_place k_is_place
    g_is_place := PySem.W.mg_of X hG a_is_place
    b_is_place := (fun_mk (st := s_is_place) l_is_place c_is_place k_is_place).binds (ps := ["value"]) fun _ _ _ _ _ _ us hl => match us, hl with | [_], _ => rfl
    a_is_automaton := f_is_automaton
    fd_is_automaton := _
    F_is_automaton := fun_mk (st := s_is_automaton) l_is_automaton c_is_automaton k_is_automaton
    g_is_automaton := PySem.W.mg_of X hG a_is_automaton
    b_is_automaton := (fun_mk (st := s_is_automaton) l_is_automaton c_is_automaton k_is_automaton).binds (ps := ["value"]) fun _ _ _ _ _ _ us hl => match us, hl with | [_], _ => rfl
    a__is_entry := f__is_entry
    fd__is_entry := _
    F__is_entry := fun_mk (st := s__is_entry) l__is_entry c__is_entry k__is_entry
    g__is_entry := PySem.W.mg_of X hG a__is_entry
    b__is_entry := (fun_mk (st := s__is_entry) l__is_entry c__is_entry k__is_entry).binds (ps := ["value", "arity", "many"]) fun _ _ _ _ _ _ us hl => match us, hl with | [_, _, _], _ => rfl
    a_require_automaton_and_tree := f_require_automaton_and_tree
    fd_require_automaton_and_tree := _
    F_require_automaton_and_tree := fun_mk (st := s_require_automaton_and_tree) l_require_automaton_and_tree c_require_automaton_and_tree k_require_automaton_and_tree
    g_require_automaton_and_tree := PySem.W.mg_of X hG a_require_automaton_and_tree
    b_require_automaton_and_tree := (fun_mk (st := s_require_automaton_and_tree) l_require_automaton_and_tree c_require_automaton_and_tree k_require_automaton_and_tree).binds (ps := ["automaton", "tree"]) fun _ _ _ _ _ _ us hl => match us, hl with | [_, _], _ => rfl
    a_run := f_run
    fd_run := _
    F_run := fun_mk (st := s_run) l_run c_run k_run
    g_run := PySem.W.mg_of X hG a_run
    b_run := (fun_mk (st := s_run) l_run c_run k_run).binds (ps := ["automaton", "tree"]) fun _ _ _ _ _ _ us hl => match us, hl with | [_, _], _ => rfl
    a_accepts_run := f_accepts_run
    fd_accepts_run := _
    F_accepts_run := fun_mk (st := s_accepts_run) l_accepts_run c_accepts_run k_accepts_run
    g_accepts_run := PySem.W.mg_of X hG a_accepts_run
    b_accepts_run := (fun_mk (st := s_accepts_run) l_accepts_run c_accepts_run k_accepts_run).binds (ps := ["automaton", "tree", "value"]) fun _ _ _ _ _ _ us hl => match us, hl with | [_, _, _], _ => rfl
    a__is_placed_state := f__is_placed_state
    fd__is_placed_state := _
    F__is_placed_state := fun_mk (st := s__is_placed_state) l__is_placed_state c__is_placed_state k__is_placed_state
    g__is_placed_state := PySem.W.mg_of X hG a__is_placed_state
    b__is_placed_state := (fun_mk (st := s__is_placed_state) l__is_placed_state c__is_placed_state k__is_placed_state).binds (ps := ["value"]) fun _ _ _ _ _ _ us hl => match us, hl with | [_], _ => rfl
    a__law_stream := f__law_stream
    fd__law_stream := _
    F__law_stream := fun_mk (st := s__law_stream) l__law_stream c__law_stream k__law_stream
    g__law_stream := PySem.W.mg_of X hG a__law_stream
    b__law_stream := (fun_mk (st := s__law_stream) l__law_stream c__law_stream k__law_stream).binds (ps := ["script"]) fun _ _ _ _ _ _ us hl => match us, hl with | [_], _ => rfl
    a__law_next := f__law_next
    fd__law_next := _
    F__law_next := fun_mk (st := s__law_next) l__law_next c__law_next k__law_next
    g__law_next := PySem.W.mg_of X hG a__law_next
    b__law_next := (fun_mk (st := s__law_next) l__law_next c__law_next k__law_next).binds (ps := ["stream", "many"]) fun _ _ _ _ _ _ us hl => match us, hl with | [_, _], _ => rfl
    a__law_is_integer := f__law_is_integer
    fd__law_is_integer := _
    F__law_is_integer := fun_mk (st := s__law_is_integer) l__law_is_integer c__law_is_integer k__law_is_integer
    g__law_is_integer := PySem.W.mg_of X hG a__law_is_integer
    b__law_is_integer := (fun_mk (st := s__law_is_integer) l__law_is_integer c__law_is_integer k__law_is_integer).binds (ps := ["actual"]) fun _ _ _ _ _ _ us hl => match us, hl with | [_], _ => rfl
    a__law_step := f__law_step
    fd__law_step := _
    F__law_step := fun_mk (st := s__law_step) l__law_step c__law_step k__law_step
    g__law_step := PySem.W.mg_of X hG a__law_step
    b__law_step := (fun_mk (st := s__law_step) l__law_step c__law_step k__law_step).binds (ps := ["stream", "arity", "states"]) fun _ _ _ _ _ _ us hl => match us, hl with | [_, _, _], _ => rfl
    a__law_automaton := f__law_automaton
    fd__law_automaton := _
    F__law_automaton := fun_mk (st := s__law_automaton) l__law_automaton c__law_automaton k__law_automaton
    g__law_automaton := PySem.W.mg_of X hG a__law_automaton
    b__law_automaton := (fun_mk (st := s__law_automaton) l__law_automaton c__law_automaton k__law_automaton).binds (ps := ["stream", "most"]) fun _ _ _ _ _ _ us hl => match us, hl with | [_, _], _ => rfl
    a__law_entry := f__law_entry
    fd__law_entry := _
    F__law_entry := fun_mk (st := s__law_entry) l__law_entry c__law_entry k__law_entry
    g__law_entry := PySem.W.mg_of X hG a__law_entry
    b__law_entry := (fun_mk (st := s__law_entry) l__law_entry c__law_entry k__law_entry).binds (ps := ["automaton", "symbol", "states"]) fun _ _ _ _ _ _ us hl => match us, hl with | [_, _, _], _ => rfl
    a__law_state := f__law_state
    fd__law_state := _
    F__law_state := fun_mk (st := s__law_state) l__law_state c__law_state k__law_state
    g__law_state := PySem.W.mg_of X hG a__law_state
    b__law_state := (fun_mk (st := s__law_state) l__law_state c__law_state k__law_state).binds (ps := ["automaton", "tree"]) fun _ _ _ _ _ _ us hl => match us, hl with | [_, _], _ => rfl
    a__law_tree := f__law_tree
    fd__law_tree := _
    F__law_tree := fun_mk (st := s__law_tree) l__law_tree c__law_tree k__law_tree
    g__law_tree := PySem.W.mg_of X hG a__law_tree
    b__law_tree := (fun_mk (st := s__law_tree) l__law_tree c__law_tree k__law_tree).binds (ps := ["stream", "arities", "most"]) fun _ _ _ _ _ _ us hl => match us, hl with | [_, _, _], _ => rfl
    a__law_places := f__law_places
    fd__law_places := _
    F__law_places := fun_mk (st := s__law_places) l__law_places c__law_places k__law_places
    g__law_places := PySem.W.mg_of X hG a__law_places
    b__law_places := (fun_mk (st := s__law_places) l__law_places c__law_places k__law_places).binds (ps := ["tree"]) fun _ _ _ _ _ _ us hl => match us, hl with | [_], _ => rfl
    a__law_part := f__law_part
    fd__law_part := _
    F__law_part := fun_mk (st := s__law_part) l__law_part c__law_part k__law_part
    g__law_part := PySem.W.mg_of X hG a__law_part
    b__law_part := (fun_mk (st := s__law_part) l__law_part c__law_part k__law_part).binds (ps := ["tree", "place"]) fun _ _ _ _ _ _ us hl => match us, hl with | [_, _], _ => rfl
    a__law_bent := f__law_bent
    fd__law_bent := _
    F__law_bent := fun_mk (st := s__law_bent) l__law_bent c__law_bent k__law_bent
    g__law_bent := PySem.W.mg_of X hG a__law_bent
    b__law_bent := (fun_mk (st := s__law_bent) l__law_bent c__law_bent k__law_bent).binds (ps := ["stream", "row", "states"]) fun _ _ _ _ _ _ us hl => match us, hl with | [_, _, _], _ => rfl
    a__law_is_run := f__law_is_run
    fd__law_is_run := _
    F__law_is_run := fun_mk (st := s__law_is_run) l__law_is_run c__law_is_run k__law_is_run
    g__law_is_run := PySem.W.mg_of X hG a__law_is_run
    b__law_is_run := (fun_mk (st := s__law_is_run) l__law_is_run c__law_is_run k__law_is_run).binds (ps := ["automaton", "tree", "value"]) fun _ _ _ _ _ _ us hl => match us, hl with | [_, _, _], _ => rfl
    a_law := f_law
    fd_law := _
    F_law := fun_mk (st := s_law) l_law c_law k_law
    g_law := PySem.W.mg_of X hG a_law
    b_law := (fun_mk (st := s_law) l_law c_law k_law).binds (ps := ["script"]) fun _ _ _ _ _ _ us hl => match us, hl with | [_], _ => rfl
    z_isinstance := PySem.W.mg_none_of X hG z_isinstance
    z_int := PySem.W.mg_none_of X hG z_int
    z_bool := PySem.W.mg_none_of X hG z_bool
    z_tuple := PySem.W.mg_none_of X hG z_tuple
    z_len := PySem.W.mg_none_of X hG z_len
    z_all := PySem.W.mg_none_of X hG z_all
    z_enumerate := PySem.W.mg_none_of X hG z_enumerate
    z_zip := PySem.W.mg_none_of X hG z_zip
    z_list := PySem.W.mg_none_of X hG z_list
    z_abs := PySem.W.mg_none_of X hG z_abs
    z_range := PySem.W.mg_none_of X hG z_range
    z_max := PySem.W.mg_none_of X hG z_max
    t_MOST_SYMBOLS := t_MOST_SYMBOLS
    c_MOST_SYMBOLS := PySem.W.mg_of X hG q_MOST_SYMBOLS
    t_MOST_CHILDREN := t_MOST_CHILDREN
    c_MOST_CHILDREN := PySem.W.mg_of X hG q_MOST_CHILDREN
    t_MOST_NODES := t_MOST_NODES
    c_MOST_NODES := PySem.W.mg_of X hG q_MOST_NODES
    t_LONGEST_PLACE := t_LONGEST_PLACE
    c_LONGEST_PLACE := PySem.W.mg_of X hG q_LONGEST_PLACE
    t_MOST_STATES := t_MOST_STATES
    c_MOST_STATES := PySem.W.mg_of X hG q_MOST_STATES }, rfl, rfl⟩
  obtain ⟨T, e1, e2⟩ := T
  refine ⟨PySem.W.fnOf "law" "law" (defArgs s_law) (defBody s_law) (defScope s_law) .none kV_law dc_law pm_law an_law cd_law ct_law, fun s v => .of_eq rfl, fun base _ _ => ?_⟩
  have hh := (all_ok (P := l.prog) (w := w) (base := base) T LV).h_law
  rw [e1, e2] at hh
  rw [e0]
  exact hh.imp fun vs H Q E q => law_sp LV hm vs H Q E q
end G
open PySem PySem.W PyProof.Rows
set_option maxHeartbeats 0 in
theorem PySem.Challenge.cw_rootfirst_k09_whole_runs_by_whomever_holds : PySem.Challenge.rw_rootfirst_k09_whole_runs_by_whomever.Holds := by
  w_on; o_law; k_head; (case hw => w_witness2)
  k_fill
  refine L2.walk_of (l := PySem.Challenge.rw_rootfirst_k09_whole_runs_by_whomever) (n := 63) (k := G.LV) (x := "script") (CX := fun _ => L2.CX0) (sp := fun w => G.spLaw _) rfl (by decide) rfl ⟨rfl, by decide, by decide⟩ (fun w h Y => PySem.W.kIn_of Y) ?F (fun _ _ a ns hl _ hS => ⟨a, ns, rfl, hS, hl, fun _ => rfl⟩) (fun _ _ _ _ _ h => h)
  case F =>
    intro w mg fa h KX GG hmg
    refine' G.all_mk G.LV G.law_true KX GG hmg ?a_require ?l_require ?c_require ?k_require ?a_is_integer ?l_is_integer ?c_is_integer ?k_is_integer ?a_is_tuple ?l_is_tuple ?c_is_tuple ?k_is_tuple ?a_are_integers ?l_are_integers ?c_are_integers ?k_are_integers ?a_lead ?l_lead ?c_lead ?k_lead ?a_state_of ?l_state_of ?c_state_of ?k_state_of ?a_places_of ?l_places_of ?c_places_of ?k_places_of ?a_part_at ?l_part_at ?c_part_at ?k_part_at ?a_is_arities ?l_is_arities ?c_is_arities ?k_is_arities ?a_is_tree ?l_is_tree ?c_is_tree ?k_is_tree ?a__is_node ?l__is_node ?c__is_node ?k__is_node ?a_is_place ?l_is_place ?c_is_place ?k_is_place ?a_is_automaton ?l_is_automaton ?c_is_automaton ?k_is_automaton ?a__is_entry ?l__is_entry ?c__is_entry ?k__is_entry ?a_require_automaton_and_tree ?l_require_automaton_and_tree ?c_require_automaton_and_tree ?k_require_automaton_and_tree ?a_run ?l_run ?c_run ?k_run ?a_accepts_run ?l_accepts_run ?c_accepts_run ?k_accepts_run ?a__is_placed_state ?l__is_placed_state ?c__is_placed_state ?k__is_placed_state ?a__law_stream ?l__law_stream ?c__law_stream ?k__law_stream ?a__law_next ?l__law_next ?c__law_next ?k__law_next ?a__law_is_integer ?l__law_is_integer ?c__law_is_integer ?k__law_is_integer ?a__law_step ?l__law_step ?c__law_step ?k__law_step ?a__law_automaton ?l__law_automaton ?c__law_automaton ?k__law_automaton ?a__law_entry ?l__law_entry ?c__law_entry ?k__law_entry ?a__law_state ?l__law_state ?c__law_state ?k__law_state ?a__law_tree ?l__law_tree ?c__law_tree ?k__law_tree ?a__law_places ?l__law_places ?c__law_places ?k__law_places ?a__law_part ?l__law_part ?c__law_part ?k__law_part ?a__law_bent ?l__law_bent ?c__law_bent ?k__law_bent ?a__law_is_run ?l__law_is_run ?c__law_is_run ?k__law_is_run ?a_law ?l_law ?c_law ?k_law ?z_isinstance ?z_int ?z_bool ?z_tuple ?z_len ?z_all ?z_enumerate ?z_zip ?z_list ?z_abs ?z_range ?z_max ?q_MOST_SYMBOLS ?q_MOST_CHILDREN ?q_MOST_NODES ?q_LONGEST_PLACE ?q_MOST_STATES
    (case a_require => k_is); (case l_require => k_is); (case c_require => k_is); (case k_require => k_is); (case a_is_integer => k_is); (case l_is_integer => k_is); (case c_is_integer => k_is); (case k_is_integer => k_is); (case a_is_tuple => k_is); (case l_is_tuple => k_is); (case c_is_tuple => k_is); (case k_is_tuple => k_is); (case a_are_integers => k_is); (case l_are_integers => k_is); (case c_are_integers => k_is); (case k_are_integers => k_is); (case a_lead => k_is); (case l_lead => k_is); (case c_lead => k_is); (case k_lead => k_is); (case a_state_of => k_is); (case l_state_of => k_is); (case c_state_of => k_is); (case k_state_of => k_is); (case a_places_of => k_is); (case l_places_of => k_is); (case c_places_of => k_is); (case k_places_of => k_is); (case a_part_at => k_is); (case l_part_at => k_is); (case c_part_at => k_is); (case k_part_at => k_is); (case a_is_arities => k_is); (case l_is_arities => k_is); (case c_is_arities => k_is); (case k_is_arities => k_is); (case a_is_tree => k_is); (case l_is_tree => k_is); (case c_is_tree => k_is); (case k_is_tree => k_is); (case a__is_node => k_is); (case l__is_node => k_is); (case c__is_node => k_is); (case k__is_node => k_is); (case a_is_place => k_is); (case l_is_place => k_is); (case c_is_place => k_is); (case k_is_place => k_is); (case a_is_automaton => k_is); (case l_is_automaton => k_is); (case c_is_automaton => k_is); (case k_is_automaton => k_is); (case a__is_entry => k_is); (case l__is_entry => k_is); (case c__is_entry => k_is); (case k__is_entry => k_is); (case a_require_automaton_and_tree => k_is); (case l_require_automaton_and_tree => k_is); (case c_require_automaton_and_tree => k_is); (case k_require_automaton_and_tree => k_is); (case a_run => k_is); (case l_run => k_is); (case c_run => k_is); (case k_run => k_is); (case a_accepts_run => k_is); (case l_accepts_run => k_is); (case c_accepts_run => k_is); (case k_accepts_run => k_is); (case a__is_placed_state => k_is); (case l__is_placed_state => k_is); (case c__is_placed_state => k_is); (case k__is_placed_state => k_is); (case a__law_stream => k_is); (case l__law_stream => k_is); (case c__law_stream => k_is); (case k__law_stream => k_is); (case a__law_next => k_is); (case l__law_next => k_is); (case c__law_next => k_is); (case k__law_next => k_is); (case a__law_is_integer => k_is); (case l__law_is_integer => k_is); (case c__law_is_integer => k_is); (case k__law_is_integer => k_is); (case a__law_step => k_is); (case l__law_step => k_is); (case c__law_step => k_is); (case k__law_step => k_is); (case a__law_automaton => k_is); (case l__law_automaton => k_is); (case c__law_automaton => k_is); (case k__law_automaton => k_is); (case a__law_entry => k_is); (case l__law_entry => k_is); (case c__law_entry => k_is); (case k__law_entry => k_is); (case a__law_state => k_is); (case l__law_state => k_is); (case c__law_state => k_is); (case k__law_state => k_is); (case a__law_tree => k_is); (case l__law_tree => k_is); (case c__law_tree => k_is); (case k__law_tree => k_is); (case a__law_places => k_is); (case l__law_places => k_is); (case c__law_places => k_is); (case k__law_places => k_is); (case a__law_part => k_is); (case l__law_part => k_is); (case c__law_part => k_is); (case k__law_part => k_is); (case a__law_bent => k_is); (case l__law_bent => k_is); (case c__law_bent => k_is); (case k__law_bent => k_is); (case a__law_is_run => k_is); (case l__law_is_run => k_is); (case c__law_is_run => k_is); (case k__law_is_run => k_is); (case a_law => k_is); (case l_law => k_is); (case c_law => k_is); (case k_law => k_is); (case z_isinstance => k_is); (case z_int => k_is); (case z_bool => k_is); (case z_tuple => k_is); (case z_len => k_is); (case z_all => k_is); (case z_enumerate => k_is); (case z_zip => k_is); (case z_list => k_is); (case z_abs => k_is); (case z_range => k_is); (case z_max => k_is); (case q_MOST_SYMBOLS => k_is); (case q_MOST_CHILDREN => k_is); (case q_MOST_NODES => k_is); (case q_LONGEST_PLACE => k_is); (case q_MOST_STATES => k_is)
