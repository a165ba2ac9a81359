import PyProof.Rows.All
import Wide.All
import OpenK.AllK
import Wide.FinOn
import HandS.ForMost
import HandS.TupAny
import HandS.TupMul
import HandS.IsInst
import HandS.Zip
import HandS.Conv
import HandS.Deep
import HandS.TupLe
import PyProof.ListMulRoad
import PyProof.FactsAll.tuple_2
import PyProof.AutoSeq1
import PyProof.P3In
import KE.GoesMore
import PySem.Challenge.RW_rootfirst_k34_exchanges_and_fewer_entrie
set_option Elab.async false
set_option linter.all false
set_option autoImplicit false
set_option maxRecDepth 100000
set_option maxHeartbeats 4000000
/-! Pure data read off the heap, and programs as functions on such data. -/
namespace G
open PySem L2

abbrev D := PyData
inductive Sl where
  | d (x : D)
  | loc (n : Nat)
inductive Rt where
  | val (x : D)
  | new (xs : List D)
abbrev Sto := List (Option (List D))
abbrev Rho := List (Option Sl)
/-- the cells' addresses; lists in the making -/
structure Adr where
  c : List (Option Addr)
  g : List Addr
def Adr.mem (M : Adr) (a : Addr) : Prop := some a ∈ M.c ∨ a ∈ M.g
def Adr.gh (M : Adr) (a : Addr) : Adr := ⟨M.c, a :: M.g⟩
abbrev Fn := List Sl → Sto → Option (Rt × Sto)

def KL (K : PySem.W.Frag) (a : Addr) (vs : List V) : Prop := SqL K (fun _ => none) a vs
def LsR (K : PySem.W.Frag) (M : Adr) (H : Hp) (a : Addr) (vs : List V) : Prop := (Rd H a (.lst vs) ∧ ¬ M.mem a) ∨ KL K a vs
theorem KL.sql {K : PySem.W.Frag} {a : Addr} {vs : List V} (h : KL K a vs) (H : Hp) : SqL K H a vs := by
  rcases h with h | h
  · rcases h with h | ⟨o, h⟩
    · cases h
    · cases h
  · exact .inr h
theorem LsR.sql {K : PySem.W.Frag} {M : Adr} {H : Hp} {a : Addr} {vs : List V} (h : LsR K M H a vs) : SqL K H a vs := by
  rcases h with h | h
  · exact .inl h.1
  · exact h.sql H

mutual
inductive Rl (K : PySem.W.Frag) (M : Adr) (H : Hp) : V → D → Prop
  | non : Rl K M H .non .none
  | bl (b : Bool) : Rl K M H (.bl b) (.bool b)
  | int (i : Int) : Rl K M H (.int i) (.int i)
  | str (x : Str) : Rl K M H (.str x) (.str x)
  | lst {a : Addr} {vs : List V} {ds : List D} : LsR K M H a vs → RlA K M H vs ds → Rl K M H (.ref a) (.list ds)
  | tup {a : Addr} {vs : List V} {ds : List D} : SqT K H a vs → RlA K M H vs ds → Rl K M H (.ref a) (.tuple ds)
inductive RlA (K : PySem.W.Frag) (M : Adr) (H : Hp) : List V → List D → Prop
  | nil : RlA K M H [] []
  | cons {v : V} {vs : List V} {d : D} {ds : List D} : Rl K M H v d → RlA K M H vs ds → RlA K M H (v :: vs) (d :: ds)
end
section
variable {K : PySem.W.Frag} {M M' M'' : Adr} {H H' H'' : Hp}
mutual
theorem Rl.move (hl : ∀ a vs, LsR K M H a vs → LsR K M' H' a vs) (ht : ∀ a vs, SqT K H a vs → SqT K H' a vs) : ∀ (d : D) (v : V), Rl K M H v d → Rl K M' H' v d
  | .none, _, h => by cases h; exact .non
  | .bool b, _, h => by cases h; exact .bl b
  | .int i, _, h => by cases h; exact .int i
  | .str x, _, h => by cases h; exact .str x
  | .list ds, _, h => by
    cases h with
    | lst h1 h2 => exact .lst (hl _ _ h1) (RlA.move hl ht ds _ h2)
  | .tuple ds, _, h => by
    cases h with
    | tup h1 h2 => exact .tup (ht _ _ h1) (RlA.move hl ht ds _ h2)
  | .dict _, _, h => by cases h
theorem RlA.move (hl : ∀ a vs, LsR K M H a vs → LsR K M' H' a vs) (ht : ∀ a vs, SqT K H a vs → SqT K H' a vs) : ∀ (ds : List D) (vs : List V), RlA K M H vs ds → RlA K M' H' vs ds
  | [], _, h => by cases h; exact .nil
  | d :: ds, _, h => by
    cases h with
    | cons h1 h2 => exact .cons (Rl.move hl ht d _ h1) (RlA.move hl ht ds _ h2)
end
mutual
theorem Rl.dp : ∀ (d : D) (v : V), Rl K M H v d → Dp K H v d
  | .none, _, h => by cases h; exact .non
  | .bool b, _, h => by cases h; exact .bl b
  | .int i, _, h => by cases h; exact .int i
  | .str x, _, h => by cases h; exact .str x
  | .list ds, _, h => by
    cases h with
    | lst h1 h2 => exact .lst h1.sql (RlA.dp ds _ h2)
  | .tuple ds, _, h => by
    cases h with
    | tup h1 h2 => exact .tup h1 (RlA.dp ds _ h2)
  | .dict _, _, h => by cases h
theorem RlA.dp : ∀ (ds : List D) (vs : List V), RlA K M H vs ds → DpAll K H vs ds
  | [], _, h => by cases h; exact .nil
  | d :: ds, _, h => by
    cases h with
    | cons h1 h2 => exact .cons (Rl.dp d _ h1) (RlA.dp ds _ h2)
end
theorem RlA.len {vs : List V} {ds : List D} (h : RlA K M H vs ds) : vs.length = ds.length := by
  induction ds generalizing vs with
  | nil => cases h; rfl
  | cons d ds ih => cases h with | cons h1 h2 => rw [List.length_cons, List.length_cons, ih h2]
theorem RlA.get {vs : List V} {ds : List D} (h : RlA K M H vs ds) {i : Nat} {d : D} (e : ds[i]? = some d) : ∃ v, vs[i]? = some v ∧ Rl K M H v d := by
  induction ds generalizing vs i with
  | nil => cases e
  | cons x ds ih =>
    cases h with
    | cons h1 h2 =>
      cases i with
      | zero => cases e; exact ⟨_, rfl, h1⟩
      | succ i => exact ih h2 e
theorem RlA.get' {vs : List V} {ds : List D} (h : RlA K M H vs ds) {i : Nat} {v : V} (e : vs[i]? = some v) : ∃ d, ds[i]? = some d ∧ Rl K M H v d := by
  induction ds generalizing vs i with
  | nil => cases h; cases e
  | cons x ds ih =>
    cases h with
    | cons h1 h2 =>
      cases i with
      | zero => cases e; exact ⟨_, rfl, h1⟩
      | succ i => exact ih h2 e
theorem RlA.append {vs ws : List V} {ds es : List D} (h : RlA K M H vs ds) (h' : RlA K M H ws es) : RlA K M H (vs ++ ws) (ds ++ es) := by
  induction ds generalizing vs with
  | nil => cases h; exact h'
  | cons x ds ih => cases h with | cons h1 h2 => exact .cons h1 (ih h2)
theorem RlA.take {vs : List V} {ds : List D} (h : RlA K M H vs ds) (n : Nat) : RlA K M H (vs.take n) (ds.take n) := by
  induction ds generalizing vs n with
  | nil => cases h; rw [List.take_nil, List.take_nil]; exact .nil
  | cons x ds ih => cases h with | cons h1 h2 => cases n with | zero => exact .nil | succ n => exact .cons h1 (ih h2 n)
theorem RlA.drop {vs : List V} {ds : List D} (h : RlA K M H vs ds) (n : Nat) : RlA K M H (vs.drop n) (ds.drop n) := by
  induction ds generalizing vs n with
  | nil => cases h; rw [List.drop_nil, List.drop_nil]; exact .nil
  | cons x ds ih => cases h with | cons h1 h2 => cases n with | zero => exact .cons h1 h2 | succ n => exact ih h2 n
theorem RlA.set {vs : List V} {ds : List D} (h : RlA K M H vs ds) {v : V} {d : D} (r : Rl K M H v d) (n : Nat) : RlA K M H (vs.set n v) (ds.set n d) := by
  induction ds generalizing vs n with
  | nil => cases h; exact .nil
  | cons x ds ih => cases h with | cons h1 h2 => cases n with | zero => exact .cons r h2 | succ n => exact .cons h1 (ih h2 n)
theorem RlA.one {v : V} {d : D} (r : Rl K M H v d) : RlA K M H [v] [d] := .cons r .nil

/-- what may have changed: the cells of M alone; what is new stands where nothing stood -/
structure Ext (M : Adr) (H : Hp) (M' : Adr) (H' : Hp) : Prop where
  subn : ∀ (n : Nat) (a : Addr), M'.c[n]? = some (some a) → M.c[n]? = some (some a) ∨ (M.c.length ≤ n ∧ H a = none)
  gs : ∀ a, a ∈ M'.g → a ∈ M.g ∨ H a = none
  gk : ∀ a, a ∈ M.g → a ∈ M'.g
  pos : ∀ (n : Nat) (a : Addr), M.c[n]? = some (some a) → M'.c[n]? = some (some a) ∨ M'.c[n]? = some none
  dead : ∀ n : Nat, M.c[n]? = some none → M'.c[n]? = some none
  keep : ∀ a o, H a = some o → (some a ∉ M.c ∨ ∀ xs, o ≠ .lst xs) → H' a = some o
  free : ∀ a, H' a = none → H a = none
theorem Ext.refl : Ext M H M H := ⟨fun _ _ h => .inl h, fun _ h => .inl h, fun _ h => h, fun _ _ h => .inl h, fun _ h => h, fun _ _ h _ => h, fun _ h => h⟩
theorem Ext.len (x : Ext M H M' H') : M.c.length ≤ M'.c.length := by
  cases h : M.c.length with
  | zero => exact Nat.zero_le _
  | succ k =>
    have hk : k < M.c.length := by omega
    have : k < M'.c.length := by
      cases e : M.c[k] with
      | none => exact (List.getElem?_eq_some_iff.mp (x.dead k (by rw [List.getElem?_eq_getElem hk, e]))).1
      | some a =>
        rcases x.pos k a (by rw [List.getElem?_eq_getElem hk, e]) with q | q
        · exact (List.getElem?_eq_some_iff.mp q).1
        · exact (List.getElem?_eq_some_iff.mp q).1
    omega
theorem Ext.sub (x : Ext M H M' H') (a : Addr) (h : some a ∈ M'.c) : some a ∈ M.c ∨ H a = none := by
  obtain ⟨n, e⟩ := List.mem_iff_getElem?.mp h
  exact (x.subn n a e).elim (fun z => .inl (List.mem_of_getElem? z)) fun z => .inr z.2
theorem Ext.trans (x : Ext M H M' H') (y : Ext M' H' M'' H'') : Ext M H M'' H'' where
  subn := fun n a h => (y.subn n a h).elim (x.subn n a) fun h => .inr ⟨Nat.le_trans x.len h.1, x.free a h.2⟩
  gs := fun a h => (y.gs a h).elim (x.gs a) fun h => .inr (x.free a h)
  gk := fun a h => y.gk a (x.gk a h)
  pos := fun n a h => (x.pos n a h).elim (y.pos n a) fun h => .inr (y.dead n h)
  dead := fun n h => y.dead n (x.dead n h)
  keep := fun a o h c => y.keep a o (x.keep a o h c) (c.elim (fun c => .inl fun z => (x.sub a z).elim c fun e => by rw [h] at e; cases e) .inr)
  free := fun a h => x.free a (y.free a h)
/-- back: what was in the making is left out -/
def Adr.ug (M' M : Adr) : Adr := ⟨M'.c, M.g⟩
theorem Ext.ungh (x : Ext M H M' H') : Ext M H (M'.ug M) H' := ⟨x.subn, fun _ h => .inl h, fun _ h => h, x.pos, x.dead, x.keep, x.free⟩
theorem Ext.ughmem (x : Ext M H M' H') {p : Addr} (hp : p ∈ M'.g) {a : Addr} (h : ((M'.ug M).gh p).mem a) : M'.mem a := by
  rcases h with h | h
  · exact .inl h
  · rcases List.mem_cons.mp h with h | h
    · rw [h]; exact .inr hp
    · exact .inr (x.gk a h)
theorem Ext.ugmem (x : Ext M H M' H') {a : Addr} (h : (M'.ug M).mem a) : M'.mem a := by
  rcases h with h | h
  · exact .inl h
  · exact .inr (x.gk a h)
theorem Ext.mem (x : Ext M H M' H') {a : Addr} (h : M'.mem a) : M.mem a ∨ H a = none := by
  rcases h with h | h
  · exact (x.sub a h).elim (fun z => .inl (.inl z)) .inr
  · exact (x.gs a h).elim (fun z => .inl (.inr z)) .inr
/-- a new list in the making -/
theorem Ext.ghost {p : Addr} {o : HO} (hp : H p = none) : Ext M H (M.gh p) (upd H p o) :=
  ⟨fun _ _ h => .inl h, fun a h => (List.mem_cons.mp h).elim (fun e => .inr (by rw [e]; exact hp)) .inl, fun _ h => List.mem_cons_of_mem _ h, fun _ _ h => .inl h, fun _ h => h, fun a u h _ => by rw [upd_ne (ne_of_none h hp)]; exact h, fun a h => by
    by_cases e : a = p
    · subst e; exact hp
    · rw [upd_ne e] at h; exact h⟩
theorem Ext.lsr (x : Ext M H M' H') {a : Addr} {vs : List V} (h : LsR K M H a vs) : LsR K M' H' a vs := by
  rcases h with ⟨h, n⟩ | h
  · have nc : some a ∉ M.c := fun z => n (.inl z)
    refine .inl ⟨?_, fun z => ?_⟩
    · rcases h with h | ⟨o, h⟩
      · exact .inl (x.keep a _ h (.inl nc))
      · exact .inr ⟨o, x.keep a _ h (.inl nc)⟩
    · rcases x.mem z with z | z
      · exact n z
      · rcases h with h | ⟨o, h⟩ <;> (rw [h] at z; cases z)
  · exact .inr h
theorem Ext.sqt (x : Ext M H M' H') {a : Addr} {vs : List V} (h : SqT K H a vs) : SqT K H' a vs := by
  rcases h with (h | ⟨o, h⟩) | h
  · exact .inl (.inl (x.keep a _ h (.inr fun _ z => nomatch z)))
  · exact .inl (.inr ⟨o, x.keep a _ h (.inr fun _ z => nomatch z)⟩)
  · exact .inr h
theorem Rl.mono (x : Ext M H M' H') {v : V} {d : D} (h : Rl K M H v d) : Rl K M' H' v d := Rl.move (fun _ _ => x.lsr) (fun _ _ => x.sqt) d v h
theorem RlA.mono (x : Ext M H M' H') {v : List V} {d : List D} (h : RlA K M H v d) : RlA K M' H' v d := RlA.move (fun _ _ => x.lsr) (fun _ _ => x.sqt) d v h
theorem LsR.anti (hs : ∀ a, M'.mem a → M.mem a) {a : Addr} {vs : List V} (h : LsR K M H a vs) : LsR K M' H a vs := by
  rcases h with ⟨h, n⟩ | h
  · exact .inl ⟨h, fun z => n (hs a z)⟩
  · exact .inr h
theorem Rl.anti (hs : ∀ a, M'.mem a → M.mem a) {v : V} {d : D} (h : Rl K M H v d) : Rl K M' H v d := Rl.move (fun _ _ => LsR.anti hs) (fun _ _ z => z) d v h
theorem RlA.anti (hs : ∀ a, M'.mem a → M.mem a) {v : List V} {d : List D} (h : RlA K M H v d) : RlA K M' H v d := RlA.move (fun _ _ => LsR.anti hs) (fun _ _ z => z) d v h
theorem Adr.mem_gh {a p : Addr} (h : M.mem a) : (M.gh p).mem a := h.elim .inl fun h => .inr (List.mem_cons_of_mem _ h)
theorem Rl.ungh {p : Addr} {v : V} {d : D} (h : Rl K (M.gh p) H v d) : Rl K M H v d := h.anti fun _ => Adr.mem_gh
theorem RlA.ungh {p : Addr} {v : List V} {d : List D} (h : RlA K (M.gh p) H v d) : RlA K M H v d := h.anti fun _ => Adr.mem_gh
/-- something new at p -/
theorem Ext.new {p : Addr} {o : HO} (hp : H p = none) : Ext M H M (upd H p o) :=
  ⟨fun _ _ h => .inl h, fun _ h => .inl h, fun _ h => h, fun _ _ h => .inl h, fun _ h => h, fun a u h _ => by rw [upd_ne (ne_of_none h hp)]; exact h, fun a h => by
    by_cases e : a = p
    · subst e; exact hp
    · rw [upd_ne e] at h; exact h⟩
theorem Rl.fresh {p : Addr} {o : HO} (hp : H p = none) {v : V} {d : D} (h : Rl K M H v d) : Rl K (M.gh p) (upd H p o) v d :=
  Rl.move (fun a vs h => by
    rcases h with ⟨h, n⟩ | h
    · have ne : a ≠ p := by rcases h with h | ⟨u, h⟩ <;> exact ne_of_none h hp
      refine .inl ⟨?_, fun z => ?_⟩
      · rcases h with h | ⟨u, h⟩
        · exact .inl (by rw [upd_ne ne]; exact h)
        · exact .inr ⟨u, by rw [upd_ne ne]; exact h⟩
      · rcases z with z | z
        · exact n (.inl z)
        · rcases List.mem_cons.mp z with z | z
          · exact ne z
          · exact n (.inr z)
    · exact .inr h) (fun a vs h => (Ext.new (M := M) hp).sqt h) d v h
theorem RlA.fresh {p : Addr} {o : HO} (hp : H p = none) {v : List V} {d : List D} (h : RlA K M H v d) : RlA K (M.gh p) (upd H p o) v d := by
  induction d generalizing v with
  | nil => cases h; exact .nil
  | cons x ds ih => cases h with | cons h1 h2 => exact .cons (h1.fresh hp) (ih h2)
/-- a list in the making grows: nobody sees it -/
theorem Rl.grow {p : Addr} {vs ws : List V} (hg : M.mem p) (hp : H p = some (.lst vs)) {v : V} {d : D} (h : Rl K M H v d) : Rl K M (upd H p (.lst ws)) v d :=
  Rl.move (fun a vs h => by
    rcases h with ⟨h, n⟩ | h
    · have ne : a ≠ p := fun e => n (by rw [e]; exact hg)
      refine .inl ⟨?_, n⟩
      rcases h with h | ⟨u, h⟩
      · exact .inl (by rw [upd_ne ne]; exact h)
      · exact .inr ⟨u, by rw [upd_ne ne]; exact h⟩
    · exact .inr h) (fun a vs h => by
    rcases h with (h | ⟨o, h⟩) | h
    · exact .inl (.inl (by rw [upd_ne (ne_of h hp fun z => nomatch z)]; exact h))
    · exact .inl (.inr ⟨o, by rw [upd_ne (ne_of h hp fun z => nomatch z)]; exact h⟩)
    · exact .inr h) d v h
theorem RlA.grow {p : Addr} {us ws : List V} (hg : M.mem p) (hp : H p = some (.lst us)) {v : List V} {d : List D} (h : RlA K M H v d) : RlA K M (upd H p (.lst ws)) v d := by
  induction d generalizing v with
  | nil => cases h; exact .nil
  | cons x ds ih => cases h with | cons h1 h2 => exact .cons (h1.grow hg hp) (ih h2)

structure Ok (K : PySem.W.Frag) (M : Adr) (S : Sto) (H : Hp) : Prop where
  len : M.c.length = S.length
  inj : ∀ (i j : Nat) (a : Addr), M.c[i]? = some (some a) → M.c[j]? = some (some a) → i = j
  cell : ∀ (n : Nat) (xs : List D), S[n]? = some (some xs) → ∃ a vs, M.c[n]? = some (some a) ∧ H a = some (.lst vs) ∧ RlA K M H vs xs
  lst : ∀ a, M.mem a → ∃ vs, H a = some (.lst vs)
  dj : ∀ a, some a ∈ M.c → a ∉ M.g
theorem Ok.ext {S : Sto} (ok : Ok K M S H) (x : Ext M H M H') (hk : ∀ a, M.mem a → H' a = H a) : Ok K M S H' :=
  ⟨ok.len, ok.inj, fun n xs e => by
    obtain ⟨a, vs, e1, e2, e3⟩ := ok.cell n xs e
    exact ⟨a, vs, e1, by rw [hk a (.inl (List.mem_of_getElem? e1))]; exact e2, e3.mono x⟩, fun a h => by rw [hk a h]; exact ok.lst a h, ok.dj⟩
theorem Ok.new {S : Sto} (ok : Ok K M S H) {p : Addr} {o : HO} (hp : H p = none) : Ok K M S (upd H p o) :=
  ok.ext (Ext.new hp) fun a h => by
    obtain ⟨vs, e⟩ := ok.lst a h
    rw [upd_ne (ne_of_none e hp)]
theorem Ok.notin {S : Sto} (ok : Ok K M S H) {p : Addr} (hp : H p = none) : ¬ M.mem p := fun z => by
  obtain ⟨vs, e⟩ := ok.lst p z
  rw [e] at hp; cases hp
/-- a new list in the making -/
theorem Ok.ghost {S : Sto} (ok : Ok K M S H) {p : Addr} {vs : List V} (hp : H p = none) : Ok K (M.gh p) S (upd H p (.lst vs)) :=
  ⟨ok.len, ok.inj, fun n xs e => by
    obtain ⟨a, us, e1, e2, e3⟩ := ok.cell n xs e
    exact ⟨a, us, e1, by rw [upd_ne (ne_of_none e2 hp)]; exact e2, e3.fresh hp⟩, fun a h => by
    by_cases e : a = p
    · subst e; exact ⟨vs, upd_same⟩
    · rw [upd_ne e]
      refine ok.lst a ?_
      rcases h with h | h
      · exact .inl h
      · rcases List.mem_cons.mp h with h | h
        · exact absurd h e
        · exact .inr h, fun a h z => by
    rcases List.mem_cons.mp z with z | z
    · obtain ⟨us, e⟩ := ok.lst a (.inl h)
      rw [z, hp] at e; cases e
    · exact ok.dj a h z⟩
theorem Ok.ug {S : Sto} (ok : Ok K M' S H) {M : Adr} (hg : ∀ a, a ∈ M.g → a ∈ M'.g) : Ok K (M'.ug M) S H :=
  have hs : ∀ a, (M'.ug M).mem a → M'.mem a := fun a z => z.elim .inl fun z => .inr (hg a z)
  ⟨ok.len, ok.inj, fun n xs e => by
    obtain ⟨a, us, e1, e2, e3⟩ := ok.cell n xs e
    exact ⟨a, us, e1, e2, e3.anti hs⟩, fun a h => ok.lst a (hs a h), fun a h z => ok.dj a h (hg a z)⟩
theorem Ok.grow {S : Sto} {p : Addr} {vs ws : List V} (ok : Ok K M S H) (hg : M.mem p) (hp : H p = some (.lst vs)) (hc : some p ∉ M.c) : Ok K M S (upd H p (.lst ws)) :=
  ⟨ok.len, ok.inj, fun n xs e => by
    obtain ⟨a, us, e1, e2, e3⟩ := ok.cell n xs e
    have ne : a ≠ p := fun z => hc (by rw [← z]; exact List.mem_of_getElem? e1)
    exact ⟨a, us, e1, by rw [upd_ne ne]; exact e2, e3.grow hg hp⟩, fun a h => by
    by_cases e : a = p
    · subst e; exact ⟨ws, upd_same⟩
    · rw [upd_ne e]; exact ok.lst a h, ok.dj⟩

/-- a cell is written -/
theorem Ok.setc {S : Sto} (ok : Ok K M S H) {n : Nat} {a : Addr} {vs ws : List V} {xs : List D} (hm : M.c[n]? = some (some a)) (hp : H a = some (.lst vs)) (r : RlA K M H ws xs) : Ok K M (S.set n (some xs)) (upd H a (.lst ws)) :=
  have hmem : M.mem a := .inl (List.mem_of_getElem? hm)
  ⟨by rw [List.length_set]; exact ok.len, ok.inj, fun j ys e => by
    by_cases hj : n = j
    · subst hj
      have hl : n < S.length := by
        have := (List.getElem?_eq_some_iff.mp e).1
        rw [List.length_set] at this; exact this
      rw [List.getElem?_set_self hl] at e
      cases e
      exact ⟨a, ws, hm, upd_same, r.grow hmem hp⟩
    · rw [List.getElem?_set_ne hj] at e
      obtain ⟨c, us, e1, e2, e3⟩ := ok.cell j ys e
      have ne : c ≠ a := fun z => hj (ok.inj n j a hm (by rw [← z]; exact e1))
      exact ⟨c, us, e1, by rw [upd_ne ne]; exact e2, e3.grow hmem hp⟩, fun c h => by
    by_cases e : c = a
    · subst e; exact ⟨ws, upd_same⟩
    · rw [upd_ne e]; exact ok.lst c h, ok.dj⟩
theorem Ext.setc {a : Addr} {vs ws : List V} (hm : some a ∈ M.c) (hp : H a = some (.lst vs)) : Ext M H M (upd H a (.lst ws)) :=
  ⟨fun _ _ h => .inl h, fun _ h => .inl h, fun _ h => h, fun _ _ h => .inl h, fun _ h => h, fun c o h q => by
    by_cases e : c = a
    · subst e
      rw [hp] at h
      cases h
      rcases q with q | q
      · exact absurd hm q
      · exact absurd rfl (q vs)
    · rw [upd_ne e]; exact h, fun c h => by
    by_cases e : c = a
    · subst e; rw [upd_same] at h; cases h
    · rw [upd_ne e] at h; exact h⟩
/-- a new cell -/
def Adr.add (M : Adr) (a : Addr) : Adr := ⟨M.c ++ [some a], M.g⟩
theorem Adr.addmem {a p : Addr} (h : (M.add p).mem a) : (M.gh p).mem a := by
  rcases h with h | h
  · rcases List.mem_append.mp h with h | h
    · exact .inl h
    · have e : a = p := by simpa using h
      rw [e]; exact .inr List.mem_cons_self
  · exact .inr (List.mem_cons_of_mem _ h)
theorem Ext.add {a : Addr} (h0 : H a = none) (x : Ext M H M' H') : Ext M H (M'.add a) H' :=
  ⟨fun n c h => by
    by_cases hn : n < M'.c.length
    · exact x.subn n c (by rw [← List.getElem?_append_left hn]; exact h)
    · have hn : M'.c.length ≤ n := by omega
      have h : (M'.c ++ [some a])[n]? = some (some c) := h
      rw [List.getElem?_append_right hn] at h
      have e : n - M'.c.length = 0 := by
        have := (List.getElem?_eq_some_iff.mp h).1
        simp at this
        omega
      rw [e] at h
      cases h
      exact .inr ⟨Nat.le_trans x.len hn, h0⟩, x.gs, x.gk, fun n c h => by
    have hn : n < M'.c.length := by
      have := (List.getElem?_eq_some_iff.mp h).1
      exact Nat.lt_of_lt_of_le this x.len
    show (M'.c ++ [some a])[n]? = some (some c) ∨ (M'.c ++ [some a])[n]? = some none
    rw [List.getElem?_append_left hn]
    exact x.pos n c h, fun n h => by
    have hn : n < M'.c.length := by
      have := (List.getElem?_eq_some_iff.mp h).1
      exact Nat.lt_of_lt_of_le this x.len
    show (M'.c ++ [some a])[n]? = some none
    rw [List.getElem?_append_left hn]
    exact x.dead n h, x.keep, x.free⟩
theorem Ok.add {S : Sto} (ok : Ok K M S H) {a : Addr} {vs : List V} {xs : List D} (hp : H a = some (.lst vs)) (hn : ¬ M.mem a) (hr : ∀ (v : V) (d : D), Rl K M H v d → Rl K (M.add a) H v d ∨ True) (r : RlA K (M.gh a) H vs xs)
    (hc : ∀ (n : Nat) (ys : List D), S[n]? = some (some ys) → ∃ c us, M.c[n]? = some (some c) ∧ H c = some (.lst us) ∧ RlA K (M.gh a) H us ys) : Ok K (M.add a) (S ++ [some xs]) H :=
  ⟨by show (M.c ++ [some a]).length = _; rw [List.length_append, List.length_append, ok.len]; rfl, fun i j c h1 h2 => by
    have h1 : (M.c ++ [some a])[i]? = some (some c) := h1
    have h2 : (M.c ++ [some a])[j]? = some (some c) := h2
    have key : ∀ i, (M.c ++ [some a])[i]? = some (some c) → (M.c[i]? = some (some c)) ∨ (i = M.c.length ∧ c = a) := fun i h => by
      by_cases hi : i < M.c.length
      · rw [List.getElem?_append_left hi] at h; exact .inl h
      · rw [List.getElem?_append_right (by omega)] at h
        have e : i - M.c.length = 0 := by
          have := (List.getElem?_eq_some_iff.mp h).1
          simp at this
          omega
        rw [e] at h
        cases h
        exact .inr ⟨by omega, rfl⟩
    rcases key i h1 with k1 | ⟨k1, e1⟩
    · rcases key j h2 with k2 | ⟨k2, e2⟩
      · exact ok.inj i j c k1 k2
      · exact absurd (Or.inl (List.mem_of_getElem? (e2 ▸ k1))) hn
    · rcases key j h2 with k2 | ⟨k2, e2⟩
      · exact absurd (Or.inl (List.mem_of_getElem? (e1 ▸ k2))) hn
      · omega, fun n ys e => by
    by_cases hl : n < S.length
    · rw [List.getElem?_append_left hl] at e
      obtain ⟨c, us, e1, e2, e3⟩ := hc n ys e
      exact ⟨c, us, by show (M.c ++ [some a])[n]? = _; rw [List.getElem?_append_left (by rw [ok.len]; exact hl)]; exact e1, e2, e3.anti fun _ => Adr.addmem⟩
    · rw [List.getElem?_append_right (by omega)] at e
      have e0 : n - S.length = 0 := by
        have := (List.getElem?_eq_some_iff.mp e).1
        simp at this
        omega
      rw [e0] at e
      cases e
      refine ⟨a, vs, ?_, hp, r.anti fun _ => Adr.addmem⟩
      show (M.c ++ [some a])[n]? = _
      rw [List.getElem?_append_right (by rw [ok.len]; omega), ok.len, e0]
      rfl, fun c h => by
    rcases Adr.addmem h with h | h
    · exact ok.lst c (.inl h)
    · rcases List.mem_cons.mp h with h | h
      · rw [h]; exact ⟨vs, hp⟩
      · exact ok.lst c (.inr h), fun c h z => by
    rcases List.mem_append.mp h with h | h
    · exact ok.dj c h z
    · have e : c = a := by simpa using h
      rw [e] at z
      exact hn (.inr z)⟩
def RSl (K : PySem.W.Frag) (M : Adr) (H : Hp) (v : V) : Sl → Prop
  | .d x => Rl K M H v x
  | .loc n => ∃ a, v = .ref a ∧ (M.c[n]? = some (some a) ∨ M.c[n]? = some none)
theorem RSl.mono (x : Ext M H M' H') {v : V} : ∀ {s : Sl}, RSl K M H v s → RSl K M' H' v s
  | .d _, h => Rl.mono x h
  | .loc n, ⟨a, e, h⟩ => ⟨a, e, h.elim (fun h => x.pos n a h) fun h => .inr (x.dead n h)⟩
inductive RSlA (K : PySem.W.Frag) (M : Adr) (H : Hp) : List V → List Sl → Prop
  | nil : RSlA K M H [] []
  | cons {v : V} {vs : List V} {d : Sl} {ds : List Sl} : RSl K M H v d → RSlA K M H vs ds → RSlA K M H (v :: vs) (d :: ds)
theorem RSlA.mono (x : Ext M H M' H') {v : List V} {s : List Sl} (h : RSlA K M H v s) : RSlA K M' H' v s := by
  induction h with
  | nil => exact .nil
  | cons h1 _ ih => exact .cons (h1.mono x) ih
theorem RSlA.len {vs : List V} {ds : List Sl} (h : RSlA K M H vs ds) : vs.length = ds.length := by
  induction h with
  | nil => rfl
  | cons h1 _ ih => rw [List.length_cons, List.length_cons, ih]
theorem RSl.fresh {p : Addr} {o : HO} (hp : H p = none) {v : V} : ∀ {s : Sl}, RSl K M H v s → RSl K (M.gh p) (upd H p o) v s
  | .d _, h => Rl.fresh hp h
  | .loc n, h => h
theorem RSl.grow {p : Addr} {vs ws : List V} (hg : M.mem p) (hp : H p = some (.lst vs)) {v : V} : ∀ {s : Sl}, RSl K M H v s → RSl K M (upd H p (.lst ws)) v s
  | .d _, h => Rl.grow hg hp h
  | .loc n, h => h
theorem RSl.ungh {p : Addr} {v : V} : ∀ {s : Sl}, RSl K (M.gh p) H v s → RSl K M H v s
  | .d _, h => Rl.ungh h
  | .loc n, h => h
structure RSt (K : PySem.W.Frag) (M : Adr) (H : Hp) (σ : St) (ρ : Rho) : Prop where
  len : σ.length = ρ.length
  at_ : ∀ (i : Nat) (s : Sl), ρ[i]? = some (some s) → ∃ v, σ[i]? = some (some v) ∧ RSl K M H v s
theorem RSt.mono {σ : St} {ρ : Rho} (x : Ext M H M' H') (h : RSt K M H σ ρ) : RSt K M' H' σ ρ :=
  ⟨h.len, fun i s e => by obtain ⟨v, e1, e2⟩ := h.at_ i s e; exact ⟨v, e1, e2.mono x⟩⟩
theorem RSt.fresh {σ : St} {ρ : Rho} {p : Addr} {o : HO} (hp : H p = none) (h : RSt K M H σ ρ) : RSt K (M.gh p) (upd H p o) σ ρ :=
  ⟨h.len, fun i s e => by obtain ⟨v, e1, e2⟩ := h.at_ i s e; exact ⟨v, e1, e2.fresh hp⟩⟩
theorem RSt.grow {σ : St} {ρ : Rho} {p : Addr} {vs ws : List V} (hg : M.mem p) (hp : H p = some (.lst vs)) (h : RSt K M H σ ρ) : RSt K M (upd H p (.lst ws)) σ ρ :=
  ⟨h.len, fun i s e => by obtain ⟨v, e1, e2⟩ := h.at_ i s e; exact ⟨v, e1, e2.grow hg hp⟩⟩
theorem RSt.ungh {σ : St} {ρ : Rho} {p : Addr} (h : RSt K (M.gh p) H σ ρ) : RSt K M H σ ρ :=
  ⟨h.len, fun i s e => by obtain ⟨v, e1, e2⟩ := h.at_ i s e; exact ⟨v, e1, e2.ungh⟩⟩
theorem RSt.set {σ : St} {ρ : Rho} (h : RSt K M H σ ρ) {v : V} {s : Sl} (r : RSl K M H v s) (i : Nat) : RSt K M H (σ.set i (some v)) (ρ.set i (some s)) :=
  ⟨by rw [List.length_set, List.length_set, h.len], fun j t e => by
    by_cases hj : i = j
    · subst hj
      have hl : i < ρ.length := by
        have := (List.getElem?_eq_some_iff.mp e).1
        rw [List.length_set] at this; exact this
      rw [List.getElem?_set_self hl] at e
      cases e
      exact ⟨v, List.getElem?_set_self (by rw [h.len]; exact hl), r⟩
    · rw [List.getElem?_set_ne hj] at e ⊢
      exact h.at_ j t e⟩
end
end G
set_option Elab.async false
set_option linter.all false
set_option autoImplicit false
set_option maxRecDepth 100000
set_option maxHeartbeats 4000000
namespace G
open PySem L2

abbrev ME := Rho → Sto → Option (D × Sto)
abbrev MN := Rho → Sto → Option (List D × Sto)
abbrev MT := Rho → Sto → Option (Bool × Sto)
abbrev MA := Rho → Sto → Option (List Sl × Sto)
inductive Out where
  | nx | bk | ct
  | rt (r : Rt)
abbrev MS := Rho → Sto → Option (Out × Rho × Sto)
abbrev MG := D → Rho → Option Rho

section
variable (K : PySem.W.Frag)
def PE1 (M : Adr) (H : Hp) (S' : Sto) (d : D) (Q : VK) : Prop := ∀ v H' M', Ext M H M' H' → Ok K M' S' H' → Rl K M' H' v d → Q v H'
def ImE (t : TE) (m : ME) : Prop := ∀ (σ : St) (H : Hp) (M : Adr) (ρ : Rho) (S : Sto) (d : D) (S' : Sto), RSt K M H σ ρ → Ok K M S H → m ρ S = some (d, S') → ∀ Q : VK, PE1 K M H S' d Q → t σ H Q
/-- a list or a tuple to be read -/
def ImQ (t : TE) (m : MN) : Prop := ∀ (σ : St) (H : Hp) (M : Adr) (ρ : Rho) (S : Sto) (xs : List D) (S' : Sto), RSt K M H σ ρ → Ok K M S H → m ρ S = some (xs, S') → ∀ Q : VK,
  (∀ a vs H' M', Ext M H M' H' → Ok K M' S' H' → (SqL K H' a vs ∨ SqT K H' a vs) → RlA K M' H' vs xs → Q (.ref a) H') → t σ H Q
/-- a list to be read -/
def ImL (t : TE) (m : MN) : Prop := ∀ (σ : St) (H : Hp) (M : Adr) (ρ : Rho) (S : Sto) (xs : List D) (S' : Sto), RSt K M H σ ρ → Ok K M S H → m ρ S = some (xs, S') → ∀ Q : VK,
  (∀ a vs H' M', Ext M H M' H' → Ok K M' S' H' → SqL K H' a vs → RlA K M' H' vs xs → Q (.ref a) H') → t σ H Q
/-- a new list -/
def ImN (t : TE) (m : MN) : Prop := ∀ (σ : St) (H : Hp) (M : Adr) (ρ : Rho) (S : Sto) (xs : List D) (S' : Sto), RSt K M H σ ρ → Ok K M S H → m ρ S = some (xs, S') → ∀ Q : VK,
  (∀ a vs H' M', Ext M H M' H' → Ok K M' S' H' → H a = none → H' a = some (.lst vs) → a ∈ M'.g → RlA K M' H' vs xs → Q (.ref a) H') → t σ H Q
def ImT (t : TT) (m : MT) : Prop := ∀ (σ : St) (H : Hp) (M : Adr) (ρ : Rho) (S : Sto) (b : Bool) (S' : Sto), RSt K M H σ ρ → Ok K M S H → m ρ S = some (b, S') → ∀ Q : Bool → Hp → Prop,
  (∀ H' M', Ext M H M' H' → Ok K M' S' H' → Q b H') → t σ H Q
def ImA (t : TA) (m : MA) : Prop := ∀ (σ : St) (H : Hp) (M : Adr) (ρ : Rho) (S : Sto) (xs : List Sl) (S' : Sto), RSt K M H σ ρ → Ok K M S H → m ρ S = some (xs, S') → ∀ Q : List V → Hp → Prop,
  (∀ vs H' M', Ext M H M' H' → Ok K M' S' H' → RSlA K M' H' vs xs → Q vs H') → t σ H Q
def ImG (g : TG) (m : MG) : Prop := ∀ (σ : St) (H : Hp) (M : Adr) (ρ ρ' : Rho) (v : V) (d : D), RSt K M H σ ρ → Rl K M H v d → m d ρ = some ρ' → ∀ Q : St → Hp → Prop,
  (∀ σ', RSt K M H σ' ρ' → Q σ' H) → g v σ H Q
/-- two-place operations -/
def ImR (r : R2) (f : D → D → Option D) : Prop := ∀ (H : Hp) (M : Adr) (S : Sto) (x y : V) (dx dy dz : D), Ok K M S H → Rl K M H x dx → Rl K M H y dy → f dx dy = some dz → ∀ Q : VK,
  PE1 K M H S dz Q → r x y H Q
def ImU (r : V → Hp → VK → Prop) (f : D → Option D) : Prop := ∀ (H : Hp) (M : Adr) (S : Sto) (x : V) (dx dz : D), Ok K M S H → Rl K M H x dx → f dx = some dz → ∀ Q : VK,
  PE1 K M H S dz Q → r x H Q
/-- calls of builtins by data -/
def ImB (r : List V → Hp → VK → Prop) (f : List D → Option D) : Prop := ∀ (H : Hp) (M : Adr) (S : Sto) (xs : List V) (ds : List D) (dz : D), Ok K M S H → RlA K M H xs ds → f ds = some dz → ∀ Q : VK,
  PE1 K M H S dz Q → r xs H Q
end
section
variable {K : PySem.W.Frag} {M M' : Adr} {H H' : Hp} {S S' : Sto} {ta tb tc te : TE} {ma mb mc me : ME} {d : D}
theorem PE1.here {Q : VK} {v : V} (q : PE1 K M H S d Q) (ok : Ok K M S H) (r : Rl K M H v d) : Q v H := q v H M .refl ok r
theorem PE1.ext {Q : VK} (q : PE1 K M H S' d Q) (x : Ext M H M' H') : PE1 K M' H' S' d Q := fun v H2 M2 x2 ok r => q v H2 M2 (x.trans x2) ok r

/-! ### names, constants -/
def mVar (i : Nat) : ME := fun ρ S => match ρ[i]? with
  | some (some (.d x)) => some (x, S)
  | _ => none
theorem im_var (i : Nat) : ImE K (tVar i) (mVar i) := fun σ H M ρ S d S' hr ok h Q q => by
  unfold mVar at h
  split at h
  · rename_i x e
    cases h
    obtain ⟨v, e1, r⟩ := hr.at_ i _ e
    exact ⟨v, e1, q.here ok r⟩
  · cases h
def mC (d : D) : ME := fun _ S => some (d, S)
theorem im_c {v : V} (r : ∀ M H, Rl K M H v d) : ImE K (tC v) (mC d) := fun σ H M ρ S d' S' hr ok h Q q => by
  cases h
  exact q.here ok (r _ _)
theorem im_int (i : Int) : ImE K (tC (.int i)) (mC (.int i)) := im_c fun _ _ => .int i
theorem im_bl (b : Bool) : ImE K (tC (.bl b)) (mC (.bool b)) := im_c fun _ _ => .bl b
theorem im_non : ImE K (tC .non) (mC .none) := im_c fun _ _ => .non
theorem im_str (x : Str) : ImE K (tC (.str x)) (mC (.str x)) := im_c fun _ _ => .str x
def mQVar (i : Nat) : MN := fun ρ S => match ρ[i]? with
  | some (some (.d (.list xs))) => some (xs, S)
  | some (some (.d (.tuple xs))) => some (xs, S)
  | some (some (.loc n)) => (S[n]?.join).map fun xs => (xs, S)
  | _ => none
theorem im_qvar (i : Nat) : ImQ K (tVar i) (mQVar i) := fun σ H M ρ S d S' hr ok h Q q => by
  unfold mQVar at h
  split at h
  · rename_i xs e
    cases h
    obtain ⟨v, e1, r⟩ := hr.at_ i _ e
    cases r with
    | lst h1 h2 => exact ⟨_, e1, q _ _ H M .refl ok (.inl h1.sql) h2⟩
  · rename_i xs e
    cases h
    obtain ⟨v, e1, r⟩ := hr.at_ i _ e
    cases r with
    | tup h1 h2 => exact ⟨_, e1, q _ _ H M .refl ok (.inr h1) h2⟩
  · rename_i n e
    cases e2 : S[n]? with
    | none => rw [e2] at h; cases h
    | some c =>
      cases c with
      | none => rw [e2] at h; cases h
      | some xs =>
        rw [e2] at h
        cases h
        obtain ⟨v, e1, a, rfl, r⟩ := hr.at_ i _ e
        obtain ⟨a', vs, m1, m2, m3⟩ := ok.cell n _ e2
        have ea : a = a' := by rcases r with r | r <;> (rw [r] at m1; cases m1); rfl
        subst ea
        exact ⟨_, e1, q _ _ H M .refl ok (.inl (.inl (.inl m2))) m3⟩
  · cases h
def mLVar (i : Nat) : MN := fun ρ S => match ρ[i]? with
  | some (some (.d (.list xs))) => some (xs, S)
  | some (some (.loc n)) => (S[n]?.join).map fun xs => (xs, S)
  | _ => none
theorem im_lvar (i : Nat) : ImL K (tVar i) (mLVar i) := fun σ H M ρ S d S' hr ok h Q q => by
  unfold mLVar at h
  split at h
  · rename_i xs e
    cases h
    obtain ⟨v, e1, r⟩ := hr.at_ i _ e
    cases r with
    | lst h1 h2 => exact ⟨_, e1, q _ _ H M .refl ok h1.sql h2⟩
  · rename_i n e
    cases e2 : S[n]? with
    | none => rw [e2] at h; cases h
    | some c =>
      cases c with
      | none => rw [e2] at h; cases h
      | some xs =>
        rw [e2] at h
        cases h
        obtain ⟨v, e1, a, rfl, r⟩ := hr.at_ i _ e
        obtain ⟨a', vs, m1, m2, m3⟩ := ok.cell n _ e2
        have ea : a = a' := by rcases r with r | r <;> (rw [r] at m1; cases m1); rfl
        subst ea
        exact ⟨_, e1, q _ _ H M .refl ok (.inl (.inl m2)) m3⟩
  · cases h

/-! ### from one reading to another -/
def asL (d : D) : Option (List D) := match d with
  | .list xs => some xs
  | _ => none
def asQ (d : D) : Option (List D) := match d with
  | .list xs => some xs
  | .tuple xs => some xs
  | _ => none
def mQE (m : ME) : MN := fun ρ S => (m ρ S).bind fun p => (asQ p.1).map fun xs => (xs, p.2)
def mLE (m : ME) : MN := fun ρ S => (m ρ S).bind fun p => (asL p.1).map fun xs => (xs, p.2)
def mEN (m : MN) : ME := fun ρ S => (m ρ S).map fun p => (.list p.1, p.2)
theorem im_qe (h : ImE K te me) : ImQ K te (mQE me) := fun σ H M ρ S xs S' hr ok e Q q => by
  unfold mQE at e
  cases e1 : me ρ S with
  | none => rw [e1] at e; cases e
  | some p =>
    rw [e1] at e
    obtain ⟨d, S1⟩ := p
    refine h σ H M ρ S d S1 hr ok e1 Q fun v H' M' x ok' r => ?_
    cases d with
    | list ys => cases e; cases r with | lst h1 h2 => exact q _ _ _ _ x ok' (.inl h1.sql) h2
    | tuple ys => cases e; cases r with | tup h1 h2 => exact q _ _ _ _ x ok' (.inr h1) h2
    | _ => cases e
theorem im_le (h : ImE K te me) : ImL K te (mLE me) := fun σ H M ρ S xs S' hr ok e Q q => by
  unfold mLE at e
  cases e1 : me ρ S with
  | none => rw [e1] at e; cases e
  | some p =>
    rw [e1] at e
    obtain ⟨d, S1⟩ := p
    refine h σ H M ρ S d S1 hr ok e1 Q fun v H' M' x ok' r => ?_
    cases d with
    | list ys => cases e; cases r with | lst h1 h2 => exact q _ _ _ _ x ok' h1.sql h2
    | _ => cases e
theorem im_qn {m : MN} (h : ImN K te m) : ImQ K te m := fun σ H M ρ S xs S' hr ok e Q q =>
  h σ H M ρ S xs S' hr ok e Q fun a vs H' M' x ok' n0 n1 n2 r => q a vs H' M' x ok' (.inl (.inl (.inl n1))) r
theorem im_ln {m : MN} (h : ImN K te m) : ImL K te m := fun σ H M ρ S xs S' hr ok e Q q =>
  h σ H M ρ S xs S' hr ok e Q fun a vs H' M' x ok' n0 n1 n2 r => q a vs H' M' x ok' (.inl (.inl n1)) r
theorem im_ql {m : MN} (h : ImL K te m) : ImQ K te m := fun σ H M ρ S xs S' hr ok e Q q =>
  h σ H M ρ S xs S' hr ok e Q fun a vs H' M' x ok' n1 r => q a vs H' M' x ok' (.inl n1) r
theorem im_en {m : MN} (h : ImN K te m) : ImE K te (mEN m) := fun σ H M ρ S d S' hr ok e Q q => by
  unfold mEN at e
  cases e1 : m ρ S with
  | none => rw [e1] at e; cases e
  | some p =>
    rw [e1] at e
    cases e
    exact h σ H M ρ S p.1 p.2 hr ok e1 Q fun a vs H' M' x ok' n0 n1 n2 r => q _ _ (M'.ug M) x.ungh (ok'.ug x.gk) (.lst (.inl ⟨.inl n1, fun z => z.elim (fun z => ok'.dj a z n2) fun z => ok.notin n0 (.inr z)⟩) (r.anti fun _ z => x.ugmem z))

/-! ### operators -/
def mOp (f : D → D → Option D) (ma mb : ME) : ME := fun ρ S => (ma ρ S).bind fun p => (mb ρ p.2).bind fun q => (f p.1 q.1).map fun z => (z, q.2)
theorem im_op {r : R2} {f : D → D → Option D} (hr : ImR K r f) (ha : ImE K ta ma) (hb : ImE K tb mb) : ImE K (tOp r ta tb) (mOp f ma mb) := fun σ H M ρ S d S' hs ok e Q q => by
  unfold mOp at e
  cases e1 : ma ρ S with
  | none => rw [e1] at e; cases e
  | some p =>
    rw [e1] at e
    cases e2 : mb ρ p.2 with
    | none => rw [Option.bind_some, e2] at e; cases e
    | some p2 =>
      rw [Option.bind_some, e2, Option.bind_some] at e
      cases e3 : f p.1 p2.1 with
      | none => rw [e3] at e; cases e
      | some z =>
        rw [e3] at e
        cases e
        refine ha σ H M ρ S p.1 p.2 hs ok e1 _ fun x H1 M1 x1 ok1 r1 => ?_
        refine hb σ H1 M1 ρ p.2 p2.1 p2.2 (hs.mono x1) ok1 e2 _ fun y H2 M2 x2 ok2 r2 => ?_
        exact hr H2 M2 p2.2 x y p.1 p2.1 d ok2 (r1.mono x2) r2 e3 Q (q.ext (x1.trans x2))
def mUn (f : D → Option D) (ma : ME) : ME := fun ρ S => (ma ρ S).bind fun p => (f p.1).map fun z => (z, p.2)
theorem im_un {r : V → Hp → VK → Prop} {f : D → Option D} (hr : ImU K r f) (ha : ImE K ta ma) : ImE K (tUn r ta) (mUn f ma) := fun σ H M ρ S d S' hs ok e Q q => by
  unfold mUn at e
  cases e1 : ma ρ S with
  | none => rw [e1] at e; cases e
  | some p =>
    rw [e1, Option.bind_some] at e
    cases e3 : f p.1 with
    | none => rw [e3] at e; cases e
    | some z =>
      rw [e3] at e
      cases e
      refine ha σ H M ρ S p.1 p.2 hs ok e1 _ fun x H1 M1 x1 ok1 r1 => ?_
      exact hr H1 M1 p.2 x p.1 d ok1 r1 e3 Q (q.ext x1)
def fII (C : Int → Int → Bool) (g : Int → Int → D) : D → D → Option D := fun x y => match x, y with
  | .int i, .int j => if C i j then some (g i j) else none
  | _, _ => none
theorem imr_I {C : Int → Int → Prop} {Cb : Int → Int → Bool} {g : Int → Int → V} {gd : Int → Int → D} (hC : ∀ i j, Cb i j = true → C i j) (hg : ∀ i j M H, Rl K M H (g i j) (gd i j)) : ImR K (rI C g) (fII Cb gd) := fun H M S x y dx dy dz ok rx ry e Q q => by
  unfold fII at e
  split at e
  · cases rx
    cases ry
    split at e
    · cases e
      exact ⟨_, _, rfl, rfl, hC _ _ (by assumption), q.here ok (hg _ _ _ _)⟩
    · cases e
  · cases e
def fI0 (g : Int → Int → D) : D → D → Option D := fun x y => match x, y with
  | .int i, .int j => some (g i j)
  | _, _ => none
theorem imr_I0 {g : Int → Int → V} {gd : Int → Int → D} (hg : ∀ i j M H, Rl K M H (g i j) (gd i j)) : ImR K (rI0 g) (fI0 gd) := fun H M S x y dx dy dz ok rx ry e Q q => by
  unfold fI0 at e
  split at e
  · cases rx
    cases ry
    cases e
    exact ⟨_, _, rfl, rfl, q.here ok (hg _ _ _ _)⟩
  · cases e
theorem imr_or {r1 r2 : R2} {f1 f2 : D → D → Option D} (h1 : ImR K r1 f1) (h2 : ImR K r2 f2) : ImR K (fun x y H Q => r1 x y H Q ∨ r2 x y H Q) (fun x y => (f1 x y).or (f2 x y)) := fun H M S x y dx dy dz ok rx ry e Q q => by
  have e : (f1 dx dy).or (f2 dx dy) = some dz := e
  cases e1 : f1 dx dy with
  | some z => rw [e1] at e; cases e; exact .inl (h1 H M S x y dx dy _ ok rx ry e1 Q q)
  | none => rw [e1] at e; exact .inr (h2 H M S x y dx dy dz ok rx ry e Q q)
theorem OpR.or {X : Cx} {f : Value → Value → Sem Value} {r1 r2 : R2} (h1 : OpR X f r1) (h2 : OpR X f r2) : OpR X f (fun x y H Q => r1 x y H Q ∨ r2 x y H Q) := fun pins s σ H x y v u Q I rx ry h =>
  h.elim (h1 pins s σ H x y v u Q I rx ry) (h2 pins s σ H x y v u Q I rx ry)

def bMul (i j : Int) : Bool := decide (i.natAbs < 18446744073709551616) || decide (j.natAbs < 18446744073709551616)
def bDiv (_ j : Int) : Bool := decide (0 < j ∧ j < 1073741824)
def bMod (_ j : Int) : Bool := decide (0 < j)
def bPow (i j : Int) : Bool := decide (0 ≤ j ∧ j ≤ 1000 ∧ i.natAbs < 1000000)
theorem bMul_ok (i j : Int) (h : bMul i j = true) : CMul i j := by
  unfold bMul at h
  rw [Bool.or_eq_true, decide_eq_true_eq, decide_eq_true_eq] at h
  rcases h with h | h
  · exact .inl (by omega)
  · exact .inr (by omega)
theorem bDiv_ok (i j : Int) (h : bDiv i j = true) : CDiv i j := by
  have h : 0 < j ∧ j < 1073741824 := of_decide_eq_true h
  exact h
theorem bPow_ok (i j : Int) (h : bPow i j = true) : CPow i j := by
  have h := of_decide_eq_true h
  exact ⟨h.1, by omega, by omega⟩
/-- tuples -/
def fTT (x y : D) : Option D := match x, y with
  | .tuple xs, .tuple ys => if xs.length + ys.length ≤ 1000000 then some (.tuple (xs ++ ys)) else none
  | _, _ => none
theorem imr_tt : ImR K (rCatA K) fTT := fun H M S x y dx dy dz ok rx ry e Q q => by
  unfold fTT at e
  split at e
  · cases rx with
    | tup h1 h2 =>
      cases ry with
      | tup h3 h4 =>
        split at e
        · rename_i hz
          cases e
          have l1 := h2.len
          have l2 := h4.len
          refine ⟨_, _, _, _, rfl, rfl, h1, h3, Nat.le_trans (by omega) (show 1000000 ≤ sizeLine by decide), fun e => ?_, fun n e => ?_, fun n1 n2 p hp => ?_⟩
          · subst e
            cases h2
            exact q.here ok (.tup h3 h4)
          · subst e
            cases h4
            exact q.here ok (by rw [List.append_nil]; exact .tup h1 h2)
          · exact q _ _ M (Ext.new hp) (ok.new hp) (.tup (.inl (.inl upd_same)) ((h2.append h4).mono (Ext.new hp)))
        · cases e
  · cases e
theorem op_addX {X : Cx} : OpR X (binaryOp .Add) (fun x y H Q => rI0 (fun i j => .int (i + j)) x y H Q ∨ rCatA X.K x y H Q) := OpR.or op_add op_catA
def fAdd (x y : D) : Option D := (fI0 (fun i j => .int (i + j)) x y).or (fTT x y)
theorem imr_add : ImR K (fun x y H Q => rI0 (fun i j => .int (i + j)) x y H Q ∨ rCatA K x y H Q) fAdd := imr_or (imr_I0 fun _ _ _ _ => .int _) imr_tt
def fSub (x y : D) : Option D := fI0 (fun i j => .int (i - j)) x y
theorem imr_sub : ImR K (rI0 fun i j => .int (i - j)) fSub := imr_I0 fun _ _ _ _ => .int _
def fMul (x y : D) : Option D := fII bMul (fun i j => .int (i * j)) x y
theorem imr_mul : ImR K (rI CMul fun i j => .int (i * j)) fMul := imr_I bMul_ok fun _ _ _ _ => .int _
def fDiv (x y : D) : Option D := fII bDiv (fun i j => .int (i / j)) x y
theorem imr_div : ImR K (rI CDiv fun i j => .int (i / j)) fDiv := imr_I bDiv_ok fun _ _ _ _ => .int _
def fMod (x y : D) : Option D := fII bMod (fun i j => .int (i % j)) x y
theorem imr_mod : ImR K (rI (fun _ j => 0 < j) fun i j => .int (i % j)) fMod := imr_I (fun _ _ h => of_decide_eq_true h) fun _ _ _ _ => .int _
def fPow (x y : D) : Option D := fII bPow (fun i j => .int (i ^ j.toNat)) x y
theorem imr_pow : ImR K (rI CPow fun i j => .int (i ^ j.toNat)) fPow := imr_I bPow_ok fun _ _ _ _ => .int _
def fLt (x y : D) : Option D := fI0 (fun i j => .bool (decide (i < j))) x y
def fLe (x y : D) : Option D := fI0 (fun i j => .bool (decide (i ≤ j))) x y
def fGt (x y : D) : Option D := fI0 (fun i j => .bool (decide (j < i))) x y
def fGe (x y : D) : Option D := fI0 (fun i j => .bool (decide (j ≤ i))) x y
theorem imr_lt : ImR K (rI0 fun i j => .bl (decide (i < j))) fLt := imr_I0 fun _ _ _ _ => .bl _
theorem imr_le : ImR K (rI0 fun i j => .bl (decide (i ≤ j))) fLe := imr_I0 fun _ _ _ _ => .bl _
theorem imr_gt : ImR K (rI0 fun i j => .bl (decide (j < i))) fGt := imr_I0 fun _ _ _ _ => .bl _
theorem imr_ge : ImR K (rI0 fun i j => .bl (decide (j ≤ i))) fGe := imr_I0 fun _ _ _ _ => .bl _
def fEq (x y : D) : Option D := if SeqAt.shaped x && SeqAt.shaped y then some (.bool (PyData.eqv x y)) else none
def fNe (x y : D) : Option D := if SeqAt.shaped x && SeqAt.shaped y then some (.bool (!PyData.eqv x y)) else none
theorem imr_eq : ImR K (rEqD K) fEq := fun H M S x y dx dy dz ok rx ry e Q q => by
  unfold fEq at e
  split at e
  · rename_i h
    rw [Bool.and_eq_true] at h
    cases e
    exact ⟨dx, dy, rx.dp, ry.dp, h.1, h.2, q.here ok (.bl _)⟩
  · cases e
theorem imr_ne : ImR K (rNeD K) fNe := fun H M S x y dx dy dz ok rx ry e Q q => by
  unfold fNe at e
  split at e
  · rename_i h
    rw [Bool.and_eq_true] at h
    cases e
    exact ⟨dx, dy, rx.dp, ry.dp, h.1, h.2, q.here ok (.bl _)⟩
  · cases e
def isN (d : D) : Bool := match d with | .none => true | _ => false
theorem Rl.isN {v : V} (r : Rl K M H v d) : decide (v = .non) = isN d := by
  cases r <;> rfl
def fIsN (x y : D) : Option D := match y with
  | .none => some (.bool (isN x))
  | _ => none
def fNotN (x y : D) : Option D := match y with
  | .none => some (.bool (!isN x))
  | _ => none
theorem imr_isN : ImR K (fun x y H Q => y = .non ∧ Q (.bl (decide (x = .non))) H) fIsN := fun H M S x y dx dy dz ok rx ry e Q q => by
  cases ry <;> first | (cases e) | skip
  exact ⟨rfl, by rw [rx.isN]; exact q.here ok (.bl _)⟩
theorem imr_notN : ImR K (fun x y H Q => y = .non ∧ Q (.bl (!decide (x = .non))) H) fNotN := fun H M S x y dx dy dz ok rx ry e Q q => by
  cases ry <;> first | (cases e) | skip
  exact ⟨rfl, by rw [rx.isN]; exact q.here ok (.bl _)⟩
def fIsB (x y : D) : Option D := match x, y with
  | .bool a, .bool b => some (.bool (decide (a = b)))
  | _, _ => none
def fNotB (x y : D) : Option D := match x, y with
  | .bool a, .bool b => some (.bool (!decide (a = b)))
  | _, _ => none
theorem imr_isB : ImR K (fun x y H Q => ∃ a b, x = .bl a ∧ y = .bl b ∧ Q (.bl (decide (a = b))) H) fIsB := fun H M S x y dx dy dz ok rx ry e Q q => by
  cases rx <;> cases ry <;> first | (cases e; done) | skip
  cases e
  exact ⟨_, _, rfl, rfl, q.here ok (.bl _)⟩
theorem imr_notB : ImR K (fun x y H Q => ∃ a b, x = .bl a ∧ y = .bl b ∧ Q (.bl (!decide (a = b))) H) fNotB := fun H M S x y dx dy dz ok rx ry e Q q => by
  cases rx <;> cases ry <;> first | (cases e; done) | skip
  cases e
  exact ⟨_, _, rfl, rfl, q.here ok (.bl _)⟩
def fNeg (x : D) : Option D := match x with
  | .int i => some (.int (-i))
  | _ => none
theorem imu_neg : ImU K (rU fun i => .int (-i)) fNeg := fun H M S x dx dz ok rx e Q q => by
  cases rx <;> cases e
  exact ⟨_, rfl, q.here ok (.int _)⟩
end
end G
set_option Elab.async false
set_option linter.all false
set_option autoImplicit false
set_option maxRecDepth 100000
set_option maxHeartbeats 4000000
namespace G
open PySem L2
section
variable {K : PySem.W.Frag} {M M' : Adr} {H H' : Hp} {S S' : Sto} {ta tb tc te : TE} {ma mb mc me : ME} {d : D}

/-! ### subscripts -/
theorem RlA.atI {vs : List V} {ds : List D} (h : RlA K M H vs ds) {i : Int} {d : D} (e : atI ds i = some d) : ∃ v, atI vs i = some v ∧ Rl K M H v d := by
  unfold L2.atI at e ⊢
  rw [h.len]
  cases q : ixN ds.length i with
  | none => rw [q] at e; cases e
  | some j => rw [q] at e; exact h.get e
def fIx (x y : D) : Option D := match y with
  | .int i => (asQ x).bind fun xs => atI xs i
  | _ => none
theorem imr_ix : ImR K (rIx K) fIx := fun H M S x y dx dy dz ok rx ry e Q q => by
  cases ry <;> first | (cases e; done) | skip
  rename_i i
  cases dx with
  | list xs =>
    cases rx with
    | lst h1 h2 =>
      obtain ⟨v, e1, r⟩ := h2.atI (show L2.atI xs i = some dz from e)
      exact .inl ⟨_, _, _, v, rfl, rfl, h1.sql, e1, q.here ok r⟩
  | tuple xs =>
    cases rx with
    | tup h1 h2 =>
      obtain ⟨v, e1, r⟩ := h2.atI (show L2.atI xs i = some dz from e)
      exact .inr (.inl ⟨_, _, _, v, rfl, rfl, h1, e1, q.here ok r⟩)
  | _ => cases e
theorem qvar_at {σ : St} {ρ : Rho} {i : Nat} {xs : List D} (hr : RSt K M H σ ρ) (ok : Ok K M S H) (h : mQVar i ρ S = some (xs, S')) :
    S' = S ∧ ∃ a vs, σ[i]? = some (some (.ref a)) ∧ (SqL K H a vs ∨ SqT K H a vs) ∧ RlA K M H vs xs := by
  unfold mQVar at h
  split at h
  · rename_i xs e
    cases h
    obtain ⟨v, e1, r⟩ := hr.at_ i _ e
    cases r with
    | lst h1 h2 => exact ⟨rfl, _, _, e1, .inl h1.sql, h2⟩
  · rename_i xs e
    cases h
    obtain ⟨v, e1, r⟩ := hr.at_ i _ e
    cases r with
    | tup h1 h2 => exact ⟨rfl, _, _, e1, .inr h1, h2⟩
  · rename_i n e
    cases e2 : S[n]? with
    | none => rw [e2] at h; cases h
    | some c =>
      cases c with
      | none => rw [e2] at h; cases h
      | some xs =>
        rw [e2] at h
        cases h
        obtain ⟨v, e1, a, rfl, r⟩ := hr.at_ i _ e
        obtain ⟨a', vs, m1, m2, m3⟩ := ok.cell n _ e2
        have ea : a = a' := by rcases r with r | r <;> (rw [r] at m1; cases m1); rfl
        subst ea
        exact ⟨rfl, _, _, e1, .inl (.inl (.inl m2)), m3⟩
  · cases h
/-- x[e], x a name: a list that may change is read behind e -/
def mIxV (i : Nat) (m : ME) : ME := fun ρ S => (m ρ S).bind fun p => match p.1 with
  | .int k => (mQVar i ρ p.2).bind fun q => (atI q.1 k).map fun z => (z, p.2)
  | _ => none
theorem qvar_some {σ : St} {ρ : Rho} {i : Nat} {p : List D × Sto} (hr : RSt K M H σ ρ) (h : mQVar i ρ S = some p) : ∃ v, σ[i]? = some (some v) := by
  unfold mQVar at h
  split at h
  · rename_i e; obtain ⟨v, e1, _⟩ := hr.at_ i _ e; exact ⟨v, e1⟩
  · rename_i e; obtain ⟨v, e1, _⟩ := hr.at_ i _ e; exact ⟨v, e1⟩
  · rename_i e; obtain ⟨v, e1, _⟩ := hr.at_ i _ e; exact ⟨v, e1⟩
  · cases h
theorem im_ixV {i : Nat} (h : ImE K te me) : ImE K (tOp (rIx K) (tVar i) te) (mIxV i me) := fun σ H M ρ S d S' hs ok e Q q => by
  unfold mIxV at e
  cases e1 : me ρ S with
  | none => rw [e1] at e; cases e
  | some p =>
    rw [e1, Option.bind_some] at e
    obtain ⟨y, S1⟩ := p
    cases y <;> first | (cases e; done) | skip
    rename_i k
    cases e2 : mQVar i ρ S1 with
    | none => simp only [e2] at e; cases e
    | some p2 =>
      simp only [e2, Option.bind_some] at e
      cases e3 : atI p2.1 k with
      | none => rw [e3] at e; cases e
      | some z =>
        rw [e3] at e
        cases e
        obtain ⟨v, hv⟩ := qvar_some hs e2
        refine ⟨v, hv, ?_⟩
        refine h σ H M ρ S _ _ hs ok e1 _ fun y H1 M1 x1 ok1 r1 => ?_
        cases r1
        obtain ⟨_, a, vs, ha, sq, r⟩ := qvar_at (hs.mono x1) ok1 e2
        rw [hv] at ha
        cases ha
        obtain ⟨w, e4, r4⟩ := r.atI e3
        rcases sq with sq | sq
        · exact .inl ⟨_, _, _, w, rfl, rfl, sq, e4, q w H1 M1 x1 ok1 r4⟩
        · exact .inr (.inl ⟨_, _, _, w, rfl, rfl, sq, e4, q w H1 M1 x1 ok1 r4⟩)

/-! ### slices: of a tuple a tuple, of a list a new list -/
abbrev MO := Rho → Sto → Option (Option Int × Sto)
def ImO (K : PySem.W.Frag) (t : TO) (m : MO) : Prop := ∀ (σ : St) (H : Hp) (M : Adr) (ρ : Rho) (S : Sto) (o : Option Int) (S' : Sto), RSt K M H σ ρ → Ok K M S H → m ρ S = some (o, S') → ∀ Q : Option Int → Hp → Prop,
  (∀ H' M', Ext M H M' H' → Ok K M' S' H' → Q o H') → t σ H Q
def mO0 : MO := fun _ S => some (none, S)
def mO1 (m : ME) : MO := fun ρ S => (m ρ S).bind fun p => match p.1 with
  | .int i => some (some i, p.2)
  | _ => none
theorem im_o0 : ImO K tNoPart mO0 := fun σ H M ρ S o S' hs ok e Q q => by cases e; exact q H M .refl ok
theorem im_o1 (h : ImE K te me) : ImO K (tPart te) (mO1 me) := fun σ H M ρ S o S' hs ok e Q q => by
  unfold mO1 at e
  cases e1 : me ρ S with
  | none => rw [e1] at e; cases e
  | some p =>
    rw [e1, Option.bind_some] at e
    obtain ⟨y, S1⟩ := p
    cases y <;> cases e
    refine h σ H M ρ S _ _ hs ok e1 _ fun y H1 M1 x1 ok1 r1 => ?_
    cases r1
    exact ⟨_, rfl, q H1 M1 x1 ok1⟩
def cut {α : Type} (xs : List α) (lo hi : Option Int) : List α := (xs.drop (HT.sIx xs.length 0 lo)).take (HT.sIx xs.length xs.length hi - HT.sIx xs.length 0 lo)
theorem RlA.cut {vs : List V} {ds : List D} (h : RlA K M H vs ds) (lo hi : Option Int) : RlA K M H (cutV vs lo hi) (cut ds lo hi) := by
  unfold cutV G.cut
  rw [h.len]
  exact (h.drop _).take _
def mSlT (m : ME) (lo hi : MO) : ME := fun ρ S => (m ρ S).bind fun p => (lo ρ p.2).bind fun l => (hi ρ l.2).bind fun u => match p.1 with
  | .tuple xs => some (.tuple (cut xs l.1 u.1), u.2)
  | _ => none
theorem cut_all {α : Type} (xs : List α) (lo hi : Option Int) (h : HT.sIx xs.length 0 lo = 0 ∧ HT.sIx xs.length xs.length hi = xs.length) : cut xs lo hi = xs := by
  unfold cut
  rw [h.1, h.2, List.drop_zero, Nat.sub_zero, List.take_length]
theorem im_slT {tl th : TO} {ml mh : MO} (h : ImE K te me) (hl : ImO K tl ml) (hh : ImO K th mh) : ImE K (tSl (rSlA K) te tl th) (mSlT me ml mh) := fun σ H M ρ S d S' hs ok e Q q => by
  unfold mSlT at e
  cases e1 : me ρ S with
  | none => rw [e1] at e; cases e
  | some p =>
    rw [e1, Option.bind_some] at e
    cases e2 : ml ρ p.2 with
    | none => rw [e2] at e; cases e
    | some l =>
      rw [e2, Option.bind_some] at e
      cases e3 : mh ρ l.2 with
      | none => rw [e3] at e; cases e
      | some u =>
        rw [e3, Option.bind_some] at e
        obtain ⟨y, S1⟩ := p
        cases y <;> cases e
        rename_i xs
        refine h σ H M ρ S _ _ hs ok e1 _ fun y H1 M1 x1 ok1 r1 => ?_
        refine hl σ H1 M1 ρ _ l.1 l.2 (hs.mono x1) ok1 (by rw [e2]) _ fun H2 M2 x2 ok2 => ?_
        refine hh σ H2 M2 ρ _ u.1 u.2 (hs.mono (x1.trans x2)) ok2 (by rw [e3]) _ fun H3 M3 x3 ok3 => ?_
        have r3 := r1.mono (x2.trans x3)
        cases r3 with
        | tup h1 h2 =>
          rename_i a vs
          have hlen := h2.len
          refine ⟨_, _, rfl, h1, fun hw => ?_, fun hw p hp => ?_⟩
          · rw [cut_all xs _ _ (by rw [← hlen]; exact hw)] at q
            exact q _ H3 M3 (x1.trans (x2.trans x3)) ok3 (.tup h1 h2)
          · exact q _ _ M3 ((x1.trans (x2.trans x3)).trans (Ext.new hp)) (ok3.new hp) (.tup (.inl (.inl upd_same)) ((h2.cut _ _).mono (Ext.new hp)))
def mSlL (m : MN) (lo hi : MO) : MN := fun ρ S => (m ρ S).bind fun p => (lo ρ p.2).bind fun l => (hi ρ l.2).bind fun u => some (cut p.1 l.1 u.1, u.2)
/-- of a list that isn't changed by the bounds: a value -/
theorem im_slL {tl th : TO} {ml mh : MO} (h : ImE K te me) (hl : ImO K tl ml) (hh : ImO K th mh) : ImN K (tSl (rSlL K) te tl th) (mSlL (mLE me) ml mh) := fun σ H M ρ S d S' hs ok e Q q => by
  unfold mSlL mLE at e
  cases e1 : me ρ S with
  | none => rw [e1] at e; cases e
  | some p =>
    rw [e1, Option.bind_some] at e
    obtain ⟨y, S1⟩ := p
    cases y <;> first | (cases e; done) | skip
    rename_i xs
    have e : ((ml ρ S1).bind fun l => (mh ρ l.2).bind fun u => some (cut xs l.1 u.1, u.2)) = some (d, S') := e
    cases e2 : ml ρ S1 with
    | none => rw [e2] at e; cases e
    | some l =>
      rw [e2, Option.bind_some] at e
      cases e3 : mh ρ l.2 with
      | none => rw [e3] at e; cases e
      | some u =>
        rw [e3, Option.bind_some] at e
        cases e
        refine h σ H M ρ S _ _ hs ok e1 _ fun y H1 M1 x1 ok1 r1 => ?_
        refine hl σ H1 M1 ρ _ l.1 l.2 (hs.mono x1) ok1 (by rw [e2]) _ fun H2 M2 x2 ok2 => ?_
        refine hh σ H2 M2 ρ _ u.1 u.2 (hs.mono (x1.trans x2)) ok2 (by rw [e3]) _ fun H3 M3 x3 ok3 => ?_
        have r3 := r1.mono (x2.trans x3)
        have x := x1.trans (x2.trans x3)
        cases r3 with
        | lst h1 h2 => exact ⟨_, _, rfl, h1.sql, fun p hp => q p _ _ (M3.gh p) (x.trans (Ext.ghost hp)) (ok3.ghost hp) (x.free p hp) upd_same List.mem_cons_self ((h2.cut _ _).fresh hp)⟩

/-! ### argument lists, displays -/
def mA0 : MA := fun _ S => some ([], S)
def mA1 (m : ME) (r : MA) : MA := fun ρ S => (m ρ S).bind fun p => (r ρ p.2).map fun q => (.d p.1 :: q.1, q.2)
def mAV (i : Nat) (r : MA) : MA := fun ρ S => match ρ[i]? with
  | some (some s) => (r ρ S).map fun q => (s :: q.1, q.2)
  | _ => none
theorem im_a0 : ImA K tNil mA0 := fun σ H M ρ S o S' hs ok e Q q => by cases e; exact q [] H M .refl ok .nil
theorem im_a1 {t : TA} {m : MA} (h : ImE K te me) (ht : ImA K t m) : ImA K (tCons te t) (mA1 me m) := fun σ H M ρ S o S' hs ok e Q q => by
  unfold mA1 at e
  cases e1 : me ρ S with
  | none => rw [e1] at e; cases e
  | some p =>
    rw [e1, Option.bind_some] at e
    cases e2 : m ρ p.2 with
    | none => rw [e2] at e; cases e
    | some l =>
      rw [e2] at e
      cases e
      refine h σ H M ρ S p.1 p.2 hs ok e1 _ fun y H1 M1 x1 ok1 r1 => ?_
      refine ht σ H1 M1 ρ _ l.1 l.2 (hs.mono x1) ok1 e2 _ fun vs H2 M2 x2 ok2 r2 => ?_
      exact q _ H2 M2 (x1.trans x2) ok2 (.cons (show Rl K M2 H2 y p.1 from r1.mono x2) r2)
theorem im_av {i : Nat} {t : TA} {m : MA} (ht : ImA K t m) : ImA K (tCons (tVar i) t) (mAV i m) := fun σ H M ρ S o S' hs ok e Q q => by
  unfold mAV at e
  split at e <;> first | (cases e; done) | skip
  rename_i s e1
  cases e2 : m ρ S with
  | none => rw [e2] at e; cases e
  | some l =>
    rw [e2] at e
    cases e
    obtain ⟨v, hv, r⟩ := hs.at_ i s e1
    refine ⟨v, hv, ?_⟩
    refine ht σ H M ρ _ l.1 l.2 hs ok e2 _ fun vs H2 M2 x2 ok2 r2 => ?_
    exact q _ H2 M2 x2 ok2 (.cons (r.mono x2) r2)
/-- arguments that are data -/
def datas : List Sl → Option (List D)
  | [] => some []
  | .d x :: r => (datas r).map (x :: ·)
  | _ :: _ => none
theorem RSlA.datas {vs : List V} {ss : List Sl} {ds : List D} (h : RSlA K M H vs ss) (e : datas ss = some ds) : RlA K M H vs ds := by
  induction h generalizing ds with
  | nil => cases e; exact .nil
  | @cons v vs s ss h1 h2 ih =>
    cases s with
    | loc n => cases e
    | d x =>
      unfold G.datas at e
      cases e2 : G.datas ss with
      | none => rw [e2] at e; cases e
      | some es => rw [e2] at e; cases e; exact .cons h1 (ih e2)
def mDs (m : MA) : Rho → Sto → Option (List D × Sto) := fun ρ S => (m ρ S).bind fun p => (datas p.1).map fun ds => (ds, p.2)
def mTup (m : MA) : ME := fun ρ S => (mDs m ρ S).bind fun p => if p.1.length ≤ 1000000 then some (.tuple p.1, p.2) else none
def mLst (m : MA) : MN := fun ρ S => (mDs m ρ S).bind fun p => if p.1.length ≤ 1000000 then some (p.1, p.2) else none
theorem big : 1000000 ≤ sizeLine := by decide
theorem mDs_ok {t : TA} {m : MA} (ht : ImA K t m) {σ : St} {H : Hp} {M : Adr} {ρ : Rho} {S : Sto} {ds : List D} {S' : Sto} (hs : RSt K M H σ ρ) (ok : Ok K M S H) (e : mDs m ρ S = some (ds, S')) {Q : List V → Hp → Prop}
    (q : ∀ vs H' M', Ext M H M' H' → Ok K M' S' H' → RlA K M' H' vs ds → Q vs H') : t σ H Q := by
  unfold mDs at e
  cases e1 : m ρ S with
  | none => rw [e1] at e; cases e
  | some p =>
    rw [e1, Option.bind_some] at e
    cases e2 : datas p.1 with
    | none => rw [e2] at e; cases e
    | some es =>
      rw [e2] at e
      cases e
      exact ht σ H M ρ S p.1 p.2 hs ok e1 Q fun vs H' M' x ok' r => q vs H' M' x ok' (r.datas e2)
theorem im_tup {t : TA} {m : MA} (ht : ImA K t m) : ImE K (tTup t) (mTup m) := fun σ H M ρ S o S' hs ok e Q q => by
  unfold mTup at e
  cases e1 : mDs m ρ S with
  | none => rw [e1] at e; cases e
  | some p =>
    rw [e1, Option.bind_some] at e
    split at e <;> cases e
    rename_i hz
    refine mDs_ok ht hs ok e1 fun vs H1 M1 x1 ok1 r1 => ⟨Nat.le_trans (by rw [r1.len]; exact hz) big, fun p hp => ?_⟩
    exact q _ _ M1 (x1.trans (Ext.new hp)) (ok1.new hp) (.tup (.inl (.inl upd_same)) (r1.mono (Ext.new hp)))
theorem im_lst {t : TA} {m : MA} (ht : ImA K t m) : ImN K (tLst t) (mLst m) := fun σ H M ρ S o S' hs ok e Q q => by
  unfold mLst at e
  cases e1 : mDs m ρ S with
  | none => rw [e1] at e; cases e
  | some p =>
    rw [e1, Option.bind_some] at e
    split at e <;> cases e
    rename_i hz
    refine mDs_ok ht hs ok e1 fun vs H1 M1 x1 ok1 r1 => ⟨Nat.le_trans (by rw [r1.len]; exact hz) big, fun p hp => ?_⟩
    exact q _ _ _ (M1.gh p) (x1.trans (Ext.ghost hp)) (ok1.ghost hp) (x1.free p hp) upd_same List.mem_cons_self (r1.fresh hp)
/-- two lists joined -/
def mCat (ma mb : MN) : MN := fun ρ S => (ma ρ S).bind fun p => (mb ρ p.2).bind fun q => if p.1.length + q.1.length ≤ 1000000 then some (p.1 ++ q.1, q.2) else none
theorem im_catN {m1 m2 : MN} (h1 : ImN K ta m1) (h2 : ImN K tb m2) : ImN K (tOp rCat ta tb) (mCat m1 m2) := fun σ H M ρ S o S' hs ok e Q q => by
  unfold mCat at e
  cases e1 : m1 ρ S with
  | none => rw [e1] at e; cases e
  | some p =>
    rw [e1, Option.bind_some] at e
    cases e2 : m2 ρ p.2 with
    | none => rw [e2] at e; cases e
    | some p2 =>
      rw [e2, Option.bind_some] at e
      split at e <;> cases e
      rename_i hz
      refine h1 σ H M ρ S p.1 p.2 hs ok e1 _ fun a vs H1 M1 x1 ok1 n0 n1 n2 r1 => ?_
      refine h2 σ H1 M1 ρ _ p2.1 p2.2 (hs.mono x1) ok1 e2 _ fun b ws H2 M2 x2 ok2 k0 k1 k2 r2 => ?_
      have n3 := x2.keep a _ n1 (.inl fun z => ok1.dj a z n2)
      have r3 := r1.mono x2
      refine ⟨a, b, vs, ws, rfl, rfl, n3, k1, Nat.le_trans (by rw [r1.len, r2.len]; exact hz) big, fun p hp => ?_⟩
      have x := x1.trans x2
      exact q p _ _ (M2.gh p) (x.trans (Ext.ghost hp)) (ok2.ghost hp) (x.free p hp) upd_same List.mem_cons_self ((r3.append r2).fresh hp)

/-! ### tests -/
def mTB (m : ME) : MT := fun ρ S => (m ρ S).bind fun p => match p.1 with
  | .bool b => some (b, p.2)
  | _ => none
theorem im_tb (h : ImE K te me) : ImT K (tB te) (mTB me) := fun σ H M ρ S b S' hs ok e Q q => by
  unfold mTB at e
  cases e1 : me ρ S with
  | none => rw [e1] at e; cases e
  | some p =>
    rw [e1, Option.bind_some] at e
    obtain ⟨y, S1⟩ := p
    cases y <;> cases e
    refine h σ H M ρ S _ _ hs ok e1 _ fun y H1 M1 x1 ok1 r1 => ?_
    cases r1
    exact ⟨b, rfl, q H1 M1 x1 ok1⟩
theorem im_tt (h : ImE K te me) : ImT K (tTest te) (mTB me) := im_tb h
def tru (d : D) : Option Bool := match d with
  | .none => some false
  | .bool b => some b
  | .int i => some (i != 0)
  | .list xs => some (!xs.isEmpty)
  | .tuple xs => some (!xs.isEmpty)
  | _ => none
def mTru (m : ME) : MT := fun ρ S => (m ρ S).bind fun p => (tru p.1).map fun b => (b, p.2)
def mTruQ (m : MN) : MT := fun ρ S => (m ρ S).map fun p => (!p.1.isEmpty, p.2)
def tTru (K : PySem.W.Frag) (ta : TE) : TT := fun σ H Q => ta σ H fun x H' => ∃ k, TruV K x H' k ∧ Q k H'
theorem RlA.emp {vs : List V} {ds : List D} (h : RlA K M H vs ds) : (!vs.isEmpty) = !ds.isEmpty := by cases h <;> rfl
theorem im_tru (h : ImE K te me) : ImT K (tTru K te) (mTru me) := fun σ H M ρ S b S' hs ok e Q q => by
  unfold mTru at e
  cases e1 : me ρ S with
  | none => rw [e1] at e; cases e
  | some p =>
    rw [e1, Option.bind_some] at e
    obtain ⟨y, S1⟩ := p
    refine h σ H M ρ S _ _ hs ok e1 _ fun v H1 M1 x1 ok1 r1 => ?_
    cases r1 with
    | non => cases e; exact ⟨_, rfl, q H1 M1 x1 ok1⟩
    | bl c => cases e; exact ⟨_, rfl, q H1 M1 x1 ok1⟩
    | int i => cases e; exact ⟨_, rfl, q H1 M1 x1 ok1⟩
    | str s => cases e
    | lst h1 h2 => cases e; exact ⟨_, .inl ⟨_, h1.sql, h2.emp.symm⟩, q H1 M1 x1 ok1⟩
    | tup h1 h2 => cases e; exact ⟨_, .inr (.inl ⟨_, h1, h2.emp.symm⟩), q H1 M1 x1 ok1⟩
theorem im_truQ {m : MN} (h : ImQ K te m) : ImT K (tTru K te) (mTruQ m) := fun σ H M ρ S b S' hs ok e Q q => by
  unfold mTruQ at e
  cases e1 : m ρ S with
  | none => rw [e1] at e; cases e
  | some p =>
    rw [e1] at e
    cases e
    refine h σ H M ρ S _ _ hs ok e1 _ fun a vs H1 M1 x1 ok1 sq r => ?_
    rcases sq with sq | sq
    · exact ⟨_, .inl ⟨_, sq, r.emp.symm⟩, q H1 M1 x1 ok1⟩
    · exact ⟨_, .inr (.inl ⟨_, sq, r.emp.symm⟩), q H1 M1 x1 ok1⟩
def mAnd (a b : MT) : MT := fun ρ S => (a ρ S).bind fun p => if p.1 then b ρ p.2 else some (false, p.2)
def mOr (a b : MT) : MT := fun ρ S => (a ρ S).bind fun p => if p.1 then some (true, p.2) else b ρ p.2
def mNot (a : MT) : MT := fun ρ S => (a ρ S).map fun p => (!p.1, p.2)
theorem im_and {t u : TT} {a b : MT} (h1 : ImT K t a) (h2 : ImT K u b) : ImT K (tAnd t u) (mAnd a b) := fun σ H M ρ S c S' hs ok e Q q => by
  unfold mAnd at e
  cases e1 : a ρ S with
  | none => rw [e1] at e; cases e
  | some p =>
    rw [e1, Option.bind_some] at e
    obtain ⟨y, S1⟩ := p
    refine h1 σ H M ρ S _ _ hs ok e1 _ fun H1 M1 x1 ok1 => ?_
    cases y with
    | true =>
      show u σ H1 Q
      exact h2 σ H1 M1 ρ S1 c S' (hs.mono x1) ok1 e Q fun H2 M2 x2 ok2 => q H2 M2 (x1.trans x2) ok2
    | false => cases e; exact q H1 M1 x1 ok1
theorem im_or {t u : TT} {a b : MT} (h1 : ImT K t a) (h2 : ImT K u b) : ImT K (tOr t u) (mOr a b) := fun σ H M ρ S c S' hs ok e Q q => by
  unfold mOr at e
  cases e1 : a ρ S with
  | none => rw [e1] at e; cases e
  | some p =>
    rw [e1, Option.bind_some] at e
    obtain ⟨y, S1⟩ := p
    refine h1 σ H M ρ S _ _ hs ok e1 _ fun H1 M1 x1 ok1 => ?_
    cases y with
    | false =>
      show u σ H1 Q
      exact h2 σ H1 M1 ρ S1 c S' (hs.mono x1) ok1 e Q fun H2 M2 x2 ok2 => q H2 M2 (x1.trans x2) ok2
    | true => cases e; exact q H1 M1 x1 ok1
theorem im_not {t : TT} {a : MT} (h1 : ImT K t a) : ImT K (tNot t) (mNot a) := fun σ H M ρ S c S' hs ok e Q q => by
  unfold mNot at e
  cases e1 : a ρ S with
  | none => rw [e1] at e; cases e
  | some p =>
    rw [e1] at e
    cases e
    exact h1 σ H M ρ S _ _ hs ok e1 _ fun H1 M1 x1 ok1 => q H1 M1 x1 ok1
/-- as values -/
def mAndV (a b : ME) : ME := fun ρ S => (a ρ S).bind fun p => match p.1 with
  | .bool true => b ρ p.2
  | .bool false => some (.bool false, p.2)
  | _ => none
def mOrV (a b : ME) : ME := fun ρ S => (a ρ S).bind fun p => match p.1 with
  | .bool false => b ρ p.2
  | .bool true => some (.bool true, p.2)
  | _ => none
def mNotV (a : ME) : ME := fun ρ S => (a ρ S).bind fun p => match p.1 with
  | .bool b => some (.bool (!b), p.2)
  | _ => none
theorem im_andV (h1 : ImE K ta ma) (h2 : ImE K tb mb) : ImE K (tAndV ta tb) (mAndV ma mb) := fun σ H M ρ S c S' hs ok e Q q => by
  unfold mAndV at e
  cases e1 : ma ρ S with
  | none => rw [e1] at e; cases e
  | some p =>
    rw [e1, Option.bind_some] at e
    obtain ⟨y, S1⟩ := p
    refine h1 σ H M ρ S _ _ hs ok e1 _ fun v H1 M1 x1 ok1 r1 => ?_
    cases r1 <;> first | (cases e; done) | skip
    rename_i b
    cases b with
    | true => exact ⟨true, rfl, h2 σ H1 M1 ρ S1 c S' (hs.mono x1) ok1 e Q (q.ext x1)⟩
    | false => cases e; exact ⟨false, rfl, q _ H1 M1 x1 ok1 (.bl _)⟩
theorem im_orV (h1 : ImE K ta ma) (h2 : ImE K tb mb) : ImE K (tOrV ta tb) (mOrV ma mb) := fun σ H M ρ S c S' hs ok e Q q => by
  unfold mOrV at e
  cases e1 : ma ρ S with
  | none => rw [e1] at e; cases e
  | some p =>
    rw [e1, Option.bind_some] at e
    obtain ⟨y, S1⟩ := p
    refine h1 σ H M ρ S _ _ hs ok e1 _ fun v H1 M1 x1 ok1 r1 => ?_
    cases r1 <;> first | (cases e; done) | skip
    rename_i b
    cases b with
    | false => exact ⟨false, rfl, h2 σ H1 M1 ρ S1 c S' (hs.mono x1) ok1 e Q (q.ext x1)⟩
    | true => cases e; exact ⟨true, rfl, q _ H1 M1 x1 ok1 (.bl _)⟩
theorem im_notV (h1 : ImE K ta ma) : ImE K (tNotV ta) (mNotV ma) := fun σ H M ρ S c S' hs ok e Q q => by
  unfold mNotV at e
  cases e1 : ma ρ S with
  | none => rw [e1] at e; cases e
  | some p =>
    rw [e1, Option.bind_some] at e
    obtain ⟨y, S1⟩ := p
    refine h1 σ H M ρ S _ _ hs ok e1 _ fun v H1 M1 x1 ok1 r1 => ?_
    cases r1 <;> cases e
    exact ⟨_, rfl, q _ H1 M1 x1 ok1 (.bl _)⟩
def mIf (c : MT) (a b : ME) : ME := fun ρ S => (c ρ S).bind fun p => if p.1 then a ρ p.2 else b ρ p.2
theorem im_if {t : TT} {c : MT} (h : ImT K t c) (h1 : ImE K ta ma) (h2 : ImE K tb mb) : ImE K (tIf t ta tb) (mIf c ma mb) := fun σ H M ρ S d S' hs ok e Q q => by
  unfold mIf at e
  cases e1 : c ρ S with
  | none => rw [e1] at e; cases e
  | some p =>
    rw [e1, Option.bind_some] at e
    obtain ⟨y, S1⟩ := p
    refine h σ H M ρ S _ _ hs ok e1 _ fun H1 M1 x1 ok1 => ?_
    cases y with
    | true =>
      show ta σ H1 Q
      exact h1 σ H1 M1 ρ S1 d S' (hs.mono x1) ok1 e Q (q.ext x1)
    | false =>
      show tb σ H1 Q
      exact h2 σ H1 M1 ρ S1 d S' (hs.mono x1) ok1 e Q (q.ext x1)
/-- a op1 b op2 c -/
def mChain (f g : D → D → Option D) (ma mb mc : ME) : ME := fun ρ S => (ma ρ S).bind fun p => (mb ρ p.2).bind fun q => (f p.1 q.1).bind fun z => match z with
  | .bool true => (mc ρ q.2).bind fun u => (g q.1 u.1).map fun w => (w, u.2)
  | .bool false => some (.bool false, q.2)
  | _ => none
theorem im_chain {r r' : R2} {f g : D → D → Option D} (hf : ImR K r f) (hg : ImR K r' g) (ha : ImE K ta ma) (hb : ImE K tb mb) (hc : ImE K tc mc) : ImE K (tChain r r' ta tb tc) (mChain f g ma mb mc) := fun σ H M ρ S d S' hs ok e Q q => by
  unfold mChain at e
  cases e1 : ma ρ S with
  | none => rw [e1] at e; cases e
  | some p =>
    rw [e1, Option.bind_some] at e
    cases e2 : mb ρ p.2 with
    | none => rw [e2] at e; cases e
    | some p2 =>
      rw [e2, Option.bind_some] at e
      cases e3 : f p.1 p2.1 with
      | none => rw [e3] at e; cases e
      | some z =>
        rw [e3, Option.bind_some] at e
        refine ha σ H M ρ S p.1 p.2 hs ok e1 _ fun x H1 M1 x1 ok1 r1 => ?_
        refine hb σ H1 M1 ρ p.2 p2.1 p2.2 (hs.mono x1) ok1 e2 _ fun y H2 M2 x2 ok2 r2 => ?_
        refine hf H2 M2 p2.2 x y p.1 p2.1 z ok2 (r1.mono x2) r2 e3 _ fun v H3 M3 x3 ok3 r3 => ?_
        have x := x1.trans (x2.trans x3)
        cases r3 <;> first | (cases e; done) | skip
        rename_i b
        cases b with
        | false => cases e; exact ⟨false, rfl, q _ H3 M3 x ok3 (.bl _)⟩
        | true =>
          refine ⟨true, rfl, ?_⟩
          show tc σ H3 fun w' H4 => r' y w' H4 Q
          simp only at e
          cases e4 : mc ρ p2.2 with
          | none => rw [e4] at e; cases e
          | some u =>
            rw [e4, Option.bind_some] at e
            cases e5 : g p2.1 u.1 with
            | none => rw [e5] at e; cases e
            | some w =>
              rw [e5] at e
              cases e
              refine hc σ H3 M3 ρ p2.2 u.1 u.2 (hs.mono x) ok3 e4 _ fun w' H4 M4 x4 ok4 r4 => ?_
              exact hg H4 M4 u.2 y w' p2.1 u.1 d ok4 (r2.mono (x3.trans x4)) r4 e5 Q (q.ext (x.trans x4))
end
end G
set_option Elab.async false
set_option linter.all false
set_option autoImplicit false
set_option maxRecDepth 100000
set_option maxHeartbeats 4000000
namespace G
open PySem L2
section
variable {K : PySem.W.Frag} {M M' : Adr} {H H' : Hp} {S S' : Sto} {ta tb tc te : TE} {ma mb mc me : ME} {d : D}

/-! ### builtins -/
def mLen (m : MN) : ME := fun ρ S => (m ρ S).map fun p => (.int p.1.length, p.2)
theorem im_len {m : MN} (h : ImQ K te m) : ImE K (tCB (fun xs H Q => ∃ p ys, xs = [.ref p] ∧ (SqL K H p ys ∨ SqT K H p ys) ∧ Q (.int ys.length) H) (tCons te tNil)) (mLen m) := fun σ H M ρ S b S' hs ok e Q q => by
  unfold mLen at e
  cases e1 : m ρ S with
  | none => rw [e1] at e; cases e
  | some p =>
    rw [e1] at e
    cases e
    refine h σ H M ρ S _ _ hs ok e1 _ fun a vs H1 M1 x1 ok1 sq r => ?_
    exact ⟨a, vs, rfl, sq, q _ H1 M1 x1 ok1 (by rw [r.len]; exact .int _)⟩
def bools : List D → Option (List Bool)
  | [] => some []
  | .bool b :: r => (bools r).map (b :: ·)
  | _ :: _ => none
theorem RlA.bools {vs : List V} {ds : List D} {bs : List Bool} (h : RlA K M H vs ds) (e : bools ds = some bs) : vs = bs.map V.bl := by
  induction ds generalizing vs bs with
  | nil => cases h; cases e; rfl
  | cons d ds ih =>
    cases h with
    | cons h1 h2 =>
      cases h1 <;> first | (cases e; done) | skip
      rename_i b
      unfold G.bools at e
      cases e2 : G.bools ds with
      | none => rw [e2] at e; cases e
      | some es => rw [e2] at e; cases e; rw [ih h2 e2]; rfl
def mBools (g : List Bool → Bool) (m : MN) : ME := fun ρ S => (m ρ S).bind fun p => (bools p.1).map fun bs => (.bool (g bs), p.2)
theorem im_bools {g : List Bool → Bool} {m : MN} (h : ImL K te m) : ImE K (tCB (fun vs H Q => ∃ (a : Addr) (bs : List Bool), vs = [V.ref a] ∧ SqL K H a (bs.map V.bl) ∧ Q (.bl (g bs)) H) (tCons te tNil)) (mBools g m) := fun σ H M ρ S b S' hs ok e Q q => by
  unfold mBools at e
  cases e1 : m ρ S with
  | none => rw [e1] at e; cases e
  | some p =>
    rw [e1, Option.bind_some] at e
    cases e2 : bools p.1 with
    | none => rw [e2] at e; cases e
    | some bs =>
      rw [e2] at e
      cases e
      refine h σ H M ρ S _ _ hs ok e1 _ fun a vs H1 M1 x1 ok1 sq r => ?_
      exact ⟨a, bs, rfl, by rw [← r.bools e2]; exact sq, q _ H1 M1 x1 ok1 (.bl _)⟩
def mAll (m : MN) : ME := mBools (fun bs => bs.all id) m
def mAny (m : MN) : ME := mBools (fun bs => bs.any id) m
theorem im_all {m : MN} (h : ImL K te m) : ImE K (tCB (rAll K) (tCons te tNil)) (mAll m) := im_bools h
theorem im_any {m : MN} (h : ImL K te m) : ImE K (tCB (rAny K) (tCons te tNil)) (mAny m) := im_bools h
def intL : List D → Option (List Int)
  | [] => some []
  | .int b :: r => (intL r).map (b :: ·)
  | _ :: _ => none
theorem RlA.intL {vs : List V} {ds : List D} {bs : List Int} (h : RlA K M H vs ds) (e : intL ds = some bs) : vs = bs.map V.int := by
  induction ds generalizing vs bs with
  | nil => cases h; cases e; rfl
  | cons d ds ih =>
    cases h with
    | cons h1 h2 =>
      cases h1 <;> first | (cases e; done) | skip
      rename_i b
      unfold G.intL at e
      cases e2 : G.intL ds with
      | none => rw [e2] at e; cases e
      | some es => rw [e2] at e; cases e; rw [ih h2 e2]; rfl
def mSum (m : MN) : ME := fun ρ S => (m ρ S).bind fun p => (intL p.1).map fun ns => (.int ns.sum, p.2)
theorem im_sum {m : MN} (h : ImL K te m) : ImE K (tCB (rSum K) (tCons te tNil)) (mSum m) := fun σ H M ρ S b S' hs ok e Q q => by
  unfold mSum at e
  cases e1 : m ρ S with
  | none => rw [e1] at e; cases e
  | some p =>
    rw [e1, Option.bind_some] at e
    cases e2 : intL p.1 with
    | none => rw [e2] at e; cases e
    | some bs =>
      rw [e2] at e
      cases e
      refine h σ H M ρ S _ _ hs ok e1 _ fun a vs H1 M1 x1 ok1 sq r => ?_
      exact ⟨a, bs, rfl, by rw [← r.intL e2]; exact sq, q _ H1 M1 x1 ok1 (.int _)⟩
/-- list(x), tuple(x) -/
def mList (m : MN) : MN := m
theorem im_list {m : MN} (h : ImQ K te m) : ImN K (tCB (fun xs H Q => ∃ p ys, xs = [.ref p] ∧ (SqL K H p ys ∨ SqT K H p ys) ∧ ∀ l, H l = none → Q (.ref l) (upd H l (.lst ys))) (tCons te tNil)) (mList m) := fun σ H M ρ S b S' hs ok e Q q => by
  refine h σ H M ρ S _ _ hs ok e _ fun a vs H1 M1 x1 ok1 sq r => ?_
  exact ⟨a, vs, rfl, sq, fun p hp => q p _ _ (M1.gh p) (x1.trans (Ext.ghost hp)) (ok1.ghost hp) (x1.free p hp) upd_same List.mem_cons_self (r.fresh hp)⟩
def mTuple (m : MN) : ME := fun ρ S => (m ρ S).map fun p => (.tuple p.1, p.2)
theorem im_tuple {m : MN} (h : ImQ K te m) : ImE K (tCB (fun xs H Q => ∃ p ys, xs = [.ref p] ∧ ((SqL K H p ys ∧ ∀ l, H l = none → Q (.ref l) (upd H l (.tup ys))) ∨ (SqT K H p ys ∧ Q (.ref p) H))) (tCons te tNil)) (mTuple m) := fun σ H M ρ S b S' hs ok e Q q => by
  unfold mTuple at e
  cases e1 : m ρ S with
  | none => rw [e1] at e; cases e
  | some p =>
    rw [e1] at e
    cases e
    refine h σ H M ρ S _ _ hs ok e1 _ fun a vs H1 M1 x1 ok1 sq r => ?_
    rcases sq with sq | sq
    · exact ⟨a, vs, rfl, .inl ⟨sq, fun p hp => q _ _ M1 (x1.trans (Ext.new hp)) (ok1.new hp) (.tup (.inl (.inl upd_same)) (r.mono (Ext.new hp)))⟩⟩
    · exact ⟨a, vs, rfl, .inr ⟨sq, q _ H1 M1 x1 ok1 (.tup sq r)⟩⟩
/-- of data, by values -/
def mB (f : List D → Option D) (m : MA) : ME := fun ρ S => (mDs m ρ S).bind fun p => (f p.1).map fun z => (z, p.2)
theorem im_b {r : List V → Hp → VK → Prop} {f : List D → Option D} {t : TA} {m : MA} (hr : ImB K r f) (h : ImA K t m) : ImE K (tCB r t) (mB f m) := fun σ H M ρ S b S' hs ok e Q q => by
  unfold mB at e
  cases e1 : mDs m ρ S with
  | none => rw [e1] at e; cases e
  | some p =>
    rw [e1, Option.bind_some] at e
    cases e2 : f p.1 with
    | none => rw [e2] at e; cases e
    | some z =>
      rw [e2] at e
      cases e
      refine mDs_ok h hs ok e1 fun vs H1 M1 x1 ok1 r1 => ?_
      exact hr H1 M1 p.2 vs p.1 b ok1 r1 e2 Q (q.ext x1)
def fAbs : List D → Option D
  | [.int i] => some (.int (if i < 0 then -i else i))
  | _ => none
theorem imb_abs : ImB K (fun xs H Q => ∃ i, xs = [.int i] ∧ Q (.int (if i < 0 then -i else i)) H) fAbs := fun H M S xs ds dz ok r e Q q => by
  unfold fAbs at e
  split at e <;> cases e
  cases r with
  | cons r1 r2 =>
    cases r1
    cases r2
    exact ⟨_, rfl, q.here ok (.int _)⟩
def fInt : List D → Option D
  | [.int i] => some (.int i)
  | [.bool b] => some (.int (if b then 1 else 0))
  | _ => none
theorem imb_int : ImB K (fun xs H Q => (∃ i, xs = [.int i] ∧ Q (.int i) H) ∨ ∃ k, xs = [.bl k] ∧ Q (.int (if k then 1 else 0)) H) fInt := fun H M S xs ds dz ok r e Q q => by
  unfold fInt at e
  split at e <;> cases e
  · cases r with
    | cons r1 r2 =>
      cases r1
      cases r2
      exact .inl ⟨_, rfl, q.here ok (.int _)⟩
  · cases r with
    | cons r1 r2 =>
      cases r1
      cases r2
      exact .inr ⟨_, rfl, q.here ok (.int _)⟩
def fMax2 : List D → Option D
  | [.int i, .int j] => some (.int (if j > i then j else i))
  | _ => none
def fMin2 : List D → Option D
  | [.int i, .int j] => some (.int (if j < i then j else i))
  | _ => none
theorem imb_max2 : ImB K (fun xs H Q => ∃ i j, xs = [.int i, .int j] ∧ Q (.int (if j > i then j else i)) H) fMax2 := fun H M S xs ds dz ok r e Q q => by
  unfold fMax2 at e
  split at e <;> cases e
  cases r with
  | cons r1 r2 =>
    cases r1
    cases r2 with
    | cons r3 r4 =>
      cases r3
      cases r4
      exact ⟨_, _, rfl, q.here ok (.int _)⟩
theorem imb_min2 : ImB K (fun xs H Q => ∃ i j, xs = [.int i, .int j] ∧ Q (.int (if j < i then j else i)) H) fMin2 := fun H M S xs ds dz ok r e Q q => by
  unfold fMin2 at e
  split at e <;> cases e
  cases r with
  | cons r1 r2 =>
    cases r1
    cases r2 with
    | cons r3 r4 =>
      cases r3
      cases r4
      exact ⟨_, _, rfl, q.here ok (.int _)⟩
/-- isinstance(x, T) -/
def tyN (d : D) : Option String := match d with
  | .none => some "NoneType"
  | .bool _ => some "bool"
  | .int _ => some "int"
  | .str _ => some "str"
  | .list _ => some "list"
  | .tuple _ => some "tuple"
  | _ => none
theorem Rl.ty {v : V} {n : String} (r : Rl K M H v d) (e : tyN d = some n) : TyX K H v (.type n) := by
  cases r with
  | non => cases e; exact .base .non
  | bl b => cases e; exact .base (.bl b)
  | int b => cases e; exact .base (.int b)
  | str b => cases e; exact .base (.str b)
  | lst h1 h2 =>
    cases e
    rcases h1 with ⟨h | ⟨o, h⟩, _⟩ | h
    · exact .base (.lst h)
    · exact .base (.frz h)
    · rcases h with (h | ⟨_, h⟩) | ⟨o, its, n, h1, h2, _⟩
      · cases h
      · cases h
      · exact .kList h1 h2
  | tup h1 h2 =>
    cases e
    rcases h1 with (h | ⟨o, h⟩) | ⟨o, its, n, h1, h2, _⟩
    · exact .base (.tup h)
    · exact .fTuple h
    · exact .kTuple h1 h2
def fIsi (n : String) (d : D) : Option D := (tyN d).bind fun t => (kitB t n).map .bool
def mIsi (n : String) (m : ME) : ME := fun ρ S => (m ρ S).bind fun p => (fIsi n p.1).map fun z => (z, p.2)
theorem im_isi {n : String} (h : ImE K te me) : ImE K (tCB (rIsi K) (tCons te (tCons (tC (.ty n)) tNil))) (mIsi n me) := fun σ H M ρ S b S' hs ok e Q q => by
  unfold mIsi fIsi at e
  cases e1 : me ρ S with
  | none => rw [e1] at e; cases e
  | some p =>
    rw [e1, Option.bind_some] at e
    cases e2 : tyN p.1 with
    | none => rw [e2] at e; cases e
    | some t =>
      rw [e2, Option.bind_some] at e
      cases e3 : kitB t n with
      | none => rw [e3] at e; cases e
      | some k =>
        rw [e3] at e
        cases e
        refine h σ H M ρ S p.1 p.2 hs ok e1 _ fun v H1 M1 x1 ok1 r1 => ?_
        exact ⟨v, .ty n, .type t, .type n, k, rfl, .ty n, r1.ty e2, kit_ty e3, q _ H1 M1 x1 ok1 (.bl k)⟩

/-! ### targets -/
def mgN (i : Nat) : MG := fun d ρ => some (ρ.set i (some (.d d)))
theorem img_n (i : Nat) : ImG K (gName i) (mgN i) := fun σ H M ρ ρ' v d hs r e Q q => by
  cases e
  exact q _ (hs.set (s := .d d) r i)
abbrev MGs := List D → Rho → Option Rho
def ImGs (K : PySem.W.Frag) (g : TGs) (m : MGs) : Prop := ∀ (σ : St) (H : Hp) (M : Adr) (ρ ρ' : Rho) (v : List V) (d : List D), RSt K M H σ ρ → RlA K M H v d → m d ρ = some ρ' → ∀ Q : St → Hp → Prop,
  (∀ σ', RSt K M H σ' ρ' → Q σ' H) → g v σ H Q
def mg0 : MGs := fun ds ρ => match ds with
  | [] => some ρ
  | _ => none
def mg1 (g : MG) (gs : MGs) : MGs := fun ds ρ => match ds with
  | [] => none
  | d :: r => (g d ρ).bind fun ρ1 => gs r ρ1
theorem img_0 : ImGs K gNil mg0 := fun σ H M ρ ρ' v d hs r e Q q => by
  cases r <;> cases e
  exact ⟨rfl, q σ hs⟩
theorem img_1 {t : TG} {u : TGs} {g : MG} {gs : MGs} (h1 : ImG K t g) (h2 : ImGs K u gs) : ImGs K (gCons t u) (mg1 g gs) := fun σ H M ρ ρ' v d hs r e Q q => by
  cases r with
  | nil => cases e
  | @cons v vs d ds r1 r2 =>
    unfold mg1 at e
    simp only at e
    cases e1 : g d ρ with
    | none => rw [e1] at e; cases e
    | some ρ1 =>
      rw [e1, Option.bind_some] at e
      exact ⟨v, vs, rfl, h1 σ H M ρ ρ1 v d hs r1 e1 _ fun σ' hs' => h2 σ' H M ρ1 ρ' vs ds hs' r2 e Q q⟩
def mgT (n : Nat) (gs : MGs) : MG := fun d ρ => match d with
  | .tuple xs => if xs.length = n then gs xs ρ else none
  | _ => none
theorem img_t {n : Nat} {t : TGs} {gs : MGs} (h : ImGs K t gs) : ImG K (gTup K n t) (mgT n gs) := fun σ H M ρ ρ' v d hs r e Q q => by
  cases r <;> first | (cases e; done) | skip
  unfold mgT at e
  simp only at e
  split at e <;> first | (cases e; done) | skip
  rename_i h1 h2 hn
  exact ⟨_, _, rfl, h1, by rw [h2.len]; exact hn, h σ H M ρ ρ' _ _ hs h2 e Q q⟩

/-! ### what is walked -/
def ItOk (K : PySem.W.Frag) (J : It) (xs : List D) (M : Adr) (H : Hp) : Prop := ∀ (M1 : Adr) (H1 : Hp) (S1 : Sto), Ext M H M1 H1 → Ok K M1 S1 H1 → ∀ i : Nat, (xs.length ≤ i → J.stop i H1) ∧ (i < xs.length → J.go i H1) ∧
  ∀ (x : V) (H2 : Hp) (d : D), xs[i]? = some d → J.yld i H1 x H2 → Ext M1 H1 M1 H2 ∧ Ok K M1 S1 H2 ∧ Rl K M1 H2 x d
def ImI (K : PySem.W.Frag) (wi : TI) (m : MN) : Prop := ∀ (σ : St) (H : Hp) (M : Adr) (ρ : Rho) (S : Sto) (xs : List D) (S' : Sto), RSt K M H σ ρ → Ok K M S H → m ρ S = some (xs, S') → ∀ R : It → Hp → Prop,
  (∀ J H' M', Ext M H M' H' → Ok K M' S' H' → ItOk K J xs M' H' → R J H') → wi σ H R
theorem ItOk.mono {J : It} {xs : List D} (h : ItOk K J xs M H) (x : Ext M H M' H') : ItOk K J xs M' H' := fun M1 H1 S1 x1 ok i => h M1 H1 S1 (x.trans x1) ok i
theorem pi_or {X : Cx} {tg it : Expr} {w1 w2 : TI} (h1 : PI X tg it w1) (h2 : PI X tg it w2) : PI X tg it (fun σ H R => w1 σ H R ∨ w2 σ H R) :=
  ⟨fun pins s σ H R I h => h.elim (h1.run pins s σ H R I) (h2.run pins s σ H R I)⟩
def iAny (K : PySem.W.Frag) (te : TE) : TI := fun σ H R => iList K te σ H R ∨ iTup K te σ H R
theorem pi_any {X : Cx} {tg it : Expr} (h : PE X it te) : PI X tg it (iAny X.K te) := pi_or (pi_list h) (pi_tup h)
theorem itok_l {a : Addr} {vs : List V} {xs : List D} (hl : LsR K M H a vs) (r : RlA K M H vs xs) : ItOk K (Itl K a) xs M H := fun M1 H1 S1 x ok i =>
  have hl1 := (x.lsr hl).sql
  have r1 := r.mono x
  ⟨fun h => ⟨vs, hl1, by rw [r1.len]; exact h⟩, fun h => ⟨vs, vs[i]'(by rw [r1.len]; exact h), hl1, List.getElem?_eq_getElem _⟩, fun v H2 d e h => by
    obtain ⟨rfl, h⟩ := h
    obtain ⟨w, e1, r2⟩ := r1.get e
    have := h vs hl1
    rw [e1] at this
    cases this
    exact ⟨.refl, ok, r2⟩⟩
theorem itok_t {a : Addr} {vs : List V} {xs : List D} (hl : SqT K H a vs) (r : RlA K M H vs xs) : ItOk K (Itt K a) xs M H := fun M1 H1 S1 x ok i =>
  have hl1 := x.sqt hl
  have r1 := r.mono x
  ⟨fun h => ⟨vs, hl1, by rw [r1.len]; exact h⟩, fun h => ⟨vs, vs[i]'(by rw [r1.len]; exact h), hl1, List.getElem?_eq_getElem _⟩, fun v H2 d e h => by
    obtain ⟨rfl, h⟩ := h
    obtain ⟨w, e1, r2⟩ := r1.get e
    have := h vs hl1
    rw [e1] at this
    cases this
    exact ⟨.refl, ok, r2⟩⟩
theorem im_i (h : ImE K te me) : ImI K (iAny K te) (mQE me) := fun σ H M ρ S xs S' hs ok e R q => by
  unfold mQE at e
  cases e1 : me ρ S with
  | none => rw [e1] at e; cases e
  | some p =>
    rw [e1, Option.bind_some] at e
    obtain ⟨d, S1⟩ := p
    cases d with
    | list ys =>
      cases e
      refine .inl (h σ H M ρ S _ _ hs ok e1 _ fun v H1 M1 x1 ok1 r1 => ?_)
      cases r1 with
      | lst h1 h2 => exact ⟨_, rfl, ⟨_, h1.sql⟩, q _ H1 M1 x1 ok1 (itok_l h1 h2)⟩
    | tuple ys =>
      cases e
      refine .inr (h σ H M ρ S _ _ hs ok e1 _ fun v H1 M1 x1 ok1 r1 => ?_)
      cases r1 with
      | tup h1 h2 => exact ⟨_, rfl, ⟨_, h1⟩, q _ H1 M1 x1 ok1 (itok_t h1 h2)⟩
    | _ => cases e
def rng (lo : Int) (n : Nat) : List D := (List.range n).map fun i => .int (lo + (i : Nat))
theorem rng_get {lo : Int} {n i : Nat} {d : D} (h : (rng lo n)[i]? = some d) : i < n ∧ d = .int (lo + i) := by
  unfold rng at h
  rw [List.getElem?_map] at h
  by_cases hi : i < n
  · rw [List.getElem?_range hi] at h
    cases h
    exact ⟨hi, rfl⟩
  · rw [List.getElem?_eq_none (by rw [List.length_range]; omega)] at h
    cases h
theorem rng_len {lo : Int} {n : Nat} : (rng lo n).length = n := by unfold rng; rw [List.length_map, List.length_range]
theorem itok_r {lo : Int} {n : Nat} : ItOk K (Itr lo n) (rng lo n) M H := fun M1 H1 S1 x ok i =>
  ⟨fun h => by rw [rng_len] at h; exact h, fun h => by rw [rng_len] at h; exact h, fun v H2 d e h => by
    obtain ⟨rfl, rfl⟩ := h
    obtain ⟨_, rfl⟩ := rng_get e
    exact ⟨.refl, ok, .int _⟩⟩
def bRng (i : Int) : Bool := decide (-1000000000000 ≤ i ∧ i ≤ 1000000000000)
def mR1 (m : ME) : MN := fun ρ S => (m ρ S).bind fun p => match p.1 with
  | .int j => if bRng j then some (rng 0 j.toNat, p.2) else none
  | _ => none
theorem im_r1 (h : ImE K te me) : ImI K (iRng1 (tCons te tNil)) (mR1 me) := fun σ H M ρ S xs S' hs ok e R q => by
  unfold mR1 at e
  cases e1 : me ρ S with
  | none => rw [e1] at e; cases e
  | some p =>
    rw [e1, Option.bind_some] at e
    obtain ⟨d, S1⟩ := p
    cases d <;> first | (cases e; done) | skip
    simp only at e
    split at e <;> cases e
    rename_i j hb
    have hb : -1000000000000 ≤ j ∧ j ≤ 1000000000000 := of_decide_eq_true hb
    refine h σ H M ρ S _ _ hs ok e1 _ fun v H1 M1 x1 ok1 r1 => ?_
    cases r1
    exact ⟨j, rfl, by omega, by omega, q _ H1 M1 x1 ok1 itok_r⟩
def mR2 (m1 m2 : ME) : MN := fun ρ S => (m1 ρ S).bind fun p => (m2 ρ p.2).bind fun p2 => match p.1, p2.1 with
  | .int i, .int j => if bRng i && bRng j then some (rng i (j - i).toNat, p2.2) else none
  | _, _ => none
theorem im_r2 (ha : ImE K ta ma) (hb : ImE K tb mb) : ImI K (iRng2 (tCons ta (tCons tb tNil))) (mR2 ma mb) := fun σ H M ρ S xs S' hs ok e R q => by
  unfold mR2 at e
  cases e1 : ma ρ S with
  | none => rw [e1] at e; cases e
  | some p =>
    rw [e1, Option.bind_some] at e
    cases e2 : mb ρ p.2 with
    | none => rw [e2] at e; cases e
    | some p2 =>
      rw [e2, Option.bind_some] at e
      split at e <;> first | (cases e; done) | skip
      rename_i i j q1 q2
      split at e <;> cases e
      rename_i hb'
      rw [Bool.and_eq_true] at hb'
      have hi : -1000000000000 ≤ i ∧ i ≤ 1000000000000 := of_decide_eq_true hb'.1
      have hj : -1000000000000 ≤ j ∧ j ≤ 1000000000000 := of_decide_eq_true hb'.2
      refine ha σ H M ρ S p.1 p.2 hs ok e1 _ fun x H1 M1 x1 ok1 r1 => ?_
      refine hb σ H1 M1 ρ p.2 p2.1 p2.2 (hs.mono x1) ok1 e2 _ fun y H2 M2 x2 ok2 r2 => ?_
      rw [q1] at r1
      rw [q2] at r2
      cases r1
      cases r2
      exact ⟨i, j, rfl, ⟨by omega, by omega, by omega, by omega⟩, q _ H2 M2 (x1.trans x2) ok2 itok_r⟩

/-! ### list comprehensions -/
def wipeR (ρ : Rho) : List Nat → Rho
  | [] => ρ
  | v :: vs => (wipeR ρ vs).set v none
theorem RSt.wipe {σ : St} {ρ : Rho} (h : RSt K M H σ ρ) : ∀ vs : List Nat, RSt K M H (L2.wipe σ vs) (wipeR ρ vs)
  | [] => h
  | v :: vs => by
    have ih := RSt.wipe h vs
    unfold L2.wipe wipeR
    refine ⟨by rw [List.length_set, List.length_set]; exact ih.len, fun i s e => ?_⟩
    by_cases hi : v = i
    · subst hi
      by_cases hv : v < (wipeR ρ vs).length
      · rw [List.getElem?_set_self hv] at e; cases e
      · rw [List.getElem?_eq_none (by rw [List.length_set]; omega)] at e; cases e
    · rw [List.getElem?_set_ne hi] at e ⊢
      exact ih.at_ i s e
/-- a target that writes the block's own names alone -/
def GOwn (g : TG) (vs : List Nat) : Prop := ∀ (σ τ : St) (v : V) (H : Hp) (Q : St → Hp → Prop), L2.wipe τ vs = L2.wipe σ vs → g v τ H Q → g v τ H fun σ' H' => L2.wipe σ' vs = L2.wipe σ vs ∧ Q σ' H'
theorem wipe_set {i : Nat} {x : Option V} : ∀ {vs : List Nat} {τ : St}, i ∈ vs → L2.wipe (τ.set i x) vs = L2.wipe τ vs
  | v :: vs, τ, h => by
    unfold L2.wipe
    by_cases hi : i ∈ vs
    · rw [wipe_set hi]
    · have e : v = i := (List.mem_cons.mp h).elim (fun e => e.symm) fun z => absurd z hi
      subst e
      have key : ∀ ws : List Nat, v ∉ ws → ∀ τ : St, L2.wipe (τ.set v x) ws = (L2.wipe τ ws).set v x := fun ws => by
        induction ws with
        | nil => intro _ τ; rfl
        | cons w ws ih =>
          intro hw τ
          rw [List.mem_cons, not_or] at hw
          unfold L2.wipe
          rw [ih hw.2, List.set_comm _ _ hw.1]
      rw [key vs hi, List.set_set]
theorem wipe_wipe (σ : St) : ∀ {vs ws : List Nat}, (∀ i ∈ vs, i ∈ ws) → L2.wipe (L2.wipe σ vs) ws = L2.wipe σ ws
  | [], ws, _ => rfl
  | v :: vs, ws, h => by
    show L2.wipe ((L2.wipe σ vs).set v none) ws = _
    rw [wipe_set (h v List.mem_cons_self), wipe_wipe σ fun i hi => h i (List.mem_cons_of_mem _ hi)]
theorem gown_n {i : Nat} {vs : List Nat} (h : i ∈ vs) : GOwn (gName i) vs := fun σ τ v H Q e q => ⟨by rw [wipe_set h]; exact e, q⟩
def GsOwn (g : TGs) (vs : List Nat) : Prop := ∀ (σ τ : St) (v : List V) (H : Hp) (Q : St → Hp → Prop), L2.wipe τ vs = L2.wipe σ vs → g v τ H Q → g v τ H fun σ' H' => L2.wipe σ' vs = L2.wipe σ vs ∧ Q σ' H'
theorem gown_0 {vs : List Nat} : GsOwn gNil vs := fun σ τ v H Q e q => ⟨q.1, e, q.2⟩
theorem gown_t {K : PySem.W.Frag} {n : Nat} {t : TGs} {vs : List Nat} (h : GsOwn t vs) : GOwn (gTup K n t) vs := fun σ τ v H Q e q => by
  obtain ⟨a, xs, e1, e2, e3, q⟩ := q
  exact ⟨a, xs, e1, e2, e3, h σ τ xs H Q e q⟩
theorem gown_1 {i : Nat} {u : TGs} {vs : List Nat} (h1 : i ∈ vs) (h2 : GsOwn u vs) : GsOwn (gCons (gName i) u) vs := fun σ τ v H Q e q => by
  obtain ⟨x, r, e1, q⟩ := q
  exact ⟨x, r, e1, h2 σ _ r H Q (by rw [wipe_set h1]; exact e) q⟩
def lcRun (mg : MG) (mt : MT) (me : ME) : List D → Rho → Sto → Option (List D × Sto)
  | [], _, S => some ([], S)
  | x :: xs, ρ, S => (mg x ρ).bind fun ρ1 => (mt ρ1 S).bind fun p => if p.1 then (me ρ1 p.2).bind fun q => (lcRun mg mt me xs ρ q.2).map fun r => (q.1 :: r.1, r.2) else lcRun mg mt me xs ρ p.2
def mLc (mi : MN) (mg : MG) (mt : MT) (me : ME) (vs : List Nat) : MN := fun ρ S => (mi ρ S).bind fun p => if p.1.length ≤ 1000000 then lcRun mg mt me p.1 (wipeR ρ vs) p.2 else none
def mYes : MT := fun _ S => some (true, S)
theorem im_yes : ImT K tYes mYes := fun σ H M ρ S b S' hs ok e Q q => by cases e; exact q H M .refl ok
theorem im_lc {wi : TI} {g : TG} {tt : TT} {mi : MN} {mg : MG} {mt : MT} {vs : List Nat} (hi : ImI K wi mi) (hg : ImG K g mg) (ho : GOwn g vs) (ht : ImT K tt mt) (he : ImE K te me) : ImN K (tLc wi g tt te vs) (mLc mi mg mt me vs) := fun σ H M ρ S ys S' hs ok e Q q => by
  unfold mLc at e
  cases e1 : mi ρ S with
  | none => rw [e1] at e; cases e
  | some p =>
    rw [e1, Option.bind_some] at e
    split at e <;> first | (cases e; done) | skip
    rename_i hz
    obtain ⟨xs, S1⟩ := p
    simp only at e hz
    refine hi σ H M ρ S xs S1 hs ok e1 _ fun J H1 M1 x1 ok1 it => ?_
    intro Dl hD
    have hs1 := (hs.mono x1).wipe vs
    refine ⟨fun i m Hi => m = xs.length - i ∧ i ≤ xs.length ∧ ∃ (Mi : Adr) (Si : Sto) (acc : List D) (av : List V) (zs : List D), Ext M1 H1 Mi Hi ∧ Dl ∈ Mi.g ∧ some Dl ∉ Mi.c ∧ Ok K Mi Si Hi ∧ RSt K Mi Hi (L2.wipe σ vs) (wipeR ρ vs) ∧ Hi Dl = some (.lst av) ∧ RlA K Mi Hi av acc ∧
      acc.length ≤ i ∧ lcRun mg mt me (xs.drop i) (wipeR ρ vs) Si = some (zs, S') ∧ acc ++ zs = ys,
      ⟨xs.length, by omega, Nat.zero_le _, M1.gh Dl, S1, [], [], ys, Ext.ghost hD, List.mem_cons_self, fun z => ok1.notin hD (.inl z), ok1.ghost hD, hs1.fresh hD, upd_same, .nil, Nat.zero_le _, e, rfl⟩, ?_⟩
    rintro i m Hi ⟨rfl, hle, Mi, Si, acc, av, zs, xi, hg1, hc1, oki, hsi, hd, ra, hacc, er, hy⟩
    have J1 := it Mi Hi Si xi oki i
    by_cases hlt : i < xs.length
    · refine .inr ⟨J1.2.1 hlt, fun Hn => ∃ (Mi : Adr) (Si : Sto) (acc : List D) (av : List V) (zs : List D), Ext M1 H1 Mi Hn ∧ Dl ∈ Mi.g ∧ some Dl ∉ Mi.c ∧ Ok K Mi Si Hn ∧ RSt K Mi Hn (L2.wipe σ vs) (wipeR ρ vs) ∧ Hn Dl = some (.lst av) ∧ RlA K Mi Hn av acc ∧
        acc.length ≤ i + 1 ∧ lcRun mg mt me (xs.drop (i + 1)) (wipeR ρ vs) Si = some (zs, S') ∧ acc ++ zs = ys, fun Hn hN => ⟨xs.length - (i + 1), by omega, rfl, by omega, hN⟩, fun x H2 hx => ?_⟩
      have ed : xs.drop i = xs[i] :: xs.drop (i + 1) := List.drop_eq_getElem_cons hlt
      rw [ed] at er
      unfold lcRun at er
      obtain ⟨x2, ok2, r2⟩ := J1.2.2 x H2 xs[i] (List.getElem?_eq_getElem hlt) hx
      cases e2 : mg xs[i] (wipeR ρ vs) with
      | none => rw [e2] at er; cases er
      | some ρ1 =>
        rw [e2, Option.bind_some] at er
        have hs2 := hsi.mono x2
        refine ho σ _ _ _ _ (wipe_wipe σ fun _ z => z) (hg _ H2 Mi (wipeR ρ vs) ρ1 x xs[i] hs2 r2 e2 _ fun σ' hs' => ?_)
        cases e3 : mt ρ1 Si with
        | none => rw [e3] at er; cases er
        | some p =>
          rw [e3, Option.bind_some] at er
          obtain ⟨b, S3⟩ := p
          refine ht σ' H2 Mi ρ1 Si b S3 hs' ok2 e3 _ fun H3 M3 x3 ok3 => ?_
          have hD3 : H3 Dl = some (.lst av) := x3.keep Dl _ (x2.keep Dl _ hd (.inl hc1)) (.inl hc1)
          have hc3 : some Dl ∉ M3.c := fun z => (x3.sub Dl z).elim hc1 fun z => by rw [x2.keep Dl _ hd (.inl hc1)] at z; cases z
          have hg3 : Dl ∈ M3.g := x3.gk Dl hg1
          have x23 := x2.trans x3
          cases b with
          | false =>
            rw [if_neg (show ¬ (false = true) from Bool.false_ne_true)]
            rw [if_neg (show ¬ (false = true) from Bool.false_ne_true)] at er
            exact ⟨M3, S3, acc, av, zs, xi.trans x23, hg3, hc3, ok3, hsi.mono x23, hD3, ra.mono x23, by omega, er, hy⟩
          | true =>
            rw [if_pos rfl]
            rw [if_pos rfl] at er
            cases e4 : me ρ1 S3 with
            | none => rw [e4] at er; cases er
            | some p4 =>
              rw [e4, Option.bind_some] at er
              cases e5 : lcRun mg mt me (xs.drop (i + 1)) (wipeR ρ vs) p4.2 with
              | none => rw [e5] at er; cases er
              | some p5 =>
                rw [e5] at er
                cases er
                refine he σ' H3 M3 ρ1 S3 p4.1 p4.2 (hs'.mono x3) ok3 e4 _ fun v H4 M4 x4 ok4 r4 => ?_
                have hD4 : H4 Dl = some (.lst av) := x4.keep Dl _ hD3 (.inl hc3)
                have hc4 : some Dl ∉ M4.c := fun z => (x4.sub Dl z).elim hc3 fun z => by rw [hD3] at z; cases z
                have hg4 : Dl ∈ M4.g := x4.gk Dl hg3
                have x24 := x23.trans x4
                have ra4 := ra.mono x24
                have xg : Ext M1 H1 M4 (upd H4 Dl (.lst (av ++ [v]))) := by
                  have y := (xi.trans x24)
                  exact ⟨y.subn, y.gs, y.gk, y.pos, y.dead, fun a o h c => by
                    rw [upd_ne (ne_of_none h hD)]; exact y.keep a o h c, fun a h => y.free a (by
                    by_cases ea : a = Dl
                    · subst ea; rw [upd_same] at h; cases h
                    · rw [upd_ne ea] at h; exact h)⟩
                refine ⟨av, hD4, Nat.lt_of_lt_of_le (show av.length < 1000001 by rw [ra.len]; omega) (by decide), M4, p4.2, acc ++ [p4.1], av ++ [v], p5.1, xg, hg4, hc4, ok4.grow (.inr hg4) hD4 hc4, (hsi.mono x24).grow (.inr hg4) hD4, upd_same,
                  (ra4.append (.one r4)).grow (.inr hg4) hD4, by rw [List.length_append, List.length_singleton]; omega, e5, by rw [List.append_assoc]; exact hy⟩
    · refine .inl ⟨J1.1 (by omega), ?_⟩
      have e0 : xs.drop i = [] := List.drop_eq_nil_of_le (by omega)
      rw [e0] at er
      cases er
      rw [List.append_nil] at hy
      subst hy
      have xf := x1.trans xi
      exact q Dl av Hi Mi xf oki (x1.free Dl hD) hd hg1 ra
end
end G
set_option Elab.async false
set_option linter.all false
set_option autoImplicit false
set_option maxRecDepth 100000
set_option maxHeartbeats 4000000
namespace G
open PySem L2
section
variable {K : PySem.W.Frag} {M M' : Adr} {H H' : Hp} {S S' : Sto} {ta tb tc te : TE} {ma mb mc me : ME} {d : D} {b : Nat}

def Adr.tk (b : Nat) (M : Adr) : Adr := ⟨M.c.take b, M.g⟩
theorem Adr.tkmem {a : Addr} (h : (M.tk b).mem a) : M.mem a := h.elim (fun z => .inl (List.mem_of_mem_take z)) .inr
/-- what a def hands back: data, or a list that is new -/
def PostR (K : PySem.W.Frag) (b : Nat) (H0 : Hp) (M' : Adr) (H' : Hp) (v : V) : Rt → Prop
  | .val d => Rl K (M'.tk b) H' v d
  | .new ds => ∃ a vs, v = .ref a ∧ H0 a = none ∧ H' a = some (.lst vs) ∧ M'.mem a ∧ some a ∉ M'.c.take b ∧ RlA K M' H' vs ds
def PostC (K : PySem.W.Frag) (b : Nat) (H0 : Hp) (M : Adr) (H : Hp) (D : Ends) (o : Out) (ρ' : Rho) (S' : Sto) : Prop :=
  match o with
  | .nx => ∀ σ' H' M', Ext M H M' H' → Ok K M' S' H' → RSt K M' H' σ' ρ' → D.nx σ' H'
  | .bk => ∀ σ' H' M', Ext M H M' H' → Ok K M' S' H' → RSt K M' H' σ' ρ' → D.bk σ' H'
  | .ct => ∀ σ' H' M', Ext M H M' H' → Ok K M' S' H' → RSt K M' H' σ' ρ' → D.ct σ' H'
  | .rt r => ∀ v H' M', Ext M H M' H' → Ok K M' S' H' → PostR K b H0 M' H' v r → D.rt v H'
def ImC (K : PySem.W.Frag) (b : Nat) (t : TS) (m : MS) : Prop := ∀ (M0 : Adr) (H0 : Hp) (σ : St) (H : Hp) (M : Adr) (ρ : Rho) (S : Sto) (o : Out) (ρ' : Rho) (S' : Sto), M0.c.length = b → (∀ a, M0.mem a → ∃ vs, H0 a = some (.lst vs)) → Ext M0 H0 M H → RSt K M H σ ρ → Ok K M S H → m ρ S = some (o, ρ', S') →
  ∀ D : Ends, PostC K b H0 M H D o ρ' S' → t D σ H
theorem PostC.ext {H0 : Hp} {D : Ends} {o : Out} {ρ' : Rho} (q : PostC K b H0 M H D o ρ' S') (x : Ext M H M' H') : PostC K b H0 M' H' D o ρ' S' := by
  cases o with
  | nx => exact fun σ' H2 M2 y ok r => q σ' H2 M2 (x.trans y) ok r
  | bk => exact fun σ' H2 M2 y ok r => q σ' H2 M2 (x.trans y) ok r
  | ct => exact fun σ' H2 M2 y ok r => q σ' H2 M2 (x.trans y) ok r
  | rt r => exact fun v H2 M2 y ok r => q v H2 M2 (x.trans y) ok r
def mNext : MS := fun ρ S => some (.nx, ρ, S)
theorem imc_next : ImC K b tNext mNext := fun M0 H0 σ H M ρ S o ρ' S' hb hl x0 hs ok e D q => by
  cases e
  exact q σ H M .refl ok hs
def mBrk : MS := fun ρ S => some (.bk, ρ, S)
def mCont : MS := fun ρ S => some (.ct, ρ, S)
theorem imc_brk : ImC K b tBreak mBrk := fun M0 H0 σ H M ρ S o ρ' S' hb hl x0 hs ok e D q => by
  cases e
  exact q σ H M .refl ok hs
theorem imc_cont : ImC K b tCont mCont := fun M0 H0 σ H M ρ S o ρ' S' hb hl x0 hs ok e D q => by
  cases e
  exact q σ H M .refl ok hs
def mNever : MS := fun _ _ => none
theorem imc_never : ImC K b tNever mNever := fun M0 H0 σ H M ρ S o ρ' S' hb hl x0 hs ok e D q => by cases e
def mSeq (m1 m2 : MS) : MS := fun ρ S => (m1 ρ S).bind fun p => match p.1 with
  | .nx => m2 p.2.1 p.2.2
  | o => some (o, p.2)
theorem imc_seq {t u : TS} {m1 m2 : MS} (h1 : ImC K b t m1) (h2 : ImC K b u m2) : ImC K b (tSeq t u) (mSeq m1 m2) := fun M0 H0 σ H M ρ S o ρ' S' hb hl x0 hs ok e D q => by
  unfold mSeq at e
  cases e1 : m1 ρ S with
  | none => rw [e1] at e; cases e
  | some p =>
    rw [e1, Option.bind_some] at e
    obtain ⟨o1, ρ1, S1⟩ := p
    refine h1 M0 H0 σ H M ρ S o1 ρ1 S1 hb hl x0 hs ok e1 { D with nx := u D } ?_
    cases o1 with
    | nx => exact fun σ' H1 M1 x1 ok1 hs1 => h2 M0 H0 σ' H1 M1 ρ1 S1 o ρ' S' hb hl (x0.trans x1) hs1 ok1 e D (q.ext x1)
    | bk => cases e; exact q
    | ct => cases e; exact q
    | rt r => cases e; exact q
def mDrop (m : ME) : MS := fun ρ S => (m ρ S).map fun p => (.nx, ρ, p.2)
theorem imc_drop (h : ImE K te me) : ImC K b (tDrop te) (mDrop me) := fun M0 H0 σ H M ρ S o ρ' S' hb hl x0 hs ok e D q => by
  unfold mDrop at e
  cases e1 : me ρ S with
  | none => rw [e1] at e; cases e
  | some p =>
    rw [e1] at e
    cases e
    exact h σ H M ρ S p.1 p.2 hs ok e1 _ fun v H1 M1 x1 ok1 r1 => q σ H1 M1 x1 ok1 (hs.mono x1)
def mRet (m : ME) : MS := fun ρ S => (m ρ S).map fun p => (.rt (.val p.1), ρ, p.2)
theorem imc_ret (h : ImE K te me) : ImC K b (tRet te) (mRet me) := fun M0 H0 σ H M ρ S o ρ' S' hb hl x0 hs ok e D q => by
  unfold mRet at e
  cases e1 : me ρ S with
  | none => rw [e1] at e; cases e
  | some p =>
    rw [e1] at e
    cases e
    exact h σ H M ρ S p.1 p.2 hs ok e1 _ fun v H1 M1 x1 ok1 r1 => q v H1 M1 x1 ok1 (r1.anti fun _ => Adr.tkmem)
def mRetL (m : MN) : MS := fun ρ S => (m ρ S).map fun p => (.rt (.new p.1), ρ, p.2)
theorem imc_retL {m : MN} (h : ImN K te m) : ImC K b (tRet te) (mRetL m) := fun M0 H0 σ H M ρ S o ρ' S' hb hl x0 hs ok e D q => by
  unfold mRetL at e
  cases e1 : m ρ S with
  | none => rw [e1] at e; cases e
  | some p =>
    rw [e1] at e
    cases e
    exact h σ H M ρ S p.1 p.2 hs ok e1 _ fun a vs H1 M1 x1 ok1 n0 n1 n2 r1 => q _ H1 M1 x1 ok1 ⟨a, vs, rfl, x0.free a n0, n1, .inr n2, fun z => ok1.dj a (List.mem_of_mem_take z) n2, r1⟩
def mRetN : MS := fun ρ S => some (.rt (.val .none), ρ, S)
theorem imc_retN : ImC K b tRetN mRetN := fun M0 H0 σ H M ρ S o ρ' S' hb hl x0 hs ok e D q => by
  cases e
  exact q _ H M .refl ok .non
/-- return x: a list of this def's own -/
def mRetV (b i : Nat) : MS := fun ρ S => match ρ[i]? with
  | some (some (.d x)) => some (.rt (.val x), ρ, S)
  | some (some (.loc n)) => if b ≤ n then (S[n]?.join).map fun xs => (.rt (.new xs), ρ, S) else none
  | _ => none
theorem imc_retV {i : Nat} : ImC K b (tRet (tVar i)) (mRetV b i) := fun M0 H0 σ H M ρ S o ρ' S' hb hl x0 hs ok e D q => by
  unfold mRetV at e
  split at e <;> first | (cases e; done) | skip
  · rename_i x e1
    cases e
    obtain ⟨v, e2, r⟩ := hs.at_ i _ e1
    exact ⟨v, e2, q v H M .refl ok (Rl.anti (fun _ => Adr.tkmem) r)⟩
  · rename_i n e1
    split at e <;> first | (cases e; done) | skip
    rename_i hn
    cases e2 : S[n]? with
    | none => rw [e2] at e; cases e
    | some c =>
      cases c with
      | none => rw [e2] at e; cases e
      | some xs =>
        rw [e2] at e
        cases e
        obtain ⟨v, e3, a, rfl, r⟩ := hs.at_ i _ e1
        obtain ⟨a', vs, m1, m2, m3⟩ := ok.cell n _ e2
        have ea : a = a' := by rcases r with r | r <;> (rw [r] at m1; cases m1); rfl
        subst ea
        have nb : ¬ some a ∈ M.c.take b := fun z => by
          obtain ⟨j, hj, ej⟩ := List.mem_take_iff_getElem.mp z
          have e4 : M.c[j]? = some (some a) := by rw [List.getElem?_eq_getElem (by omega), ej]
          have := ok.inj j n a e4 m1
          omega
        have h0 : H0 a = none := by
          rcases x0.subn n a m1 with z | z
          · have := (List.getElem?_eq_some_iff.mp z).1
            omega
          · exact z.2
        exact ⟨_, e3, q _ H M .refl ok ⟨a, vs, rfl, h0, m2, .inl (List.mem_of_getElem? m1), nb, m3⟩⟩
end
end G
set_option Elab.async false
set_option linter.all false
set_option autoImplicit false
set_option maxRecDepth 100000
set_option maxHeartbeats 4000000
namespace G
open PySem L2
section
variable {K : PySem.W.Frag} {M M' : Adr} {H H' : Hp} {S S' : Sto} {ta tb tc te : TE} {ma mb mc me : ME} {d : D} {b : Nat}
def mIfS (c : MT) (m1 m2 : MS) : MS := fun ρ S => (c ρ S).bind fun p => if p.1 then m1 ρ p.2 else m2 ρ p.2
theorem imc_if {t : TT} {c : MT} {t1 t2 : TS} {m1 m2 : MS} (h : ImT K t c) (h1 : ImC K b t1 m1) (h2 : ImC K b t2 m2) : ImC K b (tIfS t t1 t2) (mIfS c m1 m2) := fun M0 H0 σ H M ρ S o ρ' S' hb hl x0 hs ok e D q => by
  unfold mIfS at e
  cases e1 : c ρ S with
  | none => rw [e1] at e; cases e
  | some p =>
    rw [e1, Option.bind_some] at e
    obtain ⟨y, S1⟩ := p
    refine h σ H M ρ S _ _ hs ok e1 _ fun H1 M1 x1 ok1 => ?_
    cases y with
    | true => exact h1 M0 H0 σ H1 M1 ρ S1 o ρ' S' hb hl (x0.trans x1) (hs.mono x1) ok1 e D (q.ext x1)
    | false => exact h2 M0 H0 σ H1 M1 ρ S1 o ρ' S' hb hl (x0.trans x1) (hs.mono x1) ok1 e D (q.ext x1)
def mAsg (m : ME) (g : MG) : MS := fun ρ S => (m ρ S).bind fun p => (g p.1 ρ).map fun ρ1 => (.nx, ρ1, p.2)
theorem imc_asg {t : TG} {g : MG} (h : ImE K te me) (hg : ImG K t g) : ImC K b (tAsg te t) (mAsg me g) := fun M0 H0 σ H M ρ S o ρ' S' hb hl x0 hs ok e D q => by
  unfold mAsg at e
  cases e1 : me ρ S with
  | none => rw [e1] at e; cases e
  | some p =>
    rw [e1, Option.bind_some] at e
    cases e2 : g p.1 ρ with
    | none => rw [e2] at e; cases e
    | some ρ1 =>
      rw [e2] at e
      cases e
      refine h σ H M ρ S p.1 p.2 hs ok e1 _ fun v H1 M1 x1 ok1 r1 => ?_
      exact hg σ H1 M1 ρ ρ' v p.1 (hs.mono x1) r1 e2 _ fun σ' hs' => q σ' H1 M1 x1 ok1 hs'
/-- x = a new list that is to change -/
def mNew (i : Nat) (m : MN) : MS := fun ρ S => (m ρ S).map fun p => (.nx, ρ.set i (some (.loc p.2.length)), p.2 ++ [some p.1])
theorem imc_new {i : Nat} {m : MN} (h : ImN K te m) : ImC K b (tAsg te (gName i)) (mNew i m) := fun M0 H0 σ H M ρ S o ρ' S' hb hl x0 hs ok e D q => by
  unfold mNew at e
  cases e1 : m ρ S with
  | none => rw [e1] at e; cases e
  | some p =>
    rw [e1] at e
    cases e
    refine h σ H M ρ S p.1 p.2 hs ok e1 _ fun a vs H1 M1 x1 ok1 n0 n1 n2 r1 => ?_
    -- the list in the making becomes a cell
    have xu := x1.ungh
    have xa : Ext M H ((M1.ug M).add a) H1 := xu.add n0
    have nm : ∀ c, ((M1.ug M).add a).mem c → M1.mem c := fun c z => by
      rcases z with z | z
      · rcases List.mem_append.mp z with z | z
        · exact .inl z
        · have e : c = a := by simpa using z
          rw [e]; exact .inr n2
      · exact .inr (x1.gk c z)
    have na : ¬ (M1.ug M).mem a := fun z => z.elim (fun z => ok1.dj a z n2) fun z => ok.notin n0 (.inr z)
    have oku := ok1.ug (M := M) x1.gk
    have ok2 : Ok K ((M1.ug M).add a) (p.2 ++ [some p.1]) H1 := by
      refine oku.add n1 na (fun v d _ => .inr trivial) (r1.anti fun c z => ?_) fun n ys e => ?_
      · exact x1.ughmem n2 z
      · obtain ⟨c, us, c1, c2, c3⟩ := ok1.cell n ys e
        exact ⟨c, us, c1, c2, c3.anti fun c z => x1.ughmem n2 z⟩
    refine q _ H1 _ xa ok2 ((hs.mono xa).set (s := .loc p.2.length) ⟨a, rfl, .inl ?_⟩ i)
    show (M1.c ++ [some a])[p.2.length]? = _
    rw [← ok1.len, List.getElem?_append_right (Nat.le_refl _), Nat.sub_self]
    rfl
/-- x op= e -/
def mAug (i : Nat) (f : D → D → Option D) (m : ME) : MS := fun ρ S => (mVar i ρ S).bind fun p => (m ρ S).bind fun q => (f p.1 q.1).map fun z => (.nx, ρ.set i (some (.d z)), q.2)
theorem imc_aug {i : Nat} {ti : TIp} {f : D → D → Option D} (hf : ImR K ti f) (h : ImE K te me) : ImC K b (tAug i te ti) (mAug i f me) := fun M0 H0 σ H M ρ S o ρ' S' hb hl x0 hs ok e D q => by
  unfold mAug at e
  cases e0 : mVar i ρ S with
  | none => rw [e0] at e; cases e
  | some p0 =>
    rw [e0, Option.bind_some] at e
    cases e1 : me ρ S with
    | none => rw [e1] at e; cases e
    | some p =>
      rw [e1, Option.bind_some] at e
      cases e2 : f p0.1 p.1 with
      | none => rw [e2] at e; cases e
      | some z =>
        rw [e2] at e
        cases e
        have hv : ρ[i]? = some (some (.d p0.1)) := by
          unfold mVar at e0
          split at e0 <;> cases e0
          assumption
        obtain ⟨v, hv, r⟩ := hs.at_ i _ hv
        refine ⟨v, hv, ?_⟩
        refine h σ H M ρ S p.1 p.2 hs ok e1 _ fun y H1 M1 x1 ok1 r1 => ?_
        refine hf H1 M1 p.2 v y p0.1 p.1 z ok1 (Rl.mono x1 r) r1 e2 _ fun w H2 M2 x2 ok2 r2 => ?_
        have x := x1.trans x2
        exact q _ H2 M2 x ok2 ((hs.mono x).set (s := .d z) r2 i)
theorem imr_ipadd : ImR K (ipI fun i j => i + j) (fI0 fun i j => .int (i + j)) := fun H M S x y dx dy dz ok rx ry e Q q => by
  unfold fI0 at e
  split at e <;> cases e
  cases rx
  cases ry
  exact ⟨_, _, rfl, rfl, q.here ok (.int _)⟩
theorem imr_ipsub : ImR K (ipI fun i j => i - j) (fI0 fun i j => .int (i - j)) := fun H M S x y dx dy dz ok rx ry e Q q => by
  unfold fI0 at e
  split at e <;> cases e
  cases rx
  cases ry
  exact ⟨_, _, rfl, rfl, q.here ok (.int _)⟩
/-- the cell of a name -/
theorem cell_at {σ : St} {ρ : Rho} {i n : Nat} {xs : List D} (hr : RSt K M H σ ρ) (ok : Ok K M S H) (e : ρ[i]? = some (some (.loc n))) (e2 : S[n]? = some (some xs)) :
    ∃ a vs, σ[i]? = some (some (.ref a)) ∧ M.c[n]? = some (some a) ∧ H a = some (.lst vs) ∧ RlA K M H vs xs := by
  obtain ⟨v, e1, a, rfl, r⟩ := hr.at_ i _ e
  obtain ⟨a', vs, m1, m2, m3⟩ := ok.cell n _ e2
  have ea : a = a' := by rcases r with r | r <;> (rw [r] at m1; cases m1); rfl
  subst ea
  exact ⟨a, vs, e1, m1, m2, m3⟩
/-- x[e] = v -/
def mSub (i : Nat) (mi mv : ME) : MS := fun ρ S => (mv ρ S).bind fun p => (mi ρ p.2).bind fun q => match q.1, ρ[i]? with
  | .int k, some (some (.loc n)) => (q.2[n]?.join).bind fun xs => (ixN xs.length k).map fun j => (.nx, ρ, q.2.set n (some (xs.set j p.1)))
  | _, _ => none
theorem imc_sub {i : Nat} {ti tv : TE} {mi mv : ME} (hi : ImE K ti mi) (hv : ImE K tv mv) : ImC K b (tAsg tv (gSub (tVar i) ti rSetL)) (mSub i mi mv) := fun M0 H0 σ H M ρ S o ρ' S' hb hl x0 hs ok e D q => by
  unfold mSub at e
  cases e1 : mv ρ S with
  | none => rw [e1] at e; cases e
  | some p =>
    rw [e1, Option.bind_some] at e
    cases e2 : mi ρ p.2 with
    | none => rw [e2] at e; cases e
    | some p2 =>
      rw [e2, Option.bind_some] at e
      split at e <;> first | (cases e; done) | skip
      rename_i k n ek en
      cases e3 : p2.2[n]? with
      | none => rw [e3] at e; cases e
      | some c =>
        cases c with
        | none => rw [e3] at e; cases e
        | some xs =>
          rw [e3] at e
          have e : ((ixN xs.length k).map fun j => ((.nx : Out), ρ, p2.2.set n (some (xs.set j p.1)))) = some (o, ρ', S') := e
          cases e4 : ixN xs.length k with
          | none => rw [e4] at e; cases e
          | some j =>
            rw [e4] at e
            cases e
            refine hv σ H M ρ S p.1 p.2 hs ok e1 _ fun v H1 M1 x1 ok1 r1 => ?_
            obtain ⟨w, hw, _⟩ := hs.at_ i _ en
            refine ⟨w, hw, ?_⟩
            refine hi σ H1 M1 ρ p.2 p2.1 p2.2 (hs.mono x1) ok1 e2 _ fun y H2 M2 x2 ok2 r2 => ?_
            have x := x1.trans x2
            obtain ⟨a, vs, c1, c2, c3, c4⟩ := cell_at (hs.mono x) ok2 en e3
            rw [hw] at c1
            cases c1
            rw [ek] at r2
            cases r2
            refine ⟨a, vs, k, j, rfl, rfl, c3, by rw [c4.len]; exact e4, ?_⟩
            have xc : Ext M2 H2 M2 (upd H2 a (.lst (vs.set j v))) := Ext.setc (List.mem_of_getElem? c2) c3
            exact q σ _ M2 (x.trans xc) (ok2.setc c2 c3 (c4.set (r1.mono x2) j)) (hs.mono (x.trans xc))
/-- x.append(e) -/
def mApp (i : Nat) (m : ME) : ME := fun ρ S => match ρ[i]? with
  | some (some (.loc n)) => (S[n]?.join).bind fun _ => (m ρ S).bind fun p => (p.2[n]?.join).bind fun xs => if xs.length < 1000000 then some (.none, p.2.set n (some (xs ++ [p.1]))) else none
  | _ => none
theorem tyl {a : Addr} {xs : List V} (h : H a = some (.lst xs)) : tyV K "list" (.ref a) H := .inl ⟨rfl, xs, .inl (.inl h)⟩
theorem join_some {α : Type} {x : Option (Option α)} {y : α} (h : x.join = some y) : x = some (some y) := by
  cases x with
  | none => cases h
  | some c => cases c with
    | none => cases h
    | some z => cases h; rfl
theorem im_app {i : Nat} (h : ImE K te me) : ImE K (tBM K "list" rAppend (tVar i) (tCons te tNil)) (mApp i me) := fun σ H M ρ S d S' hs ok e Q q => by
  unfold mApp at e
  split at e <;> first | (cases e; done) | skip
  rename_i n en
  cases e0 : S[n]?.join with
  | none => rw [e0] at e; cases e
  | some xs0 =>
    rw [e0, Option.bind_some] at e
    cases e1 : me ρ S with
    | none => rw [e1] at e; cases e
    | some p =>
      rw [e1, Option.bind_some] at e
      cases e3 : p.2[n]?.join with
      | none => rw [e3] at e; cases e
      | some xs =>
        rw [e3, Option.bind_some] at e
        split at e <;> cases e
        rename_i hz
        obtain ⟨a, us, hw, _, hus, _⟩ := cell_at hs ok en (join_some e0)
        refine ⟨_, hw, tyl hus, ?_⟩
        refine h σ H M ρ S p.1 p.2 hs ok e1 _ fun v H1 M1 x1 ok1 r1 => ?_
        obtain ⟨a', vs, c1, c2, c3, c4⟩ := cell_at (hs.mono x1) ok1 en (join_some e3)
        rw [hw] at c1
        cases c1
        refine ⟨a, vs, v, rfl, rfl, c3, Nat.lt_of_lt_of_le (show vs.length < 1000000 by rw [c4.len]; exact hz) big, ?_⟩
        have xc : Ext M1 H1 M1 (upd H1 a (.lst (vs ++ [v]))) := Ext.setc (List.mem_of_getElem? c2) c3
        exact q _ _ M1 (x1.trans xc) (ok1.setc c2 c3 (c4.append (.one r1))) .non
/-- x.extend(a new list) -/
def mExtN (i : Nat) (m : MN) : ME := fun ρ S => match ρ[i]? with
  | some (some (.loc n)) => (S[n]?.join).bind fun _ => (m ρ S).bind fun p => (p.2[n]?.join).bind fun xs => if xs.length + p.1.length ≤ 1000000 then some (.none, p.2.set n (some (xs ++ p.1))) else none
  | _ => none
theorem im_extN {i : Nat} {m : MN} (h : ImN K te m) : ImE K (tBM K "list" rExtend (tVar i) (tCons te tNil)) (mExtN i m) := fun σ H M ρ S d S' hs ok e Q q => by
  unfold mExtN at e
  split at e <;> first | (cases e; done) | skip
  rename_i n en
  cases e0 : S[n]?.join with
  | none => rw [e0] at e; cases e
  | some xs0 =>
    rw [e0, Option.bind_some] at e
    cases e1 : m ρ S with
    | none => rw [e1] at e; cases e
    | some p =>
      rw [e1, Option.bind_some] at e
      cases e3 : p.2[n]?.join with
      | none => rw [e3] at e; cases e
      | some xs =>
        rw [e3, Option.bind_some] at e
        split at e <;> cases e
        rename_i hz
        obtain ⟨a, us, hw, _, hus, _⟩ := cell_at hs ok en (join_some e0)
        refine ⟨_, hw, tyl hus, ?_⟩
        refine h σ H M ρ S p.1 p.2 hs ok e1 _ fun l ws H1 M1 x1 ok1 n0 n1 n2 r1 => ?_
        obtain ⟨a', vs, c1, c2, c3, c4⟩ := cell_at (hs.mono x1) ok1 en (join_some e3)
        rw [hw] at c1
        cases c1
        refine ⟨a, l, vs, ws, rfl, rfl, c3, n1, Nat.le_trans (show vs.length + ws.length ≤ 1000000 by rw [c4.len, r1.len]; exact hz) big, ?_⟩
        have xc : Ext M1 H1 M1 (upd H1 a (.lst (vs ++ ws))) := Ext.setc (List.mem_of_getElem? c2) c3
        exact q _ _ M1 (x1.trans xc) (ok1.setc c2 c3 (c4.append r1)) .non
/-- x.pop() -/
def mPop (i : Nat) : ME := fun ρ S => match ρ[i]? with
  | some (some (.loc n)) => (S[n]?.join).bind fun xs => (xs[xs.length - 1]?).map fun y => (y, S.set n (some xs.dropLast))
  | _ => none
theorem RlA.dropLast {vs : List V} {ds : List D} (h : RlA K M H vs ds) : RlA K M H vs.dropLast ds.dropLast := by
  rw [List.dropLast_eq_take, List.dropLast_eq_take, h.len]
  exact h.take _
theorem im_pop {i : Nat} : ImE K (tBM0 K "list" rPop (tVar i)) (mPop i) := fun σ H M ρ S d S' hs ok e Q q => by
  unfold mPop at e
  split at e <;> first | (cases e; done) | skip
  rename_i n en
  cases e0 : S[n]?.join with
  | none => rw [e0] at e; cases e
  | some xs =>
    rw [e0, Option.bind_some] at e
    cases e1 : xs[xs.length - 1]? with
    | none => rw [e1] at e; cases e
    | some y =>
      rw [e1] at e
      cases e
      obtain ⟨a, vs, hw, c2, c3, c4⟩ := cell_at hs ok en (join_some e0)
      obtain ⟨v, e2, r⟩ := c4.get e1
      refine ⟨_, hw, tyl c3, ⟨a, vs, v, rfl, rfl, c3, by rw [c4.len]; exact e2, ?_⟩⟩
      have xc : Ext M H M (upd H a (.lst vs.dropLast)) := Ext.setc (List.mem_of_getElem? c2) c3
      exact q _ _ M xc (ok.setc c2 c3 c4.dropLast) (r.mono xc)
/-! ### loops -/
def forRun (mg : MG) (mb : MS) : List D → Rho → Sto → Option (Out × Rho × Sto)
  | [], ρ, S => some (.nx, ρ, S)
  | x :: xs, ρ, S => (mg x ρ).bind fun ρ1 => (mb ρ1 S).bind fun p => match p.1 with
    | .nx => forRun mg mb xs p.2.1 p.2.2
    | .ct => forRun mg mb xs p.2.1 p.2.2
    | .bk => some (.nx, p.2)
    | .rt r => some (.rt r, p.2)
def mFor (mi : MN) (mg : MG) (mb : MS) : MS := fun ρ S => (mi ρ S).bind fun p => forRun mg mb p.1 ρ p.2
theorem imc_for {wi : TI} {g : TG} {tb : TS} {mi : MN} {mg : MG} {mb : MS} (hi : ImI K wi mi) (hg : ImG K g mg) (h : ImC K b tb mb) : ImC K b (tFor wi g tb) (mFor mi mg mb) := fun M0 H0 σ H M ρ S o ρ' S' hb hl x0 hs ok e D q => by
  unfold mFor at e
  cases e1 : mi ρ S with
  | none => rw [e1] at e; cases e
  | some p =>
    rw [e1, Option.bind_some] at e
    obtain ⟨xs, S1⟩ := p
    simp only at e
    refine hi σ H M ρ S xs S1 hs ok e1 _ fun J H1 M1 x1 ok1 it => ?_
    refine ⟨fun i m σi Hi => m = xs.length - i ∧ i ≤ xs.length ∧ ∃ (Mi : Adr) (ρi : Rho) (Si : Sto), Ext M1 H1 Mi Hi ∧ Ok K Mi Si Hi ∧ RSt K Mi Hi σi ρi ∧ forRun mg mb (xs.drop i) ρi Si = some (o, ρ', S'),
      ⟨xs.length, by omega, Nat.zero_le _, M1, ρ, S1, .refl, ok1, hs.mono x1, e⟩, ?_⟩
    rintro i m σi Hi ⟨rfl, hle, Mi, ρi, Si, xi, oki, hsi, er⟩
    have J1 := it Mi Hi Si xi oki i
    by_cases hlt : i < xs.length
    · refine .inr ⟨J1.2.1 hlt, fun σn Hn => ∃ (Mi : Adr) (ρi : Rho) (Si : Sto), Ext M1 H1 Mi Hn ∧ Ok K Mi Si Hn ∧ RSt K Mi Hn σn ρi ∧ forRun mg mb (xs.drop (i + 1)) ρi Si = some (o, ρ', S'), fun σn Hn hN => ⟨xs.length - (i + 1), by omega, rfl, by omega, hN⟩, fun x H2 hx => ?_⟩
      have ed : xs.drop i = xs[i] :: xs.drop (i + 1) := List.drop_eq_getElem_cons hlt
      rw [ed] at er
      unfold forRun at er
      obtain ⟨x2, ok2, r2⟩ := J1.2.2 x H2 xs[i] (List.getElem?_eq_getElem hlt) hx
      cases e2 : mg xs[i] ρi with
      | none => rw [e2] at er; cases er
      | some ρ1 =>
        rw [e2, Option.bind_some] at er
        refine hg _ H2 Mi ρi ρ1 x xs[i] (hsi.mono x2) r2 e2 _ fun σ' hs' => ?_
        cases e3 : mb ρ1 Si with
        | none => rw [e3] at er; cases er
        | some p3 =>
          rw [e3, Option.bind_some] at er
          obtain ⟨o3, ρ3, S3⟩ := p3
          have xx := xi.trans x2
          refine h M0 H0 σ' H2 Mi ρ1 Si o3 ρ3 S3 hb hl ((x0.trans x1).trans xx) hs' ok2 e3 _ ?_
          cases o3 with
          | nx => exact fun σ4 H4 M4 x4 ok4 hs4 => ⟨M4, ρ3, S3, xx.trans x4, ok4, hs4, er⟩
          | ct => exact fun σ4 H4 M4 x4 ok4 hs4 => ⟨M4, ρ3, S3, xx.trans x4, ok4, hs4, er⟩
          | bk => cases er; exact fun σ4 H4 M4 x4 ok4 hs4 => q σ4 H4 M4 ((x1.trans xx).trans x4) ok4 hs4
          | rt r => cases er; exact fun v H4 M4 x4 ok4 hr => q v H4 M4 ((x1.trans xx).trans x4) ok4 hr
    · refine .inl ⟨J1.1 (by omega), ?_⟩
      have e0 : xs.drop i = [] := List.drop_eq_nil_of_le (by omega)
      rw [e0] at er
      cases er
      exact q σi Hi Mi (x1.trans xi) oki hsi
def whRun (c : MT) (mb : MS) : Nat → Rho → Sto → Option (Out × Rho × Sto)
  | 0, _, _ => none
  | n + 1, ρ, S => (c ρ S).bind fun p => if p.1 then (mb ρ p.2).bind fun q => match q.1 with
      | .nx => whRun c mb n q.2.1 q.2.2
      | .ct => whRun c mb n q.2.1 q.2.2
      | .bk => some (.nx, q.2)
      | .rt r => some (.rt r, q.2)
    else some (.nx, ρ, p.2)
theorem imc_while {t : TT} {tb : TS} {c : MT} {mb : MS} {n : Nat} (hc : ImT K t c) (h : ImC K b tb mb) : ImC K b (tWhile t tb) (whRun c mb n) := fun M0 H0 σ H M ρ S o ρ' S' hb hl x0 hs ok e D q => by
  refine ⟨fun m σi Hi => ∃ (Mi : Adr) (ρi : Rho) (Si : Sto), Ext M H Mi Hi ∧ Ok K Mi Si Hi ∧ RSt K Mi Hi σi ρi ∧ whRun c mb m ρi Si = some (o, ρ', S'), ⟨n, M, ρ, S, .refl, ok, hs, e⟩, ?_⟩
  rintro m σi Hi ⟨Mi, ρi, Si, xi, oki, hsi, er⟩
  cases m with
  | zero => cases er
  | succ m =>
    unfold whRun at er
    cases e1 : c ρi Si with
    | none => rw [e1] at er; cases er
    | some p =>
      rw [e1, Option.bind_some] at er
      obtain ⟨y, S1⟩ := p
      refine hc σi Hi Mi ρi Si y S1 hsi oki e1 _ fun H1 M1 x1 ok1 => ?_
      cases y with
      | false =>
        rw [if_neg Bool.false_ne_true]
        rw [if_neg Bool.false_ne_true] at er
        cases er
        exact q σi H1 M1 (xi.trans x1) ok1 (hsi.mono x1)
      | true =>
        rw [if_pos rfl]
        rw [if_pos rfl] at er
        cases e3 : mb ρi S1 with
        | none => rw [e3] at er; cases er
        | some p3 =>
          rw [e3, Option.bind_some] at er
          obtain ⟨o3, ρ3, S3⟩ := p3
          have xx := xi.trans x1
          refine ⟨fun σn Hn => ∃ (Mi : Adr) (ρi : Rho) (Si : Sto), Ext M H Mi Hn ∧ Ok K Mi Si Hn ∧ RSt K Mi Hn σn ρi ∧ whRun c mb m ρi Si = some (o, ρ', S'), fun σn Hn hN => ⟨m, Nat.lt_succ_self m, hN⟩, ?_⟩
          refine h M0 H0 σi H1 M1 ρi S1 o3 ρ3 S3 hb hl (x0.trans xx) (hsi.mono x1) ok1 e3 _ ?_
          cases o3 with
          | nx => exact fun σ4 H4 M4 x4 ok4 hs4 => ⟨M4, ρ3, S3, xx.trans x4, ok4, hs4, er⟩
          | ct => exact fun σ4 H4 M4 x4 ok4 hs4 => ⟨M4, ρ3, S3, xx.trans x4, ok4, hs4, er⟩
          | bk => cases er; exact fun σ4 H4 M4 x4 ok4 hs4 => q σ4 H4 M4 (xx.trans x4) ok4 hs4
          | rt r => cases er; exact fun v H4 M4 x4 ok4 hr => q v H4 M4 (xx.trans x4) ok4 hr

/-! ### defs and their calls -/
def mDef (np ns : Nat) (body : Nat → MS) : Fn := fun as S => if as.length = np then (body S.length (as.map some ++ List.replicate (ns - np) none) S).bind fun p => match p.1 with
    | .nx => some (.val .none, p.2.2.take S.length)
    | .rt r => some (r, p.2.2.take S.length)
    | _ => none
  else none
def PostF (K : PySem.W.Frag) (M : Adr) (H : Hp) (S' : Sto) (Q : VK) : Rt → Prop
  | .val d => ∀ v H' M', Ext M H M' H' → Ok K M' S' H' → Rl K M' H' v d → Q v H'
  | .new ds => ∀ a vs H' M', Ext M H M' H' → Ok K M' S' H' → H a = none → H' a = some (.lst vs) → a ∈ M'.g → RlA K M' H' vs ds → Q (.ref a) H'
def spD (K : PySem.W.Frag) (np : Nat) (g : Fn) : Sp := fun vs H Q _ => vs.length = np ∧ ∃ (M : Adr) (S : Sto) (as : List Sl) (r : Rt) (S' : Sto), Ok K M S H ∧ RSlA K M H vs as ∧ g as S = some (r, S') ∧ PostF K M H S' Q r
theorem RSlA.st {vs : List V} {as : List Sl} (h : RSlA K M H vs as) (k : Nat) : RSt K M H (vs.map some ++ List.replicate k none) (as.map some ++ List.replicate k none) := by
  induction h with
  | nil =>
    refine ⟨by simp, fun i s e => ?_⟩
    simp only [List.map_nil, List.nil_append] at e
    have := List.getElem?_eq_some_iff.mp e
    obtain ⟨h1, h2⟩ := this
    rw [List.getElem_replicate] at h2
    cases h2
  | @cons v vs s ss h1 h2 ih =>
    refine ⟨by simpa using ih.len, fun i t e => ?_⟩
    cases i with
    | zero => cases e; exact ⟨v, rfl, h1⟩
    | succ i => exact ih.at_ i t e
theorem start_eq {N : List Str} {vs : List V} {n : Nat} (h : vs.length = n) : L2.start N vs = vs.map some ++ List.replicate (N.length - n) none := by
  unfold L2.start
  rw [h]
theorem ok_take {S2 : Sto} {n : Nat} (ok : Ok K M' S2 H') (hn : n ≤ M'.c.length) : Ok K (M'.tk n) (S2.take n) H' :=
  ⟨by show (M'.c.take n).length = _; rw [List.length_take, List.length_take, ok.len], fun i j a h1 h2 => by
    have g : ∀ i, (M'.c.take n)[i]? = some (some a) → M'.c[i]? = some (some a) := fun i h => by
      have hi : i < n := by
        have := (List.getElem?_eq_some_iff.mp h).1
        rw [List.length_take] at this; omega
      rw [List.getElem?_take_of_lt hi] at h; exact h
    exact ok.inj i j a (g i h1) (g j h2), fun k xs e => by
    have hk : k < n := by
      have := (List.getElem?_eq_some_iff.mp e).1
      rw [List.length_take] at this; omega
    rw [List.getElem?_take_of_lt hk] at e
    obtain ⟨a, vs, c1, c2, c3⟩ := ok.cell k xs e
    exact ⟨a, vs, by show (M'.c.take n)[k]? = _; rw [List.getElem?_take_of_lt hk]; exact c1, c2, c3.anti fun _ => Adr.tkmem⟩, fun a h => ok.lst a (Adr.tkmem h), fun a h => ok.dj a (List.mem_of_mem_take h)⟩
theorem ok_takeg {S2 : Sto} {n : Nat} {a : Addr} (ok : Ok K M' S2 H') (hn : n ≤ M'.c.length) (ha : M'.mem a) (hc : some a ∉ M'.c.take n) : Ok K ((M'.tk n).gh a) (S2.take n) H' :=
  have o := ok_take ok hn
  have sub : ∀ c, ((M'.tk n).gh a).mem c → M'.mem c := fun c z => by
    rcases z with z | z
    · exact .inl (List.mem_of_mem_take z)
    · rcases List.mem_cons.mp z with z | z
      · rw [z]; exact ha
      · exact .inr z
  ⟨o.len, o.inj, fun k xs e => by
    have hk : k < n := by
      have := (List.getElem?_eq_some_iff.mp e).1
      rw [List.length_take] at this; omega
    rw [List.getElem?_take_of_lt hk] at e
    obtain ⟨c, vs, c1, c2, c3⟩ := ok.cell k xs e
    exact ⟨c, vs, by show (M'.c.take n)[k]? = _; rw [List.getElem?_take_of_lt hk]; exact c1, c2, c3.anti sub⟩, fun c h => ok.lst c (sub c h), fun c h z => by
    rcases List.mem_cons.mp z with z | z
    · rw [z] at h; exact hc h
    · exact o.dj c h z⟩
theorem ext_tk {n : Nat} (x : Ext M H M' H') (hn : M.c.length = n) : Ext M H (M'.tk n) H' :=
  ⟨fun i a h => by
    have h : (M'.c.take n)[i]? = some (some a) := h
    have hi : i < n := by
      have := (List.getElem?_eq_some_iff.mp h).1
      rw [List.length_take] at this; omega
    rw [List.getElem?_take_of_lt hi] at h
    exact x.subn i a h, x.gs, x.gk, fun i a h => by
    have hi : i < n := by rw [← hn]; exact (List.getElem?_eq_some_iff.mp h).1
    show (M'.c.take n)[i]? = _ ∨ (M'.c.take n)[i]? = _
    rw [List.getElem?_take_of_lt hi]
    exact x.pos i a h, fun i h => by
    have hi : i < n := by rw [← hn]; exact (List.getElem?_eq_some_iff.mp h).1
    show (M'.c.take n)[i]? = _
    rw [List.getElem?_take_of_lt hi]
    exact x.dead i h, x.keep, x.free⟩
theorem ext_gh {a : Addr} (x : Ext M H M' H') (h : H a = none) : Ext M H (M'.gh a) H' :=
  ⟨x.subn, fun c z => (List.mem_cons.mp z).elim (fun e => .inr (by rw [e]; exact h)) (x.gs c), fun c z => List.mem_cons_of_mem _ (x.gk c z), x.pos, x.dead, x.keep, x.free⟩
/-- THE RULE for a def -/
theorem def_ok {P : Program} {w : World} {mg : Str → Option Value} {base : Heap} {x qual : Str} {st : Stmt} {f : Addr} {fd : FuncData} {N ps : List Str} {k np ns : Nat} {body : Nat → MS} (F : Fun K x qual st f fd) (Sc : FnScope N ps (defScope st)) (hp : ps.length = np) (hN : N.length = ns)
    (h : ∀ (cdv : Value) (A : Around) (outer : List Env) (s : Shared) (H : Hp) (E : XK) (b : Nat), Room k (A.deeper (PyProof.Rows.envOfC qual (defScope st) s.heap.objs.size f cdv)) →
      ∃ t, PSs (cxOf CX0 P w K mg base N qual (defScope st) f cdv A outer s H E).nox (defBody st) t ∧ ImC K b t (body b)) : FnOk P w K mg base CX0 (k + 1) f fd ps (spD K np (mDef np ns body)) := by
  refine F.ok Sc (fun vs H Q E h => by rw [hp]; exact h.1) (fun cdv A outer s H vs Q E hr hsp => ?_)
  obtain ⟨hn, M, S, as, r, S', ok, ra, e, q⟩ := hsp
  obtain ⟨t, h1, h2⟩ := h cdv A outer s H E S.length hr
  refine ⟨t, h1, ?_⟩
  unfold mDef at e
  have ha : as.length = np := by rw [← ra.len]; exact hn
  rw [if_pos ha] at e
  rw [start_eq hn, hN]
  cases e1 : body S.length (as.map some ++ List.replicate (ns - np) none) S with
  | none => rw [e1] at e; cases e
  | some p =>
    rw [e1, Option.bind_some] at e
    obtain ⟨o, ρ', S2⟩ := p
    refine h2 M H _ H M _ S o ρ' S2 ok.len ok.lst .refl (ra.st _) ok e1 _ ?_
    cases o with
    | bk => cases e
    | ct => cases e
    | nx =>
      cases e
      exact fun σ' H' M' x' ok' _ => q _ _ _ (ext_tk x' ok.len) (ok_take ok' (by rw [← ok.len]; exact x'.len)) .non
    | rt r' =>
      cases e
      intro v H' M' x' ok' hr'
      cases r with
      | val d => exact q _ _ _ (ext_tk x' ok.len) (ok_take ok' (by rw [← ok.len]; exact x'.len)) hr'
      | new ds =>
        obtain ⟨a, vs', rfl, n0, n1, n2, n3, n4⟩ := hr'
        refine q a vs' H' ((M'.tk S.length).gh a) (ext_gh (ext_tk x' ok.len) n0) (ok_takeg ok' (by rw [← ok.len]; exact x'.len) n2 n3) n0 n1 List.mem_cons_self (n4.anti fun c z => ?_)
        rcases z with z | z
        · exact .inl (List.mem_of_mem_take z)
        · rcases List.mem_cons.mp z with z | z
          · rw [z]; exact n2
          · exact .inr z
/-- nothing is known of a call with no level left -/
theorem def_0 {P : Program} {w : World} {mg : Str → Option Value} {base : Heap} {f : Addr} {fd : FuncData} {ps : List Str} {k np : Nat} {g : Fn} (hg : ∀ as S, g as S = none) : FnOk P w K mg base CX0 k f fd ps (spD K np g) := by
  have no : ∀ vs H Q E, ¬ spD K np g vs H Q E := fun vs H Q E h => by
    obtain ⟨_, M, S, as, r, S', _, _, e, _⟩ := h
    rw [hg] at e
    cases e
  exact ⟨fun vs H Q E h => absurd h (no vs H Q E), fun A outer s H args us vs Q E _ _ _ _ h => absurd h (no vs H Q E)⟩
/-- a call: data, or a new list -/
def rtD : Rt → D
  | .val d => d
  | .new ds => .list ds
def rtN : Rt → Option (List D)
  | .new ds => some ds
  | _ => none
def mCall (np : Nat) (g : Fn) (m : MA) : ME := fun ρ S => (m ρ S).bind fun p => if p.1.length = np then (g p.1 p.2).map fun q => (rtD q.1, q.2) else none
def mCallN (np : Nat) (g : Fn) (m : MA) : MN := fun ρ S => (m ρ S).bind fun p => if p.1.length = np then (g p.1 p.2).bind fun q => (rtN q.1).map fun xs => (xs, q.2) else none
theorem im_callN {g : Fn} {np : Nat} {t : TA} {m : MA} {E : XK} (h : ImA K t m) : ImN K (tCall (spD K np g) [] E t) (mCallN np g m) := fun σ H M ρ S xs S' hs ok e Q q => by
  unfold mCallN at e
  cases e1 : m ρ S with
  | none => rw [e1] at e; cases e
  | some p =>
    rw [e1, Option.bind_some] at e
    split at e <;> first | (cases e; done) | skip
    rename_i hnp
    cases e2 : g p.1 p.2 with
    | none => rw [e2] at e; cases e
    | some p2 =>
      rw [e2, Option.bind_some] at e
      obtain ⟨r, S2⟩ := p2
      cases r <;> cases e
      refine h σ H M ρ S p.1 p.2 hs ok e1 _ fun vs H1 M1 x1 ok1 r1 => ?_
      show spD K np g (vs ++ []) H1 Q E
      rw [List.append_nil]
      exact ⟨by rw [r1.len]; exact hnp, M1, p.2, p.1, _, _, ok1, r1, e2, fun a ws H2 M2 x2 ok2 n0 n1 n2 r2 => q a ws H2 M2 (x1.trans x2) ok2 (x1.free a n0) n1 n2 r2⟩
theorem im_call {g : Fn} {np : Nat} {t : TA} {m : MA} {E : XK} (h : ImA K t m) : ImE K (tCall (spD K np g) [] E t) (mCall np g m) := fun σ H M ρ S d S' hs ok e Q q => by
  unfold mCall at e
  cases e1 : m ρ S with
  | none => rw [e1] at e; cases e
  | some p =>
    rw [e1, Option.bind_some] at e
    split at e <;> first | (cases e; done) | skip
    rename_i hnp
    cases e2 : g p.1 p.2 with
    | none => rw [e2] at e; cases e
    | some p2 =>
      rw [e2] at e
      obtain ⟨r, S2⟩ := p2
      cases e
      refine h σ H M ρ S p.1 p.2 hs ok e1 _ fun vs H1 M1 x1 ok1 r1 => ?_
      show spD K np g (vs ++ []) H1 Q E
      rw [List.append_nil]
      refine ⟨by rw [r1.len]; exact hnp, M1, p.2, p.1, r, _, ok1, r1, e2, ?_⟩
      cases r with
      | val d => exact fun v H2 M2 x2 ok2 r2 => q v H2 M2 (x1.trans x2) ok2 r2
      | new ds => exact fun a ws H2 M2 x2 ok2 n0 n1 n2 r2 => q _ H2 (M2.ug M1) (x1.trans x2.ungh) (ok2.ug x2.gk) (.lst (.inl ⟨.inl n1, fun z => z.elim (fun z => ok2.dj a z n2) fun z => ok1.notin n0 (.inr z)⟩) (r2.anti fun _ z => x2.ugmem z))
end
end G
set_option Elab.async false
set_option linter.all false
set_option autoImplicit false
set_option maxRecDepth 100000
set_option maxHeartbeats 4000000
namespace G
open PySem L2

/-- contexts that are alike: a def's body, a comprehension's block however it starts -/
structure Fam (ι : Type) where
  X : ι → Cx
  K : PySem.W.Frag
  k : Nat
  hK : ∀ i, (X i).K = K
  calm : ∀ i, (X i).calm = true
  room : ∀ i, Room k (X i).A
  nd : ∀ i, (X i).N.Nodup
abbrev BI := Shared × Hp × Addr × List (Str × Addr) × List Addr
def Fam.blk {ι : Type} (F : Fam ι) (scope : Scope) : Fam (ι × BI) where
  X := fun p => (F.X p.1).blk p.2.1 p.2.2.1 scope (compEnvC scope p.2.2.2.2.1 p.2.2.2.1 (F.X p.1).env) p.2.2.2.2.2
  K := F.K
  k := F.k
  hK := fun p => F.hK p.1
  calm := fun p => F.calm p.1
  room := fun p => F.room p.1
  nd := fun p => F.nd p.1
section
variable {ι : Type} (F : Fam ι)
def PDE (e : Expr) (m : ME) : Prop := ∃ t, (∀ i, PE (F.X i) e t) ∧ ImE F.K t m
def PDN (e : Expr) (m : MN) : Prop := ∃ t, (∀ i, PE (F.X i) e t) ∧ ImN F.K t m
def PDQ (e : Expr) (m : MN) : Prop := ∃ t, (∀ i, PE (F.X i) e t) ∧ ImQ F.K t m
def PDL (e : Expr) (m : MN) : Prop := ∃ t, (∀ i, PE (F.X i) e t) ∧ ImL F.K t m
def PDT (e : Expr) (m : MT) : Prop := ∃ t, (∀ i, PT (F.X i) e t) ∧ ImT F.K t m
def PDW (e : Expr) (m : MT) : Prop := ∃ t, (∀ i, PW (F.X i) e t) ∧ ImT F.K t m
def PDA (es : List Expr) (m : MA) : Prop := ∃ t, (∀ i, PA (F.X i) es t) ∧ ImA F.K t m
def PDO (e : Option Expr) (m : MO) : Prop := ∃ t, (∀ i, PO (F.X i) e t) ∧ ImO F.K t m
def PDG (e : Expr) (m : MG) : Prop := ∃ t, (∀ i, PG (F.X i) e t) ∧ ImG F.K t m
def PDGs (e : List Expr) (m : MGs) : Prop := ∃ t, (∀ i, PGs (F.X i) e t) ∧ ImGs F.K t m
def PDI (tg e : Expr) (m : MN) : Prop := ∃ t, (∀ i, PI (F.X i) tg e t) ∧ ImI F.K t m
def PDTs (e : List Expr) (m : MT) : Prop := ∃ t, (∀ i, PTs (F.X i) e t) ∧ ImT F.K t m
def PDS (b : Nat) (st : Stmt) (m : MS) : Prop := ∃ t, (∀ i, PS (F.X i) st t) ∧ ImC F.K b t m
def PDSs (b : Nat) (st : List Stmt) (m : MS) : Prop := ∃ t, (∀ i, PSs (F.X i) st t) ∧ ImC F.K b t m
end
section
variable {ι : Type} {F : Fam ι} {a e c : Expr} {es : List Expr} {ma mb mc me : ME} {mn mn2 : MN} {mt mt2 : MT} {m : MA} {pos : Pos} {b : Nat}
/-! ### names, constants -/
theorem d_var (j : Nat) {x : Str} (hN : ∀ i, (F.X i).N[j]? = some x := by exact fun _ => rfl) (hv : ∀ i, Vis (F.X i).env.scope x := by first | exact fun _ => Or.inl rfl | exact fun _ => Or.inr (Or.inl rfl) | exact fun _ => Or.inr (Or.inr rfl))
    (hd : (x == ("__debug__" : Str)) = false := by decide) (hcd : (x == ("__classdict__" : Str)) = false := by decide) : PDE F (.Name x pos) (mVar j) := ⟨_, fun i => pe_var (hN i) (hv i) hd hcd, im_var j⟩
theorem d_qvar (j : Nat) {x : Str} (hN : ∀ i, (F.X i).N[j]? = some x := by exact fun _ => rfl) (hv : ∀ i, Vis (F.X i).env.scope x := by first | exact fun _ => Or.inl rfl | exact fun _ => Or.inr (Or.inl rfl) | exact fun _ => Or.inr (Or.inr rfl))
    (hd : (x == ("__debug__" : Str)) = false := by decide) (hcd : (x == ("__classdict__" : Str)) = false := by decide) : PDQ F (.Name x pos) (mQVar j) := ⟨_, fun i => pe_var (hN i) (hv i) hd hcd, im_qvar j⟩
theorem d_lvar (j : Nat) {x : Str} (hN : ∀ i, (F.X i).N[j]? = some x := by exact fun _ => rfl) (hv : ∀ i, Vis (F.X i).env.scope x := by first | exact fun _ => Or.inl rfl | exact fun _ => Or.inr (Or.inl rfl) | exact fun _ => Or.inr (Or.inr rfl))
    (hd : (x == ("__debug__" : Str)) = false := by decide) (hcd : (x == ("__classdict__" : Str)) = false := by decide) : PDL F (.Name x pos) (mLVar j) := ⟨_, fun i => pe_var (hN i) (hv i) hd hcd, im_lvar j⟩
theorem d_int {n : Int} {j} : PDE F (.Constant (.int n) j pos) (mC (.int n)) := ⟨_, fun _ => pe_int, im_int n⟩
theorem d_bl {n : Bool} {j} : PDE F (.Constant (.bool n) j pos) (mC (.bool n)) := ⟨_, fun _ => pe_bl, im_bl n⟩
theorem d_str {n : Str} {j} : PDE F (.Constant (.str n) j pos) (mC (.str n)) := ⟨_, fun _ => pe_str, im_str n⟩
theorem d_non {j} : PDE F (.Constant .none j pos) (mC .none) := ⟨_, fun _ => pe_non, im_non⟩
/-- a module's int -/
theorem d_glob {n : Int} {t : Tok} {x : Str} (hm : ∀ i, (F.X i).mg x = some (.int n t)) (hg : ∀ i, Gl (F.X i) x := by exact fun _ => rfl) (hd : (x == ("__debug__" : Str)) = false := by decide) : PDE F (.Name x pos) (mC (.int n)) :=
  ⟨_, fun i => pe_glob (v := .int n) (hg i) (hm i) ⟨t, rfl⟩ hd, im_int n⟩
/-! ### kinds -/
theorem d_qe (h : PDE F e me) : PDQ F e (mQE me) := let ⟨t, h1, h2⟩ := h; ⟨t, h1, im_qe h2⟩
theorem d_le (h : PDE F e me) : PDL F e (mLE me) := let ⟨t, h1, h2⟩ := h; ⟨t, h1, im_le h2⟩
theorem d_qn (h : PDN F e mn) : PDQ F e mn := let ⟨t, h1, h2⟩ := h; ⟨t, h1, im_qn h2⟩
theorem d_ln (h : PDN F e mn) : PDL F e mn := let ⟨t, h1, h2⟩ := h; ⟨t, h1, im_ln h2⟩
theorem d_en (h : PDN F e mn) : PDE F e (mEN mn) := let ⟨t, h1, h2⟩ := h; ⟨t, h1, im_en h2⟩
/-! ### operators -/
theorem d_add (h1 : PDE F a ma) (h2 : PDE F e mb) : PDE F (.BinOp a .Add e pos) (mOp fAdd ma mb) := by
  obtain ⟨t1, p1, q1⟩ := h1
  obtain ⟨t2, p2, q2⟩ := h2
  exact ⟨_, fun i => pe_op (by have := op_addX (X := F.X i); rw [F.hK i] at this; exact this) (p1 i) (p2 i), im_op imr_add q1 q2⟩
theorem d_sub (h1 : PDE F a ma) (h2 : PDE F e mb) : PDE F (.BinOp a .Sub e pos) (mOp fSub ma mb) := by
  obtain ⟨t1, p1, q1⟩ := h1
  obtain ⟨t2, p2, q2⟩ := h2
  exact ⟨_, fun i => pe_op op_sub (p1 i) (p2 i), im_op imr_sub q1 q2⟩
theorem d_mul (h1 : PDE F a ma) (h2 : PDE F e mb) : PDE F (.BinOp a .Mult e pos) (mOp fMul ma mb) := by
  obtain ⟨t1, p1, q1⟩ := h1
  obtain ⟨t2, p2, q2⟩ := h2
  exact ⟨_, fun i => pe_op op_mul (p1 i) (p2 i), im_op imr_mul q1 q2⟩
theorem d_div (h1 : PDE F a ma) (h2 : PDE F e mb) : PDE F (.BinOp a .FloorDiv e pos) (mOp fDiv ma mb) := by
  obtain ⟨t1, p1, q1⟩ := h1
  obtain ⟨t2, p2, q2⟩ := h2
  exact ⟨_, fun i => pe_op op_fdiv (p1 i) (p2 i), im_op imr_div q1 q2⟩
theorem d_mod (h1 : PDE F a ma) (h2 : PDE F e mb) : PDE F (.BinOp a .Mod e pos) (mOp fMod ma mb) := by
  obtain ⟨t1, p1, q1⟩ := h1
  obtain ⟨t2, p2, q2⟩ := h2
  exact ⟨_, fun i => pe_op op_mod (p1 i) (p2 i), im_op imr_mod q1 q2⟩
theorem d_pow (h1 : PDE F a ma) (h2 : PDE F e mb) : PDE F (.BinOp a .Pow e pos) (mOp fPow ma mb) := by
  obtain ⟨t1, p1, q1⟩ := h1
  obtain ⟨t2, p2, q2⟩ := h2
  exact ⟨_, fun i => pe_op op_pow (p1 i) (p2 i), im_op imr_pow q1 q2⟩
theorem d_neg (h1 : PDE F a ma) : PDE F (.UnaryOp .USub a pos) (mUn fNeg ma) := by
  obtain ⟨t1, p1, q1⟩ := h1
  exact ⟨_, fun i => pe_un un_neg (p1 i), im_un imu_neg q1⟩
/-- [..] + [..] -/
theorem d_cat (h1 : PDN F a mn) (h2 : PDN F e mn2) : PDN F (.BinOp a .Add e pos) (mCat mn mn2) := by
  obtain ⟨t1, p1, q1⟩ := h1
  obtain ⟨t2, p2, q2⟩ := h2
  exact ⟨_, fun i => pe_op op_cat (p1 i) (p2 i), im_catN q1 q2⟩
/-! ### comparisons: the rule of a sign, by data -/
def CmpOk (F : Fam ι) (op : CmpOp) (f : D → D → Option D) : Prop := ∃ r, (∀ i, OpR (F.X i) (compareOp op) r) ∧ ImR F.K r f
theorem k_units (F : Fam ι) (i : ι) : (F.X i).A.units + 64 < cLine := by have := (F.room i).un; omega
theorem k_eq : CmpOk F .Eq fEq := ⟨_, fun i => by have := op_eqD (X := F.X i) (k_units F i); rw [F.hK i] at this; exact this, imr_eq⟩
theorem k_ne : CmpOk F .NotEq fNe := ⟨_, fun i => by have := op_neD (X := F.X i) (k_units F i); rw [F.hK i] at this; exact this, imr_ne⟩
theorem k_lt : CmpOk F .Lt fLt := ⟨_, fun _ => op_lt, imr_lt⟩
theorem k_le : CmpOk F .LtE fLe := ⟨_, fun _ => op_le, imr_le⟩
theorem k_gt : CmpOk F .Gt fGt := ⟨_, fun _ => op_gt, imr_gt⟩
theorem k_ge : CmpOk F .GtE fGe := ⟨_, fun _ => op_ge, imr_ge⟩
def fIs (x y : D) : Option D := (fIsB x y).or (fIsN x y)
def fIsNot (x y : D) : Option D := (fNotB x y).or (fNotN x y)
theorem k_is : CmpOk F .Is fIs := ⟨_, fun _ => OpR.or op_is_bl op_isN, imr_or imr_isB imr_isN⟩
theorem k_isnot : CmpOk F .IsNot fIsNot := ⟨_, fun _ => OpR.or op_isnot_bl op_notN, imr_or imr_notB imr_notN⟩
theorem d_cmp {op : CmpOp} {f : D → D → Option D} (k : CmpOk F op f) (h1 : PDE F a ma) (h2 : PDE F e mb) (hm : behindInMarks op e = false := by exact nomark _) : PDE F (.Compare a [op] [e] pos) (mOp f ma mb) := by
  obtain ⟨r, k1, k2⟩ := k
  obtain ⟨t1, p1, q1⟩ := h1
  obtain ⟨t2, p2, q2⟩ := h2
  exact ⟨_, fun i => pe_cmpR (k1 i) (p1 i) (p2 i) hm, im_op k2 q1 q2⟩
theorem d_cmpT {op : CmpOp} {f : D → D → Option D} (k : CmpOk F op f) (h1 : PDE F a ma) (h2 : PDE F e mb) (hm : behindInMarks op e = false := by exact nomark _) : PDT F (.Compare a [op] [e] pos) (mTB (mOp f ma mb)) := by
  obtain ⟨r, k1, k2⟩ := k
  obtain ⟨t1, p1, q1⟩ := h1
  obtain ⟨t2, p2, q2⟩ := h2
  exact ⟨_, fun i => pt_cmpR (k1 i) (p1 i) (p2 i) hm, im_tt (im_op k2 q1 q2)⟩
theorem d_chain {op op' : CmpOp} {f g : D → D → Option D} (k : CmpOk F op f) (k' : CmpOk F op' g) (h1 : PDE F a ma) (h2 : PDE F e mb) (h3 : PDE F c mc) (hm : lastMarks [op, op'] [e, c] = false := by with_unfolding_all rfl) :
    PDE F (.Compare a [op, op'] [e, c] pos) (mChain f g ma mb mc) := by
  obtain ⟨r, k1, k2⟩ := k
  obtain ⟨r', k1', k2'⟩ := k'
  obtain ⟨t1, p1, q1⟩ := h1
  obtain ⟨t2, p2, q2⟩ := h2
  obtain ⟨t3, p3, q3⟩ := h3
  exact ⟨_, fun i => pe_chain (k1 i) (k1' i) (p1 i) (p2 i) (p3 i) hm, im_chain k2 k2' q1 q2 q3⟩
theorem d_chainT {op op' : CmpOp} {f g : D → D → Option D} (k : CmpOk F op f) (k' : CmpOk F op' g) (h1 : PDE F a ma) (h2 : PDE F e mb) (h3 : PDE F c mc) (hm : lastMarks [op, op'] [e, c] = false := by with_unfolding_all rfl) :
    PDT F (.Compare a [op, op'] [e, c] pos) (mTB (mChain f g ma mb mc)) := by
  obtain ⟨r, k1, k2⟩ := k
  obtain ⟨r', k1', k2'⟩ := k'
  obtain ⟨t1, p1, q1⟩ := h1
  obtain ⟨t2, p2, q2⟩ := h2
  obtain ⟨t3, p3, q3⟩ := h3
  exact ⟨_, fun i => pt_chain (k1 i) (k1' i) (p1 i) (p2 i) (p3 i) hm, im_tt (im_chain k2 k2' q1 q2 q3)⟩
/-! ### tests -/
theorem d_tv (h : PDE F e me) (he : ∀ i whole, isTrue e (F.X i).env whole = (do let v ← whole; standAt e.pos; holding [v] (truthy v)) := by intro _ _; rfl) : PDT F e (mTru me) := by
  obtain ⟨t, p, q⟩ := h
  exact ⟨_, fun i => by have := pt_truth (p i) (he i); rw [F.hK i] at this; exact this, im_tru q⟩
theorem d_tq (h : PDQ F e mn) (he : ∀ i whole, isTrue e (F.X i).env whole = (do let v ← whole; standAt e.pos; holding [v] (truthy v)) := by intro _ _; rfl) : PDT F e (mTruQ mn) := by
  obtain ⟨t, p, q⟩ := h
  exact ⟨_, fun i => by have := pt_truth (p i) (he i); rw [F.hK i] at this; exact this, im_truQ q⟩
theorem d_not (h : PDT F e mt) : PDT F (.UnaryOp .Not e pos) (mNot mt) := let ⟨t, p, q⟩ := h; ⟨_, fun i => pt_not (p i), im_not q⟩
theorem d_w (h : PDW F e mt) : PDT F e mt := let ⟨t, p, q⟩ := h; ⟨_, fun i => (p i).pt, q⟩
theorem d_and1 (h : PDT F e mt) : PDW F (.BoolOp .And [e] pos) mt := let ⟨t, p, q⟩ := h; ⟨_, fun i => pw_and1 (p i), q⟩
theorem d_or1 (h : PDT F e mt) : PDW F (.BoolOp .Or [e] pos) mt := let ⟨t, p, q⟩ := h; ⟨_, fun i => pw_or1 (p i), q⟩
theorem d_and (h : PDT F a mt) (h2 : PDW F (.BoolOp .And (e :: es) pos) mt2) : PDW F (.BoolOp .And (a :: e :: es) pos) (mAnd mt mt2) := by
  obtain ⟨t, p, q⟩ := h
  obtain ⟨t2, p2, q2⟩ := h2
  exact ⟨_, fun i => pw_and (p i) (p2 i), im_and q q2⟩
theorem d_or (h : PDT F a mt) (h2 : PDW F (.BoolOp .Or (e :: es) pos) mt2) : PDW F (.BoolOp .Or (a :: e :: es) pos) (mOr mt mt2) := by
  obtain ⟨t, p, q⟩ := h
  obtain ⟨t2, p2, q2⟩ := h2
  exact ⟨_, fun i => pw_or (p i) (p2 i), im_or q q2⟩
theorem d_one {op} (h : PDE F e me) : PDE F (.BoolOp op [e] pos) me := let ⟨t, p, q⟩ := h; ⟨_, fun i => pe_one (p i), q⟩
theorem d_andV (h : PDE F a ma) (h2 : PDE F (.BoolOp .And (e :: es) pos) mb) : PDE F (.BoolOp .And (a :: e :: es) pos) (mAndV ma mb) := by
  obtain ⟨t, p, q⟩ := h
  obtain ⟨t2, p2, q2⟩ := h2
  exact ⟨_, fun i => pe_and (p i) (p2 i), im_andV q q2⟩
theorem d_orV (h : PDE F a ma) (h2 : PDE F (.BoolOp .Or (e :: es) pos) mb) : PDE F (.BoolOp .Or (a :: e :: es) pos) (mOrV ma mb) := by
  obtain ⟨t, p, q⟩ := h
  obtain ⟨t2, p2, q2⟩ := h2
  exact ⟨_, fun i => pe_or (p i) (p2 i), im_orV q q2⟩
theorem d_notV (h : PDE F e me) : PDE F (.UnaryOp .Not e pos) (mNotV me) := let ⟨t, p, q⟩ := h; ⟨_, fun i => pe_not (p i), im_notV q⟩
theorem d_ifE (h : PDT F c mt) (h1 : PDE F a ma) (h2 : PDE F e mb) : PDE F (.IfExp c a e pos) (mIf mt ma mb) := by
  obtain ⟨t, p, q⟩ := h
  obtain ⟨t1, p1, q1⟩ := h1
  obtain ⟨t2, p2, q2⟩ := h2
  exact ⟨_, fun i => pe_ifExp (p i) (p1 i) (p2 i), im_if q q1 q2⟩
/-! ### subscripts, displays -/
theorem d_ix (h1 : PDE F a ma) (h2 : PDE F e mb) (hs : PlainIx e := by exact fun _ _ => rfl) : PDE F (.Subscript a e pos) (mOp fIx ma mb) := by
  obtain ⟨t1, p1, q1⟩ := h1
  obtain ⟨t2, p2, q2⟩ := h2
  exact ⟨_, fun i => pe_ix (by have := ix_seq (X := F.X i); rw [F.hK i] at this; exact this) (p1 i) (p2 i) hs, im_op imr_ix q1 q2⟩
theorem d_ixV (j : Nat) {x : Str} {px : Pos} (h2 : PDE F e mb) (hN : ∀ i, (F.X i).N[j]? = some x := by exact fun _ => rfl) (hv : ∀ i, Vis (F.X i).env.scope x := by first | exact fun _ => Or.inl rfl | exact fun _ => Or.inr (Or.inl rfl) | exact fun _ => Or.inr (Or.inr rfl))
    (hd : (x == ("__debug__" : Str)) = false := by decide) (hcd : (x == ("__classdict__" : Str)) = false := by decide) (hs : PlainIx e := by exact fun _ _ => rfl) : PDE F (.Subscript (.Name x px) e pos) (mIxV j mb) := by
  obtain ⟨t2, p2, q2⟩ := h2
  exact ⟨_, fun i => pe_ix (by have := ix_seq (X := F.X i); rw [F.hK i] at this; exact this) (pe_var (hN i) (hv i) hd hcd) (p2 i) hs, im_ixV q2⟩
theorem d_o0 : PDO F none mO0 := ⟨_, fun _ => po_none, im_o0⟩
theorem d_o1 (h : PDE F e me) : PDO F (some e) (mO1 me) := let ⟨t, p, q⟩ := h; ⟨_, fun i => po_some (p i), im_o1 q⟩
theorem d_slT {lo hi : Option Expr} {ml mh : MO} {p2 : Pos} (h : PDE F e me) (hl : PDO F lo ml) (hh : PDO F hi mh) : PDE F (.Subscript e (.Slice lo hi none p2) pos) (mSlT me ml mh) := by
  obtain ⟨t, p, q⟩ := h
  obtain ⟨t1, p1, q1⟩ := hl
  obtain ⟨t2, p2, q2⟩ := hh
  exact ⟨_, fun i => pe_slice (by have := sl_tupA (X := F.X i); rw [F.hK i] at this; exact this) (p i) (p1 i) (p2 i), im_slT q q1 q2⟩
theorem d_slL {lo hi : Option Expr} {ml mh : MO} {p2 : Pos} (h : PDE F e me) (hl : PDO F lo ml) (hh : PDO F hi mh) : PDN F (.Subscript e (.Slice lo hi none p2) pos) (mSlL (mLE me) ml mh) := by
  obtain ⟨t, p, q⟩ := h
  obtain ⟨t1, p1, q1⟩ := hl
  obtain ⟨t2, p2, q2⟩ := hh
  exact ⟨_, fun i => pe_slice (by have := sl_list (X := F.X i); rw [F.hK i] at this; exact this) (p i) (p1 i) (p2 i), im_slL q q1 q2⟩
theorem d_a0 : PDA F [] mA0 := ⟨_, fun _ => pa_nil, im_a0⟩
theorem d_a1 (h : PDE F e me) (hr : PDA F es m) (hs : ∀ i, starEach (e :: es) (F.X i).env = (false, eval e (F.X i).env) :: starEach es (F.X i).env := by intro _; rfl) : PDA F (e :: es) (mA1 me m) := by
  obtain ⟨t, p, q⟩ := h
  obtain ⟨t1, p1, q1⟩ := hr
  exact ⟨_, fun i => pa_cons (p i) (p1 i) (hs i), im_a1 q q1⟩
theorem d_av (j : Nat) {x : Str} {px : Pos} (hr : PDA F es m) (hN : ∀ i, (F.X i).N[j]? = some x := by exact fun _ => rfl) (hv : ∀ i, Vis (F.X i).env.scope x := by first | exact fun _ => Or.inl rfl | exact fun _ => Or.inr (Or.inl rfl) | exact fun _ => Or.inr (Or.inr rfl))
    (hd : (x == ("__debug__" : Str)) = false := by decide) (hcd : (x == ("__classdict__" : Str)) = false := by decide)
    (hs : ∀ i, starEach (.Name x px :: es) (F.X i).env = (false, eval (.Name x px) (F.X i).env) :: starEach es (F.X i).env := by intro _; rfl) : PDA F (.Name x px :: es) (mAV j m) := by
  obtain ⟨t1, p1, q1⟩ := hr
  exact ⟨_, fun i => pa_cons (pe_var (hN i) (hv i) hd hcd) (p1 i) (hs i), im_av q1⟩
theorem d_tup {x1} (h : PDA F es m) : PDE F (.Tuple es x1 pos) (mTup m) := let ⟨t, p, q⟩ := h; ⟨_, fun i => pe_tup (p i), im_tup q⟩
theorem d_lst (h : PDA F es m) : PDN F (.List es pos) (mLst m) := let ⟨t, p, q⟩ := h; ⟨_, fun i => pe_lst (p i), im_lst q⟩
/-! ### calls of builtins -/
section
variable {x : Str} {px : Pos} {id : String}
/-- a call of a builtin whose one argument's reading is known -/
theorem call1 {r : List V → Hp → VK → Prop} {te : TE} {i : ι} (hc : CallR (F.X i) (.builtin id) r) (hg : Gl (F.X i) x) (hm : (F.X i).mg x = none) (hv : bootBuiltins x = some (.builtin id)) (p : PE (F.X i) e te) (hn : x ≠ "__name__") (hdb : (x == ("__debug__" : Str)) = false)
    (hs : starEach [e] (F.X i).env = (false, eval e (F.X i).env) :: starEach [] (F.X i).env) : PE (F.X i) (.Call (.Name x px) [e] [] pos) (tCB r (tCons te tNil)) :=
  pe_callB hc hg hm hv (pa_cons p pa_nil hs) hn hdb hs rfl
theorem call1t {r : List V → Hp → VK → Prop} {te : TE} {i : ι} (hc : CallR (F.X i) (.type id) r) (hg : Gl (F.X i) x) (hm : (F.X i).mg x = none) (hv : bootBuiltins x = some (.type id)) (p : PE (F.X i) e te) (hn : x ≠ "__name__") (hdb : (x == ("__debug__" : Str)) = false)
    (hs : starEach [e] (F.X i).env = (false, eval e (F.X i).env) :: starEach [] (F.X i).env) : PE (F.X i) (.Call (.Name x px) [e] [] pos) (tCB r (tCons te tNil)) :=
  pe_callTy hc hg hm hv (pa_cons p pa_nil hs) hn hdb hs rfl
end
section
variable {px : Pos}
theorem d_len (hm : ∀ i, (F.X i).mg "len" = none) (h : PDQ F e mn) (hg : ∀ i, Gl (F.X i) "len" := by exact fun _ => rfl) (hs : ∀ i, starEach [e] (F.X i).env = (false, eval e (F.X i).env) :: starEach [] (F.X i).env := by intro _; rfl) :
    PDE F (.Call (.Name "len" px) [e] [] pos) (mLen mn) := by
  obtain ⟨t, p, q⟩ := h
  exact ⟨_, fun i => call1 (by have := call_len_seq (X := F.X i); rw [F.hK i] at this; exact this) (hg i) (hm i) PySem.boot_len (p i) (by decide) (by decide) (hs i), im_len q⟩
theorem d_all (hm : ∀ i, (F.X i).mg "all" = none) (h : PDL F e mn) (hg : ∀ i, Gl (F.X i) "all" := by exact fun _ => rfl) (hs : ∀ i, starEach [e] (F.X i).env = (false, eval e (F.X i).env) :: starEach [] (F.X i).env := by intro _; rfl) :
    PDE F (.Call (.Name "all" px) [e] [] pos) (mAll mn) := by
  obtain ⟨t, p, q⟩ := h
  exact ⟨_, fun i => call1 (by have := cr_all (X := F.X i) (F.calm i); rw [F.hK i] at this; exact this) (hg i) (hm i) (by decide +kernel) (p i) (by decide) (by decide) (hs i), im_all q⟩
theorem d_any (hm : ∀ i, (F.X i).mg "any" = none) (h : PDL F e mn) (hg : ∀ i, Gl (F.X i) "any" := by exact fun _ => rfl) (hs : ∀ i, starEach [e] (F.X i).env = (false, eval e (F.X i).env) :: starEach [] (F.X i).env := by intro _; rfl) :
    PDE F (.Call (.Name "any" px) [e] [] pos) (mAny mn) := by
  obtain ⟨t, p, q⟩ := h
  exact ⟨_, fun i => call1 (by have := cr_any (X := F.X i) (F.calm i); rw [F.hK i] at this; exact this) (hg i) (hm i) (by decide +kernel) (p i) (by decide) (by decide) (hs i), im_any q⟩
theorem d_sum (hm : ∀ i, (F.X i).mg "sum" = none) (h : PDL F e mn) (hg : ∀ i, Gl (F.X i) "sum" := by exact fun _ => rfl) (hs : ∀ i, starEach [e] (F.X i).env = (false, eval e (F.X i).env) :: starEach [] (F.X i).env := by intro _; rfl) :
    PDE F (.Call (.Name "sum" px) [e] [] pos) (mSum mn) := by
  obtain ⟨t, p, q⟩ := h
  exact ⟨_, fun i => call1 (by have := cr_sum (X := F.X i) (F.calm i); rw [F.hK i] at this; exact this) (hg i) (hm i) (by decide +kernel) (p i) (by decide) (by decide) (hs i), im_sum q⟩
theorem d_abs (hm : ∀ i, (F.X i).mg "abs" = none) (h : PDE F e me) (hg : ∀ i, Gl (F.X i) "abs" := by exact fun _ => rfl) (hs : ∀ i, starEach [e] (F.X i).env = (false, eval e (F.X i).env) :: starEach [] (F.X i).env := by intro _; rfl) :
    PDE F (.Call (.Name "abs" px) [e] [] pos) (mB fAbs (mA1 me mA0)) := by
  obtain ⟨t, p, q⟩ := h
  exact ⟨_, fun i => call1 call_abs (hg i) (hm i) (by decide +kernel) (p i) (by decide) (by decide) (hs i), im_b imb_abs (im_a1 q im_a0)⟩
theorem d_int1 (hm : ∀ i, (F.X i).mg "int" = none) (h : PDE F e me) (hg : ∀ i, Gl (F.X i) "int" := by exact fun _ => rfl) (hs : ∀ i, starEach [e] (F.X i).env = (false, eval e (F.X i).env) :: starEach [] (F.X i).env := by intro _; rfl) :
    PDE F (.Call (.Name "int" px) [e] [] pos) (mB fInt (mA1 me mA0)) := by
  obtain ⟨t, p, q⟩ := h
  exact ⟨_, fun i => call1t call_int1 (hg i) (hm i) (by decide +kernel) (p i) (by decide) (by decide) (hs i), im_b imb_int (im_a1 q im_a0)⟩
theorem d_list1 (hm : ∀ i, (F.X i).mg "list" = none) (h : PDQ F e mn) (hg : ∀ i, Gl (F.X i) "list" := by exact fun _ => rfl) (hs : ∀ i, starEach [e] (F.X i).env = (false, eval e (F.X i).env) :: starEach [] (F.X i).env := by intro _; rfl) :
    PDN F (.Call (.Name "list" px) [e] [] pos) (mList mn) := by
  obtain ⟨t, p, q⟩ := h
  exact ⟨_, fun i => call1t (by have := call_list_of (X := F.X i); rw [F.hK i] at this; exact this) (hg i) (hm i) (by decide +kernel) (p i) (by decide) (by decide) (hs i), im_list q⟩
theorem d_tuple1 (hm : ∀ i, (F.X i).mg "tuple" = none) (h : PDQ F e mn) (hg : ∀ i, Gl (F.X i) "tuple" := by exact fun _ => rfl) (hs : ∀ i, starEach [e] (F.X i).env = (false, eval e (F.X i).env) :: starEach [] (F.X i).env := by intro _; rfl) :
    PDE F (.Call (.Name "tuple" px) [e] [] pos) (mTuple mn) := by
  obtain ⟨t, p, q⟩ := h
  exact ⟨_, fun i => call1t (by have := call_tuple_of (X := F.X i); rw [F.hK i] at this; exact this) (hg i) (hm i) (by decide +kernel) (p i) (by decide) (by decide) (hs i), im_tuple q⟩
/-- isinstance(x, T), T the name of a built-in type -/
theorem d_isi {T : Str} {n : String} {pT : Pos} (hv : bootBuiltins T = some (.type n)) (hm : ∀ i, (F.X i).mg "isinstance" = none) (hmT : ∀ i, (F.X i).mg T = none) (h : PDE F e me) (hg : ∀ i, Gl (F.X i) "isinstance" := by exact fun _ => rfl) (hgT : ∀ i, Gl (F.X i) T := by exact fun _ => rfl)
    (hn : T ≠ "__name__" := by decide) (hd : (T == ("__debug__" : Str)) = false := by decide)
    (hs : ∀ i, starEach [e, .Name T pT] (F.X i).env = (false, eval e (F.X i).env) :: starEach [.Name T pT] (F.X i).env := by intro _; rfl) (hs2 : ∀ i, starEach [.Name T pT] (F.X i).env = (false, eval (.Name T pT) (F.X i).env) :: starEach [] (F.X i).env := by intro _; rfl)
    (hpl : ∀ i, (backTo pos (starEach [.Name T pT] (F.X i).env)).any (·.1) = false := by intro _; rfl) :
    PDE F (.Call (.Name "isinstance" px) [e, .Name T pT] [] pos) (mIsi n me) := by
  obtain ⟨t, p, q⟩ := h
  exact ⟨_, fun i => pe_callB (by have := call_isi (X := F.X i); rw [F.hK i] at this; exact this) (hg i) (hm i) (by decide +kernel) (pa_cons (p i) (pa_cons (pe_bltn (v := .ty n) (hgT i) (hmT i) hv rfl hn hd) pa_nil (hs2 i)) (hs i)) (by decide) (by decide) (hs i) (hpl i), im_isi q⟩
/-- max(a, b), min(a, b) -/
theorem d_max2 (hm : ∀ i, (F.X i).mg "max" = none) (h : PDE F a ma) (h2 : PDE F e mb) (hg : ∀ i, Gl (F.X i) "max" := by exact fun _ => rfl)
    (hs : ∀ i, starEach [a, e] (F.X i).env = (false, eval a (F.X i).env) :: starEach [e] (F.X i).env := by intro _; rfl) (hs2 : ∀ i, starEach [e] (F.X i).env = (false, eval e (F.X i).env) :: starEach [] (F.X i).env := by intro _; rfl)
    (hpl : ∀ i, (backTo pos (starEach [e] (F.X i).env)).any (·.1) = false := by intro _; rfl) : PDE F (.Call (.Name "max" px) [a, e] [] pos) (mB fMax2 (mA1 ma (mA1 mb mA0))) := by
  obtain ⟨t, p, q⟩ := h
  obtain ⟨t2, p2, q2⟩ := h2
  exact ⟨_, fun i => pe_callB (call_max2 (F.calm i)) (hg i) (hm i) (by decide +kernel) (pa_cons (p i) (pa_cons (p2 i) pa_nil (hs2 i)) (hs i)) (by decide) (by decide) (hs i) (hpl i), im_b imb_max2 (im_a1 q (im_a1 q2 im_a0))⟩
theorem d_min2 (hm : ∀ i, (F.X i).mg "min" = none) (h : PDE F a ma) (h2 : PDE F e mb) (hg : ∀ i, Gl (F.X i) "min" := by exact fun _ => rfl)
    (hs : ∀ i, starEach [a, e] (F.X i).env = (false, eval a (F.X i).env) :: starEach [e] (F.X i).env := by intro _; rfl) (hs2 : ∀ i, starEach [e] (F.X i).env = (false, eval e (F.X i).env) :: starEach [] (F.X i).env := by intro _; rfl)
    (hpl : ∀ i, (backTo pos (starEach [e] (F.X i).env)).any (·.1) = false := by intro _; rfl) : PDE F (.Call (.Name "min" px) [a, e] [] pos) (mB fMin2 (mA1 ma (mA1 mb mA0))) := by
  obtain ⟨t, p, q⟩ := h
  obtain ⟨t2, p2, q2⟩ := h2
  exact ⟨_, fun i => pe_callB (call_min2 (F.calm i)) (hg i) (hm i) (by decide +kernel) (pa_cons (p i) (pa_cons (p2 i) pa_nil (hs2 i)) (hs i)) (by decide) (by decide) (hs i) (hpl i), im_b imb_min2 (im_a1 q (im_a1 q2 im_a0))⟩
end
/-! ### calls of defs -/
theorem d_call {x : Str} {px : Pos} {f : Addr} {fd : FuncData} {ps : List Str} {np : Nat} {g : Fn} (hG : ∀ i, FnOk (F.X i).prog (F.X i).w (F.X i).K (F.X i).mg (F.X i).base CX0 F.k f fd ps (spD F.K np g)) (hm : ∀ i, (F.X i).mg x = some (.ref f)) (hk : PySem.W.keepIn F.K (.ref f) = true) (hb : Binds F.K fd ps [])
    (ha : PDA F (e :: es) m) (hg : ∀ i, Gl (F.X i) x := by exact fun _ => rfl) (hdb : (x == ("__debug__" : Str)) = false := by decide) (he : ∀ i, starEach (e :: es) (F.X i).env = (false, eval e (F.X i).env) :: starEach es (F.X i).env := by intro _; rfl)
    (hpl : ∀ i, (backTo pos (starEach es (F.X i).env)).any (·.1) = false := by intro _; rfl) : PDE F (.Call (.Name x px) (e :: es) [] pos) (mCall np g m) := by
  obtain ⟨t, p, q⟩ := ha
  exact ⟨_, fun i => pe_call (hG i) (F.room i) (hg i) (hm i) (by rw [F.hK i]; exact hk) (by rw [F.hK i]; exact hb) .nil pass0 (p i) hdb (he i) (hpl i), im_call q⟩
theorem d_callN {x : Str} {px : Pos} {f : Addr} {fd : FuncData} {ps : List Str} {np : Nat} {g : Fn} (hG : ∀ i, FnOk (F.X i).prog (F.X i).w (F.X i).K (F.X i).mg (F.X i).base CX0 F.k f fd ps (spD F.K np g)) (hm : ∀ i, (F.X i).mg x = some (.ref f)) (hk : PySem.W.keepIn F.K (.ref f) = true) (hb : Binds F.K fd ps [])
    (ha : PDA F (e :: es) m) (hg : ∀ i, Gl (F.X i) x := by exact fun _ => rfl) (hdb : (x == ("__debug__" : Str)) = false := by decide) (he : ∀ i, starEach (e :: es) (F.X i).env = (false, eval e (F.X i).env) :: starEach es (F.X i).env := by intro _; rfl)
    (hpl : ∀ i, (backTo pos (starEach es (F.X i).env)).any (·.1) = false := by intro _; rfl) : PDN F (.Call (.Name x px) (e :: es) [] pos) (mCallN np g m) := by
  obtain ⟨t, p, q⟩ := ha
  exact ⟨_, fun i => pe_call (hG i) (F.room i) (hg i) (hm i) (by rw [F.hK i]; exact hk) (by rw [F.hK i]; exact hb) .nil pass0 (p i) hdb (he i) (hpl i), im_callN q⟩
/-! ### targets, what is walked -/
theorem d_gn (j : Nat) {x : Str} (hi : ∀ i, (F.X i).N[j]? = some x := by exact fun _ => rfl) (hx : ∀ i, Loc (F.X i).env.scope x := by first | exact fun _ => Or.inl rfl | exact fun _ => Or.inr rfl) (hf : ∀ i, (F.X i).fn x = true ∨ (F.X i).env.scope.names.lookup x = some .local := by first | exact fun _ => .inl rfl | exact fun _ => .inr rfl) :
    PDG F (.Name x pos) (mgN j) := ⟨_, fun i => pg_name (F.nd i) (hi i) (hx i) (hf i), img_n j⟩
theorem d_g0 : PDGs F [] mg0 := ⟨_, fun _ => pgs_nil, img_0⟩
theorem d_g1 {g : MG} {gs : MGs} (h : PDG F e g) (h2 : PDGs F es gs) (hs : ∀ i, (assignEach (e :: es) (F.X i).env).map (·.2) = assign e (F.X i).env :: (assignEach es (F.X i).env).map (·.2) := by intro _; rfl) : PDGs F (e :: es) (mg1 g gs) := by
  obtain ⟨t, p, q⟩ := h
  obtain ⟨t2, p2, q2⟩ := h2
  exact ⟨_, fun i => pgs_cons (p i) (p2 i) (hs i), img_1 q q2⟩
theorem d_gt (n : Nat) {k : Nat} {gs : MGs} (h : PDGs F es gs) (hn : ∀ i, (assignEach es (F.X i).env).length = n := by intro _; rfl) (hst : ∀ i, (assignEach es (F.X i).env).findIdx? (·.1) = none := by intro _; rfl) : PDG F (.Tuple es k pos) (mgT n gs) := by
  obtain ⟨t, p, q⟩ := h
  exact ⟨_, fun i => by have := pg_tup (pos := pos) (k := k) (F.calm i) (p i) (hn i) (hst i); rw [F.hK i] at this; exact this, img_t q⟩
theorem d_i {tg : Expr} (h : PDE F e me) : PDI F tg e (mQE me) := by
  obtain ⟨t, p, q⟩ := h
  exact ⟨_, fun i => by have := pi_any (tg := tg) (p i); rw [F.hK i] at this; exact this, im_i q⟩
theorem d_r1 {tg : Expr} {px : Pos} (hm : ∀ i, (F.X i).mg "range" = none) (h : PDE F e me) (hg : ∀ i, Gl (F.X i) "range" := by exact fun _ => rfl) (hs : ∀ i, starEach [e] (F.X i).env = [(false, eval e (F.X i).env)] := by intro _; rfl)
    (hs2 : ∀ i, starEach [e] (F.X i).env = (false, eval e (F.X i).env) :: starEach [] (F.X i).env := by intro _; rfl) : PDI F tg (.Call (.Name "range" px) [e] [] pos) (mR1 me) := by
  obtain ⟨t, p, q⟩ := h
  exact ⟨_, fun i => pi_range1 (hg i) (hm i) (pa_cons (p i) pa_nil (hs2 i)) (hs i), im_r1 q⟩
theorem d_r2 {tg : Expr} {px : Pos} (hm : ∀ i, (F.X i).mg "range" = none) (h : PDE F a ma) (h2 : PDE F e mb) (hg : ∀ i, Gl (F.X i) "range" := by exact fun _ => rfl) (hs : ∀ i, starEach [a, e] (F.X i).env = [(false, eval a (F.X i).env), (false, eval e (F.X i).env)] := by intro _; rfl)
    (hs2 : ∀ i, starEach [e] (F.X i).env = [(false, eval e (F.X i).env)] := by intro _; rfl) (hs3 : ∀ i, starEach [a, e] (F.X i).env = (false, eval a (F.X i).env) :: starEach [e] (F.X i).env := by intro _; rfl) (hs4 : ∀ i, starEach [e] (F.X i).env = (false, eval e (F.X i).env) :: starEach [] (F.X i).env := by intro _; rfl) :
    PDI F tg (.Call (.Name "range" px) [a, e] [] pos) (mR2 ma mb) := by
  obtain ⟨t, p, q⟩ := h
  obtain ⟨t2, p2, q2⟩ := h2
  exact ⟨_, fun i => pi_range2 (hg i) (hm i) (pa_cons (p i) (pa_cons (p2 i) pa_nil (hs4 i)) (hs3 i)) (hs i) (hs2 i), im_r2 q q2⟩
/-! ### comprehensions -/
theorem d_ts0 : PDTs F [] mYes := ⟨_, fun _ => pts_nil, im_yes⟩
theorem d_ts1 (h : PDT F e mt) : PDTs F [e] mt := by
  obtain ⟨t, p, q⟩ := h
  exact ⟨_, fun i => pts_one (p i), q⟩
/-- the target writes the block's own names alone -/
inductive GNames : Expr → List Nat → (ι : Type) → Fam ι → MG → Prop
theorem d_lc {tg elt : Expr} {ifs : List Expr} {scope : Scope} {own : List (Str × Nat)} {mi : MN} {mg : MG} {g : TG} (hi : PDI F tg e mi) (ok : ∀ i, BlkOk (F.X i).N (F.X i).env.scope scope own)
    (hg : ∀ p, PG ((F.blk scope).X p) tg g) (hgi : ImG F.K g mg) (ho : GOwn g (own.map (·.2))) (ht : PDTs (F.blk scope) ifs mt) (he : PDE (F.blk scope) elt me) (hs : ∀ i x, foldedSetIterable e (F.X i).env x = pure x := by intro _ _; rfl) :
    PDN F (.ListComp elt [⟨tg, e, ifs, 0⟩] scope pos) (mLc mi mg mt me (own.map (·.2))) := by
  obtain ⟨ti, pi, qi⟩ := hi
  obtain ⟨tt, pt, qt⟩ := ht
  obtain ⟨te, pe, qe⟩ := he
  exact ⟨_, fun i => pe_lc (F.calm i) (F.nd i) (pi i) (ok i) (fun s H C cl fp => hg (i, s, H, C, cl, fp)) (fun s H C cl fp => pt (i, s, H, C, cl, fp)) (fun s H C cl fp => pe (i, s, H, C, cl, fp)) (hs i), im_lc qi hgi ho qt qe⟩
/-! ### statements -/
theorem d_nil : PDSs F b [] mNext := ⟨_, fun _ => pss_nil, imc_next⟩
variable {st : Stmt} {sts : List Stmt} {s1 s2 : MS}
theorem d_cons (h : PDS F b st s1) (h2 : PDSs F b sts s2) : PDSs F b (st :: sts) (mSeq s1 s2) := by
  obtain ⟨t, p, q⟩ := h
  obtain ⟨t2, p2, q2⟩ := h2
  exact ⟨_, fun i => pss_cons (p i) (p2 i), imc_seq q q2⟩
theorem d_st (h : PDS F b st s1) : PDSs F b [st] s1 := by
  obtain ⟨t, p, q⟩ := h
  exact ⟨_, fun i => pss_one (p i), q⟩
theorem d_doc {x j pos'} : PDS F b (.Expr (.Constant (.str x) j pos) pos') mNext := ⟨_, fun _ => ps_doc, imc_next⟩
theorem d_pass : PDS F b (.Pass pos) mNext := ⟨_, fun _ => ps_pass, imc_next⟩
theorem d_brk : PDS F b (.Break pos) mBrk := ⟨_, fun _ => ps_break, imc_brk⟩
theorem d_cont : PDS F b (.Continue pos) mCont := ⟨_, fun _ => ps_continue, imc_cont⟩
theorem d_raise : PDS F b st mNever := ⟨_, fun _ => ps_never, imc_never⟩
theorem d_expr (h : PDE F e me) (hs : ∀ i, swapsWith e none pos.line (F.X i).env = pure false := by intro _; rfl) : PDS F b (.Expr e pos) (mDrop me) := by
  obtain ⟨t, p, q⟩ := h
  exact ⟨_, fun i => ps_expr (p i) (hs i), imc_drop q⟩
theorem d_ret (h : PDE F e me) : PDS F b (.Return (some e) pos) (mRet me) := by
  obtain ⟨t, p, q⟩ := h
  exact ⟨_, fun i => ps_ret (p i), imc_ret q⟩
theorem d_retL (h : PDN F e mn) : PDS F b (.Return (some e) pos) (mRetL mn) := by
  obtain ⟨t, p, q⟩ := h
  exact ⟨_, fun i => ps_ret (p i), imc_retL q⟩
theorem d_retN : PDS F b (.Return none pos) mRetN := ⟨_, fun _ => ps_retN, imc_retN⟩
theorem d_retV (j : Nat) {x : Str} {px : Pos} (hN : ∀ i, (F.X i).N[j]? = some x := by exact fun _ => rfl) (hv : ∀ i, Vis (F.X i).env.scope x := by first | exact fun _ => Or.inl rfl | exact fun _ => Or.inr (Or.inl rfl) | exact fun _ => Or.inr (Or.inr rfl))
    (hd : (x == ("__debug__" : Str)) = false := by decide) (hcd : (x == ("__classdict__" : Str)) = false := by decide) : PDS F b (.Return (some (.Name x px)) pos) (mRetV b j) := ⟨_, fun i => ps_ret (pe_var (hN i) (hv i) hd hcd), imc_retV⟩
theorem d_if {sa sb : List Stmt} (h : PDT F c mt) (h1 : PDSs F b sa s1) (h2 : PDSs F b sb s2) : PDS F b (.If c sa sb pos) (mIfS mt s1 s2) := by
  obtain ⟨t, p, q⟩ := h
  obtain ⟨t1, p1, q1⟩ := h1
  obtain ⟨t2, p2, q2⟩ := h2
  exact ⟨_, fun i => ps_if (p i) (p1 i) (p2 i), imc_if q q1 q2⟩
theorem d_set (j : Nat) {x : Str} {px : Pos} (h : PDE F e me) (hi : ∀ i, (F.X i).N[j]? = some x := by exact fun _ => rfl) (hx : ∀ i, Loc (F.X i).env.scope x := by first | exact fun _ => Or.inl rfl | exact fun _ => Or.inr rfl) (hs : ∀ i, swapsWith e (some (.Name x px)) pos.line (F.X i).env = pure false := by intro _; rfl)
    (hf : ∀ i, (F.X i).fn x = true ∨ (F.X i).env.scope.names.lookup x = some .local := by first | exact fun _ => .inl rfl | exact fun _ => .inr rfl) : PDS F b (.Assign [.Name x px] e pos) (mAsg me (mgN j)) := by
  obtain ⟨t, p, q⟩ := h
  exact ⟨_, fun i => ps_set (F.nd i) (hi i) (hx i) (p i) (hs i) (hf i), imc_asg q (img_n j)⟩
theorem d_new (j : Nat) {x : Str} {px : Pos} (h : PDN F e mn) (hi : ∀ i, (F.X i).N[j]? = some x := by exact fun _ => rfl) (hx : ∀ i, Loc (F.X i).env.scope x := by first | exact fun _ => Or.inl rfl | exact fun _ => Or.inr rfl) (hs : ∀ i, swapsWith e (some (.Name x px)) pos.line (F.X i).env = pure false := by intro _; rfl)
    (hf : ∀ i, (F.X i).fn x = true ∨ (F.X i).env.scope.names.lookup x = some .local := by first | exact fun _ => .inl rfl | exact fun _ => .inr rfl) : PDS F b (.Assign [.Name x px] e pos) (mNew j mn) := by
  obtain ⟨t, p, q⟩ := h
  exact ⟨_, fun i => ps_set (F.nd i) (hi i) (hx i) (p i) (hs i) (hf i), imc_new q⟩
/-- x = [..], a comprehension on the name's own line -/
theorem d_lcP {tg elt : Expr} {ifs : List Expr} {scope : Scope} {own : List (Str × Nat)} {mi : MN} {mg : MG} {g : TG} (j : Nat) {y : Str} {py spos : Pos} (hi : PDI F tg e mi) (ok : ∀ i, BlkOk (F.X i).N (F.X i).env.scope scope own)
    (hg : ∀ p, PG ((F.blk scope).X p) tg g) (hgi : ImG F.K g mg) (ho : GOwn g (own.map (·.2))) (ht : PDTs (F.blk scope) ifs mt) (he : PDE (F.blk scope) elt me)
    (hsw : ∀ i, swapsWith (.ListComp elt [⟨tg, e, ifs, 0⟩] scope pos) (some (.Name y py)) spos.line (F.X i).env = pure true) (hy : ∀ i, (F.X i).N[j]? = some y := by exact fun _ => rfl) (hyl : ∀ i, (F.X i).env.scope.names.lookup y = some .local := by exact fun _ => rfl)
    (hs : ∀ i x, foldedSetIterable e (F.X i).env x = pure x := by intro _ _; rfl) : ∃ t, (∀ i, PS (F.X i) (.Assign [.Name y py] (.ListComp elt [⟨tg, e, ifs, 0⟩] scope pos) spos) (tAsg t (gName j))) ∧ ImN F.K t (mLc mi mg mt me (own.map (·.2))) := by
  obtain ⟨ti, pi, qi⟩ := hi
  obtain ⟨tt, pt, qt⟩ := ht
  obtain ⟨te, pe, qe⟩ := he
  exact ⟨_, fun i => ps_setLc (F.calm i) (F.nd i) (hy i) (hyl i) (hsw i) (pi i) (ok i) (fun s H C cl fp => hg (i, s, H, C, cl, fp)) (fun s H C cl fp => pt (i, s, H, C, cl, fp)) (fun s H C cl fp => pe (i, s, H, C, cl, fp)) (hs i), im_lc qi hgi ho qt qe⟩
theorem d_lcS {j : Nat} (h : ∃ t, (∀ i, PS (F.X i) st (tAsg t (gName j))) ∧ ImN F.K t mn) : PDS F b st (mAsg (mEN mn) (mgN j)) := by
  obtain ⟨t, p, q⟩ := h
  exact ⟨_, p, imc_asg (im_en q) (img_n j)⟩
theorem d_lcC {j : Nat} (h : ∃ t, (∀ i, PS (F.X i) st (tAsg t (gName j))) ∧ ImN F.K t mn) : PDS F b st (mNew j mn) := by
  obtain ⟨t, p, q⟩ := h
  exact ⟨_, p, imc_new q⟩
theorem d_unp {tg : Expr} {g : MG} (h : PDE F e me) (hg : PDG F tg g) (hs : ∀ i, swapsWithSole [tg] e pos.line (F.X i).env = pure false := by intro _; rfl) (hw : ∀ i, swappedStores [tg] e (F.X i).env = pure none := by intro _; rfl)
    (h1 : ∀ i, (assignEach [tg] (F.X i).env).map (·.2) = [assign tg (F.X i).env] := by intro _; rfl) : PDS F b (.Assign [tg] e pos) (mAsg me g) := by
  obtain ⟨t, p, q⟩ := h
  obtain ⟨t2, p2, q2⟩ := hg
  exact ⟨_, fun i => ps_asg (p i) (p2 i) (hs i) (hw i) (h1 i), imc_asg q q2⟩
theorem d_augA (j : Nat) {x : Str} {px : Pos} (h : PDE F e me) (hi : ∀ i, (F.X i).N[j]? = some x := by exact fun _ => rfl) (hx : ∀ i, Loc (F.X i).env.scope x := by first | exact fun _ => Or.inl rfl | exact fun _ => Or.inr rfl) (hf : ∀ i, (F.X i).fn x = true ∨ (F.X i).env.scope.names.lookup x = some .local := by first | exact fun _ => .inl rfl | exact fun _ => .inr rfl) :
    PDS F b (.AugAssign (.Name x px) .Add e pos) (mAug j (fI0 fun i j => .int (i + j)) me) := by
  obtain ⟨t, p, q⟩ := h
  exact ⟨_, fun i => ps_aug (F.nd i) (hi i) (hx i) (p i) ip_add (hf i), imc_aug imr_ipadd q⟩
theorem d_augS (j : Nat) {x : Str} {px : Pos} (h : PDE F e me) (hi : ∀ i, (F.X i).N[j]? = some x := by exact fun _ => rfl) (hx : ∀ i, Loc (F.X i).env.scope x := by first | exact fun _ => Or.inl rfl | exact fun _ => Or.inr rfl) (hf : ∀ i, (F.X i).fn x = true ∨ (F.X i).env.scope.names.lookup x = some .local := by first | exact fun _ => .inl rfl | exact fun _ => .inr rfl) :
    PDS F b (.AugAssign (.Name x px) .Sub e pos) (mAug j (fI0 fun i j => .int (i - j)) me) := by
  obtain ⟨t, p, q⟩ := h
  exact ⟨_, fun i => ps_aug (F.nd i) (hi i) (hx i) (p i) ip_sub (hf i), imc_aug imr_ipsub q⟩
/-- x[e] = v -/
theorem d_put (j : Nat) {x : Str} {px p2 : Pos} (hi : PDE F a ma) (hv : PDE F e me) (hN : ∀ i, (F.X i).N[j]? = some x := by exact fun _ => rfl) (hvis : ∀ i, Vis (F.X i).env.scope x := by first | exact fun _ => Or.inl rfl | exact fun _ => Or.inr (Or.inl rfl) | exact fun _ => Or.inr (Or.inr rfl))
    (hd : (x == ("__debug__" : Str)) = false := by decide) (hcd : (x == ("__classdict__" : Str)) = false := by decide)
    (ha : ∀ i v, assign (.Subscript (.Name x px) a p2) (F.X i).env v = (do
      let ov ← holding [v] (eval (.Name x px) (F.X i).env)
      let iv ← holding [v, ov] (eval a (F.X i).env)
      standAt p2
      holding [v, ov, iv] (setItem ov iv v)
      release [v, ov, iv] []) := by intro _ _; rfl) (hs : ∀ i, swapsWithSole [.Subscript (.Name x px) a p2] e pos.line (F.X i).env = pure false := by intro _; rfl) (hw : ∀ i, swappedStores [.Subscript (.Name x px) a p2] e (F.X i).env = pure none := by intro _; rfl)
    (h1 : ∀ i, (assignEach [.Subscript (.Name x px) a p2] (F.X i).env).map (·.2) = [assign (.Subscript (.Name x px) a p2) (F.X i).env] := by intro _; rfl) : PDS F b (.Assign [.Subscript (.Name x px) a p2] e pos) (mSub j ma me) := by
  obtain ⟨t, p, q⟩ := hi
  obtain ⟨t2, p2, q2⟩ := hv
  exact ⟨_, fun i => ps_asg (p2 i) (pg_sub (pe_var (hN i) (hvis i) hd hcd) (p i) set_list (ha i)) (hs i) (hw i) (h1 i), imc_sub q q2⟩
/-- methods of lists -/
theorem d_app (j : Nat) {x : Str} {px apos : Pos} (h : PDE F e me) (hN : ∀ i, (F.X i).N[j]? = some x := by exact fun _ => rfl) (hv : ∀ i, Vis (F.X i).env.scope x := by first | exact fun _ => Or.inl rfl | exact fun _ => Or.inr (Or.inl rfl) | exact fun _ => Or.inr (Or.inr rfl))
    (hd : (x == ("__debug__" : Str)) = false := by decide) (hcd : (x == ("__classdict__" : Str)) = false := by decide) (hbase : ∀ i, attributeBase (.Name x px) "append" (F.X i).env (eval (.Name x px) (F.X i).env) = eval (.Name x px) (F.X i).env := by intro _; rfl)
    (hfew : ∀ i, ((backTo pos (starEach [e] (F.X i).env)).all (fun x => !x.1) && (backToKw pos (keywordEach [] (F.X i).env)).all (fun x => x.1.isSome) && decide ([e].length + ([] : List Keyword).length + (if ([] : List Keyword).isEmpty then 0 else 1) < 30)) = true := by intro _; rfl)
    (hline : (apos.endLine == pos.line) = true := by rfl) (hs : ∀ i, starEach [e] (F.X i).env = (false, eval e (F.X i).env) :: starEach [] (F.X i).env := by intro _; rfl) : PDE F (.Call (.Attribute (.Name x px) "append" apos) [e] [] pos) (mApp j me) := by
  obtain ⟨t, p, q⟩ := h
  exact ⟨_, fun i => by have := pe_bm (cpos := pos) (apos := apos) PySem.F.plainAttrs_list PySem.F.slot_list_append PySem.F.type_list_append (mt_append (X := F.X i)) (pe_var (pos := px) (hN i) (hv i) hd hcd) (pa_cons (p i) pa_nil (hs i)) (hbase i) (hfew i) hline (hs i) rfl; rw [F.hK i] at this; exact this, im_app q⟩
theorem d_ext (j : Nat) {x : Str} {px apos : Pos} (h : PDN F e mn) (hN : ∀ i, (F.X i).N[j]? = some x := by exact fun _ => rfl) (hv : ∀ i, Vis (F.X i).env.scope x := by first | exact fun _ => Or.inl rfl | exact fun _ => Or.inr (Or.inl rfl) | exact fun _ => Or.inr (Or.inr rfl))
    (hd : (x == ("__debug__" : Str)) = false := by decide) (hcd : (x == ("__classdict__" : Str)) = false := by decide) (hbase : ∀ i, attributeBase (.Name x px) "extend" (F.X i).env (eval (.Name x px) (F.X i).env) = eval (.Name x px) (F.X i).env := by intro _; rfl)
    (hfew : ∀ i, ((backTo pos (starEach [e] (F.X i).env)).all (fun x => !x.1) && (backToKw pos (keywordEach [] (F.X i).env)).all (fun x => x.1.isSome) && decide ([e].length + ([] : List Keyword).length + (if ([] : List Keyword).isEmpty then 0 else 1) < 30)) = true := by intro _; rfl)
    (hline : (apos.endLine == pos.line) = true := by rfl) (hs : ∀ i, starEach [e] (F.X i).env = (false, eval e (F.X i).env) :: starEach [] (F.X i).env := by intro _; rfl) : PDE F (.Call (.Attribute (.Name x px) "extend" apos) [e] [] pos) (mExtN j mn) := by
  obtain ⟨t, p, q⟩ := h
  exact ⟨_, fun i => by have := pe_bm (cpos := pos) (apos := apos) PySem.F.plainAttrs_list PySem.F.slot_list_extend PySem.F.type_list_extend (mt_extend (X := F.X i)) (pe_var (pos := px) (hN i) (hv i) hd hcd) (pa_cons (p i) pa_nil (hs i)) (hbase i) (hfew i) hline (hs i) rfl; rw [F.hK i] at this; exact this, im_extN q⟩
theorem d_pop (j : Nat) {x : Str} {px apos : Pos} (hN : ∀ i, (F.X i).N[j]? = some x := by exact fun _ => rfl) (hv : ∀ i, Vis (F.X i).env.scope x := by first | exact fun _ => Or.inl rfl | exact fun _ => Or.inr (Or.inl rfl) | exact fun _ => Or.inr (Or.inr rfl))
    (hd : (x == ("__debug__" : Str)) = false := by decide) (hcd : (x == ("__classdict__" : Str)) = false := by decide) (hbase : ∀ i, attributeBase (.Name x px) "pop" (F.X i).env (eval (.Name x px) (F.X i).env) = eval (.Name x px) (F.X i).env := by intro _; rfl)
    (hline : (apos.endLine == pos.line) = true := by rfl) : PDE F (.Call (.Attribute (.Name x px) "pop" apos) [] [] pos) (mPop j) :=
  ⟨_, fun i => by have := pe_bm0 (cpos := pos) (apos := apos) PySem.F.plainAttrs_list PySem.F.slot_list_pop PySem.F.type_list_pop (mt_pop (X := F.X i)) (pe_var (pos := px) (hN i) (hv i) hd hcd) (hbase i) hline; rw [F.hK i] at this; exact this, im_pop⟩
/-- loops -/
theorem d_for {tg : Expr} {body : List Stmt} {mi : MN} {mg : MG} (hi : PDI F tg e mi) (hg : PDG F tg mg) (h : PDSs F b body s1) (hp : ∀ i, PassesOwn (model (F.X i).prog (F.X i).w) (F.X i).A (F.X i).env (F.X i).xe := by exact fun _ => PassesOwn.never) (hs : ∀ i x, foldedSetIterable e (F.X i).env x = pure x := by intro _ _; rfl) :
    PDS F b (.For tg e body [] pos) (mFor mi mg s1) := by
  obtain ⟨t, p, q⟩ := hi
  obtain ⟨t2, p2, q2⟩ := hg
  obtain ⟨t3, p3, q3⟩ := h
  exact ⟨_, fun i => ps_for (hp i) (F.calm i) (p i) (p2 i) (p3 i) (hs i), imc_for q q2 q3⟩
theorem d_while (n : Nat) {body : List Stmt} (hc : PDT F c mt) (h : PDSs F b body s1) (hp : ∀ i, PassesOwn (model (F.X i).prog (F.X i).w) (F.X i).A (F.X i).env (F.X i).xe := by exact fun _ => PassesOwn.never) : PDS F b (.While c body [] pos) (whRun mt s1 n) := by
  obtain ⟨t, p, q⟩ := hc
  obtain ⟨t3, p3, q3⟩ := h
  exact ⟨_, fun i => ps_while (hp i) (p i) (p3 i), imc_while q q3⟩
end
/-- a def's body -/
def Fam.top (P : Program) (w : World) (K : PySem.W.Frag) (mg : Str → Option Value) (base : Heap) (N : List Str) (qual : Str) (scope : Scope) (f : Addr) (cd : Value) (A : Around) (outer : List Env) (s : Shared) (H : Hp) (E : XK) (k : Nat) (hr : Room k (A.deeper (PyProof.Rows.envOfC qual scope s.heap.objs.size f cd))) (nd : N.Nodup) : Fam Unit where
  X := fun _ => (cxOf CX0 P w K mg base N qual scope f cd A outer s H E).nox
  K := K
  k := k
  hK := fun _ => rfl
  calm := fun _ => rfl
  room := fun _ => hr
  nd := fun _ => nd
theorem def_d {P : Program} {w : World} {K : PySem.W.Frag} {mg : Str → Option Value} {base : Heap} {x qual : Str} {st : Stmt} {f : Addr} {fd : FuncData} {N ps : List Str} {k np ns : Nat} {body : Nat → MS} (F : Fun K x qual st f fd) (Sc : FnScope N ps (defScope st)) (hp : ps.length = np) (hN : N.length = ns)
    (h : ∀ (cdv : Value) (A : Around) (outer : List Env) (s : Shared) (H : Hp) (E : XK) (b : Nat) (hr : Room k (A.deeper (PyProof.Rows.envOfC qual (defScope st) s.heap.objs.size f cdv))),
      PDSs (Fam.top P w K mg base N qual (defScope st) f cdv A outer s H E k hr Sc.nd) b (defBody st) (body b)) : FnOk P w K mg base CX0 (k + 1) f fd ps (spD K np (mDef np ns body)) :=
  def_ok F Sc hp hN fun cdv A outer s H E b hr => let ⟨t, p, q⟩ := h cdv A outer s H E b hr; ⟨t, p (), q⟩
end G
set_option Elab.async false
set_option linter.all false
set_option autoImplicit false
set_option maxRecDepth 100000
set_option maxHeartbeats 4000000
namespace G
open PySem PySem.Spec PyProof.Rows L2
theorem ext_tup (l : Addr) (items : Array Value) (n : Nat) (b : Addr) (items2 : Array Value) (n2 : Nat) (dd : Option Addr) (sl : Array (Option Value)) (hs0 : ¬(!items.isEmpty && Builtin.List.listTooLong (items.size + items2.size)) = true) (hs1 : items.size ≤ sizeLine) (hs2 : items.size + items2.size ≤ sizeLine + 1) :
    Meets (Builtin.«list.extend» ⟨[.ref l, .ref b], []⟩) (fun _ R s => s.heap.get? l = some { cls := .type "list", dict := none, data := .seq items n, slots := #[] } ∧ s.heap.get? b = some { cls := .type "tuple", dict := dd, data := .seq items2 n2, slots := sl } ∧ R (.ok (.ret Value.none)) { s with heap := s.heap.update l (Obj.mapSeq fun x => x ++ items2), toks := s.toks }) :=
  .of_wp fun prog w A R s h => by
    obtain ⟨hp, g, d, tk, os⟩ := s; obtain ⟨hl, hb, h⟩ := h
    have f1 := AutoSeq1.idx_int; have f2 := AutoSeq1.sub_tuple_tuple; have f3 := AutoSeq1.sub_list_list; have f4 := AutoSeq1.sub_tuple_list; have f5 := AutoSeq1.sub_list_tuple
    have hz' : (items ++ items2).size ≤ sizeLine + 1 := by rw [Array.size_append]; exact hs2
    wp_walk using (wpAny_updateSeq hl rfl (hz := hs1) (_hz' := hz')), wpAny_loadPart' hl, wpAny_loadPart' hb
    exact ⟨_, rfl, h⟩
def rExtT (K : PySem.W.Frag) : V → List V → Hp → VK → Prop := fun x vs H Q => ∃ l b xs zs, x = .ref l ∧ vs = [.ref b] ∧ H l = some (.lst xs) ∧ SqT K H b zs ∧ xs.length + zs.length ≤ sizeLine ∧ Q .non (upd H l (.lst (xs ++ zs)))
theorem mt_extT {X : Cx} : MtR X "list.extend" (rExtT X.K) := by
  intro pins s σ H x vs v us Q I rx rv h
  obtain ⟨l, b, xs, zs, rfl, rfl, hH, hB, hz, q⟩ := h
  cases rx
  obtain ⟨u, rfl, ru⟩ := rv.one
  cases ru
  obtain ⟨z, its, n, r, hl, e⟩ := I.lstM hH
  obtain ⟨its2, r2, ⟨⟨cls, dd, data, sl⟩, ho, hc, n2, hd⟩, hs⟩ := I.tuple hB
  simp only at hc hd
  subst hc hd
  have hl2 := r2.length
  have hsz : its.toArray.size + its2.toArray.size ≤ sizeLine := by rw [List.size_toArray, List.size_toArray]; omega
  have hlong : ¬ (!its.toArray.isEmpty && Builtin.List.listTooLong (its.toArray.size + its2.toArray.size)) = true := by
    rw [notLongL hsz, Bool.and_false]
    exact Bool.false_ne_true
  refine call_meets F.slot_list_extend ⟨_, e, rfl⟩ F.entry_list_extend (F.args_list_extend_2 _ _)
    (ext_tup l its.toArray n b its2.toArray n2 dd sl hlong (by rw [List.size_toArray]; omega) (by omega)) ⟨e, ho, ?_⟩
  refine ⟨.non, _, I.lset (its' := its ++ its2) hH e (by simp) (r.append r2) ?_, rfl, q⟩
  rw [List.length_append]
  omega
theorem tuple_mul1 (l : Addr) (items : Array Value) (n : Nat) (dd : Option Addr) (sl : Array (Option Value)) (u : Tok) :
    Meets (Builtin.«tuple.__mul__» ⟨[.ref l, .int 1 u], []⟩) (fun _ R s => s.heap.get? l = some { cls := .type "tuple", dict := dd, data := .seq items n, slots := sl } ∧ R (.ok (.ret (Value.ref l))) s) :=
  .of_wp fun prog w A R s h => by
    obtain ⟨hp, g, d, tk, os⟩ := s
    obtain ⟨hl, h⟩ := h
    have f1 := AutoSeq1.idx_int
    wp_walk using wpAny_loadPart' hl
    exact ⟨_, rfl, h⟩
def rRep1 (K : PySem.W.Frag) : R2 := fun x y H Q => ∃ l xs, x = .ref l ∧ y = .int 1 ∧ SqT K H l xs ∧ Q (.ref l) H
theorem op_rep1 {X : Cx} : OpR X (binaryOp .Mult) (rRep1 X.K) := by
  intro pins s σ H x y v u Q I rx ry h
  obtain ⟨l, xs, rfl, rfl, hT, q⟩ := h
  cases rx
  obtain ⟨t, rfl⟩ := ry
  obtain ⟨its, r, ⟨⟨cls, dd, data, sl⟩, ho, hc, n, hd⟩, hs⟩ := I.tuple hT
  simp only at hc hd
  subst hc hd
  exact wpAny_binaryOp_repeat_ref (T := "tuple") (U := "int") (by decide) ⟨_, ho, rfl⟩ (fun s' => typeIs_int s' 1 t) noFill_tuple_mul F.fills_int_mul F.slot_int_rmul repeat_tuple F.slot_int_index.lookup
    (call_meets F.slot_int_rmul (typeIs_int s 1 t) F.entry_int_rmul (F.args_int_rmul_2 _ _) (int_rmul_tuple 1 t l its.toArray n dd sl)
      ⟨ho, rfl, ⟨_, ho, rfl⟩, call_meets F.slot_tuple_mul ⟨_, ho, rfl⟩ F.entry_tuple_mul (F.args_tuple_mul_2 _ _) (tuple_mul1 l its.toArray n dd sl t) ⟨ho, ⟨.ref l, H, I, rfl, q⟩⟩⟩)
section
variable {K : PySem.W.Frag}
def fRep (x y : D) : Option D := match x, y with
  | .tuple xs, .int k => if xs ≠ [] ∧ 1 ≤ k ∧ k ≤ 1000 ∧ xs.length ≤ 1000 then some (.tuple (List.replicate k.toNat xs).flatten) else none
  | _, _ => none
theorem RlA.rep {M : Adr} {H : Hp} {vs : List V} {ds : List D} (h : RlA K M H vs ds) : ∀ k : Nat, RlA K M H (List.replicate k vs).flatten (List.replicate k ds).flatten
  | 0 => .nil
  | k + 1 => by
    rw [List.replicate_succ, List.replicate_succ, List.flatten_cons, List.flatten_cons]
    exact h.append (RlA.rep h k)
theorem imr_rep : ImR K (fun x y H Q => rRepT K x y H Q ∨ rRep1 K x y H Q) fRep := fun H M S x y dx dy dz ok rx ry e Q q => by
  unfold fRep at e
  split at e <;> first | (cases e; done) | skip
  rename_i xs k
  split at e <;> cases e
  rename_i hh
  obtain ⟨h0, h1, h2, h3⟩ := hh
  cases rx with
  | tup g1 g2 =>
    cases ry
    rename_i a vs
    by_cases hk : k = 1
    · subst hk
      refine .inr ⟨a, vs, rfl, rfl, g1, ?_⟩
      have : (List.replicate (1 : Int).toNat xs).flatten = xs := by show ([xs] : List (List D)).flatten = xs; simp
      rw [this] at q
      exact q.here ok (.tup g1 g2)
    · refine .inl ⟨a, k, vs, rfl, rfl, g1, fun e => ?_, by omega, h2, by rw [g2.len]; exact h3, fun p hp => ?_⟩
      · subst e
        cases g2
        exact h0 rfl
      · exact q _ _ M (Ext.new hp) (ok.new hp) (.tup (.inl (.inl upd_same)) ((g2.rep _).mono (Ext.new hp)))
def fMulX (x y : D) : Option D := (fMul x y).or (fRep x y)
theorem imr_mulX : ImR K (fun x y H Q => rI CMul (fun i j => .int (i * j)) x y H Q ∨ (rRepT K x y H Q ∨ rRep1 K x y H Q)) fMulX := imr_or imr_mul imr_rep
/-- x.extend(a tuple) -/
def mExtT (i : Nat) (m : ME) : ME := fun ρ S => match ρ[i]? with
  | some (some (.loc n)) => (S[n]?.join).bind fun _ => (m ρ S).bind fun p => match p.1 with
    | .tuple ys => (p.2[n]?.join).bind fun xs => if xs.length + ys.length ≤ 1000000 then some (.none, p.2.set n (some (xs ++ ys))) else none
    | _ => none
  | _ => none
theorem im_extT {i : Nat} {te : TE} {me : ME} (h : ImE K te me) : ImE K (tBM K "list" (rExtT K) (tVar i) (tCons te tNil)) (mExtT i me) := fun σ H M ρ S d S' hs ok e Q q => by
  unfold mExtT at e
  split at e <;> first | (cases e; done) | skip
  rename_i n en
  cases e0 : S[n]?.join with
  | none => rw [e0] at e; cases e
  | some xs0 =>
    rw [e0, Option.bind_some] at e
    cases e1 : me ρ S with
    | none => rw [e1] at e; cases e
    | some p =>
      rw [e1, Option.bind_some] at e
      split at e <;> first | (cases e; done) | skip
      rename_i ys ey
      cases e3 : p.2[n]?.join with
      | none => rw [e3] at e; cases e
      | some xs =>
        rw [e3, Option.bind_some] at e
        split at e <;> cases e
        rename_i hz
        obtain ⟨a, us, hw, _, hus, _⟩ := cell_at hs ok en (join_some e0)
        refine ⟨_, hw, tyl hus, ?_⟩
        refine h σ H M ρ S p.1 p.2 hs ok e1 _ fun v H1 M1 x1 ok1 r1 => ?_
        obtain ⟨a', vs, c1, c2, c3, c4⟩ := cell_at (hs.mono x1) ok1 en (join_some e3)
        rw [hw] at c1
        cases c1
        rw [ey] at r1
        cases r1 with
        | tup g1 g2 =>
          rename_i l ws
          refine ⟨a, l, vs, ws, rfl, rfl, c3, g1, Nat.le_trans (show vs.length + ws.length ≤ 1000000 by rw [c4.len, g2.len]; exact hz) big, ?_⟩
          have xc : Ext M1 H1 M1 (upd H1 a (.lst (vs ++ ws))) := Ext.setc (List.mem_of_getElem? c2) c3
          exact q _ _ M1 (x1.trans xc) (ok1.setc c2 c3 (c4.append g2)) .non
end
section
variable {ι : Type} {F : Fam ι} {a e : Expr} {ma mb me : ME} {pos : Pos}
theorem d_mulX (h1 : PDE F a ma) (h2 : PDE F e mb) : PDE F (.BinOp a .Mult e pos) (mOp fMulX ma mb) := by
  obtain ⟨t1, p1, q1⟩ := h1
  obtain ⟨t2, p2, q2⟩ := h2
  exact ⟨_, fun i => pe_op (by have := OpR.or (op_mul (X := F.X i)) (OpR.or op_repT op_rep1); rw [F.hK i] at this; exact this) (p1 i) (p2 i), im_op imr_mulX q1 q2⟩
theorem d_extT (j : Nat) {x : Str} {px apos : Pos} (h : PDE F e me) (hN : ∀ i, (F.X i).N[j]? = some x := by exact fun _ => rfl) (hv : ∀ i, Vis (F.X i).env.scope x := by first | exact fun _ => Or.inl rfl | exact fun _ => Or.inr (Or.inl rfl) | exact fun _ => Or.inr (Or.inr rfl))
    (hd : (x == ("__debug__" : Str)) = false := by decide) (hcd : (x == ("__classdict__" : Str)) = false := by decide) (hbase : ∀ i, attributeBase (.Name x px) "extend" (F.X i).env (eval (.Name x px) (F.X i).env) = eval (.Name x px) (F.X i).env := by intro _; rfl)
    (hfew : ∀ i, ((backTo pos (starEach [e] (F.X i).env)).all (fun x => !x.1) && (backToKw pos (keywordEach [] (F.X i).env)).all (fun x => x.1.isSome) && decide ([e].length + ([] : List Keyword).length + (if ([] : List Keyword).isEmpty then 0 else 1) < 30)) = true := by intro _; rfl)
    (hline : (apos.endLine == pos.line) = true := by rfl) (hs : ∀ i, starEach [e] (F.X i).env = (false, eval e (F.X i).env) :: starEach [] (F.X i).env := by intro _; rfl) : PDE F (.Call (.Attribute (.Name x px) "extend" apos) [e] [] pos) (mExtT j me) := by
  obtain ⟨t, p, q⟩ := h
  exact ⟨_, fun i => by have := pe_bm (cpos := pos) (apos := apos) PySem.F.plainAttrs_list PySem.F.slot_list_extend PySem.F.type_list_extend (mt_extT (X := F.X i)) (pe_var (pos := px) (hN i) (hv i) hd hcd) (pa_cons (p i) pa_nil (hs i)) (hbase i) (hfew i) hline (hs i) rfl; rw [F.hK i] at this; exact this, im_extT q⟩
end
end G
set_option Elab.async false
set_option linter.all false
set_option autoImplicit false
set_option maxRecDepth 100000
set_option maxHeartbeats 4000000
/-! enumerate of tuples and lists, zip, in and not in, by data. -/
namespace G
open PySem PySem.Spec PyProof.Rows L2

/-! ### enumerate(tuple), on the heap -/
def IteT (K : PySem.W.Frag) (a : Addr) : It :=
  ⟨fun i H => ∃ (xs : List V) (x : V), SqT K H a xs ∧ xs[i]? = some x, fun i H v H' => ∃ T x, v = .ref T ∧ H T = none ∧ H' = upd H T (.tup [.int (i : Nat), x]) ∧ ∀ xs, SqT K H a xs → xs[i]? = some x, fun i H => ∃ xs : List V, SqT K H a xs ∧ xs.length ≤ i⟩
theorem turn_enumT {P : Program} {w : World} {K : PySem.W.Frag} {elts : List Expr} {kk : Nat} {tpos : Pos} (a e it : Addr) :
    Turn P w K (.Tuple elts kk tpos) (IteT K a) [e, it] e (fun i h => (∃ old, IsEnum h e it ((i : Nat) : Int) old) ∧ h.IsTupleIter it a i ∧ e ≠ it ∧ a ≠ it ∧ a ≠ e) where
  mem := by simp
  obj := fun i h st b hb => by
    obtain ⟨⟨old, he⟩, ⟨o, ho, hc, hd⟩, _⟩ := st
    have e' : b = e ∨ b = it := by simpa using hb
    rcases e' with z | z
    · rw [z]; exact ⟨_, he, fun v q => nomatch q⟩
    · rw [z]; exact ⟨o, ho, fun v q => by rw [hd] at q; cases q⟩
  keep := fun i h h' st k => let ⟨⟨old, he⟩, hi, hne⟩ := st; ⟨⟨old, k e (by simp) _ he⟩, hi.at fun o q => k it (by simp) o q, hne⟩
  item := by
    intro X hP hw hK hc i pins s σ H E I hf st hg
    subst hP hw hK
    obtain ⟨⟨old, he⟩, hit, hne, hai, hae⟩ := st
    obtain ⟨xs, x, hq, hx⟩ := hg
    obtain ⟨its, rv, p, hz⟩ := I.tuple hq
    obtain ⟨u, hu, ru⟩ := rv.get hx
    have hel : e < s.heap.objs.size := Heap.lt_size he
    have hil : it < s.heap.objs.size := by obtain ⟨_, q, _⟩ := hit; exact Heap.lt_size q
    have hlt : i < its.toArray.size := by
      obtain ⟨z, _⟩ := List.getElem?_eq_some_iff.mp hu
      simpa using z
    refine wpAny_pyNext_enum_itemD (Draws.tuple (prog := X.prog) (w := X.w) (A := X.A.in1) (show X.A.in1.handled = none from I.ok.hd hc) it a hai its.toArray) he (show s.heap.IsTupleIter it a i ∧ s.heap.IsTuple a its.toArray from ⟨hit, p⟩) hlt hne (by simp [hne, Ne.symm hae]) fun x' h' tk hP' ho hit' hT hsz hk => ?_
    have ex : u = x' := by
      have z : its[i]? = some x' := by simpa using hP'
      rw [hu] at z
      exact Option.some.inj z
    subst ex
    refine ⟨_, rfl, wpAny_letOwnedTupleGo_enum (s := { s with heap := h', toks := tk + 1 }) ho fun h'' he' sb => ?_⟩
    have hT2 : h''.get? s.heap.objs.size = some { cls := .type "tuple", data := .seq #[.int i tk, u] } := (sb.2 _ (Nat.ne_of_gt hel)).trans hT
    have new : ObjOk X.prog X.w (upd H s.heap.objs.size (.tup [.int (i : Nat), x])) h'' s.heap.objs.size (.tup [.int (i : Nat), x]) :=
      ⟨by show 2 ≤ sizeLine; decide, [.int i tk, u], .cons ⟨_, rfl⟩ (.cons ru .nil), ⟨_, hT2, rfl, _, rfl⟩⟩
    have I1 : Inv X pins σ (upd H s.heap.objs.size (.tup [.int (i : Nat), x])) { s with heap := h'', toks := tk + 1 } :=
      I.turnedNew (ch := [e, it]) (fun b ob hb q => (sb.2 b (fun z => hb (by simp [z]))).trans (hk b ob (fun z => hb (by simp [z])) (fun z => hb (by simp [z])) q)) hf (Nat.le_refl _) new
    refine ⟨.ref s.heap.objs.size, _, I1, rfl, ⟨_, x, rfl, I.hok.fresh (Nat.le_refl _), rfl, fun ys hy => by rw [I.tuple_inj hy hq]; exact hx⟩, ⟨⟨u, ?_⟩, hit'.1.at fun o q => (sb.2 it (Ne.symm hne)).trans q, hne, hai, hae⟩, fun b hb => ?_⟩
    · have e1 : ((i + 1 : Nat) : Int) = (i : Int) + 1 := by omega
      rw [e1]; exact he'
    · have hb' : b < s.heap.objs.size := by
        have e' : b = e ∨ b = it := by simpa using hb
        rcases e' with z | z
        · rw [z]; exact hel
        · rw [z]; exact hil
      rw [upd_ne (Nat.ne_of_lt hb')]
      exact (hf b hb).1
  done := by
    intro X hP hw hK hc i pins s σ H E I hf st hg
    subst hP hw hK
    obtain ⟨⟨old, he⟩, hit, hne, hai, hae⟩ := st
    obtain ⟨xs, hq, hx⟩ := hg
    obtain ⟨its, rv, p, hz⟩ := I.tuple hq
    obtain ⟨f0, f1, f2, f3, f4, f5⟩ := hf it (by simp)
    have hl := rv.length
    have p' : s.heap.IsTuple a its.toArray := p
    have none_ : its.toArray[i]? = none := by simp; omega
    have D : Draws X.prog X.w X.A.in1 it [it, a] i (fun _ _ => True) (fun j h => i ≤ j ∧ h.IsTupleIter it a j ∧ h.IsTuple a its.toArray) :=
      { live := fun j h z => let ⟨o, y, _⟩ := z.2.1; ⟨o, y⟩
        frame := fun j h h' z kk => ⟨z.1, z.2.1.at fun o y => kk it (by simp) o y, z.2.2.at fun o y => kk a (by simp) o y⟩
        item := fun j s Q E hj z _ => absurd z.1 (by omega)
        done := fun s Q E z hE => wpAny_nextOf_tuple_end (show X.A.in1.handled = none from I.ok.hd hc) z.2.1 z.2.2 none_ hE }
    exact wpAny_pyNext_enum_endD D he ⟨Nat.le_refl _, hit, p'⟩ fun h' eb => ⟨rfl, I.turned (t' := s.toks) (fun b o hb q => eb b o hb q) f0 f1 f3 f4 f5⟩
  self := fun A i s Q E st h => let ⟨⟨_, he⟩, _⟩ := st; wpAny_pyIter_enum he h

theorem meets_enumT (l : Addr) (items : Array Value) (n : Nat) (dct : Option Addr) (sl : Array (Option Value)) :
    Meets (Builtin.«enumerate.__new__» ⟨[.type "enumerate", .ref l], []⟩) fun _ R s => s.heap.get? l = some { cls := .type "tuple", dict := dct, data := .seq items n, slots := sl } ∧
      R (.ok (.ret (.ref (s.heap.push { cls := .type "tuple_iterator", data := .fields #[.ref l, .int 0 0] }).objs.size)))
        { s with heap := (s.heap.push { cls := .type "tuple_iterator", data := .fields #[.ref l, .int 0 0] }).push { cls := .type "enumerate", data := .fields #[.none, .bool false, .ref s.heap.objs.size, rawInt 0, .none, .none] } } :=
  .of_wp fun prog w A R s h => by
    obtain ⟨hp, g, d, tk, os⟩ := s
    obtain ⟨hl, h⟩ := h
    have sub1 := sub_enumerate
    have hT : (Shared.heap ⟨hp, g, d, tk, os⟩).IsTuple l items := ⟨_, hl, rfl, n, rfl⟩
    wp_walk using AutoSeq1.wpAny_loadPart' hl
    refine wpAny_stack_any fun st => wpAny_pure ?_
    split
    · rename_i c _ _ _ _ _
      cases (c == Value.type "enumerate")
      all_goals
        wp_walk using AutoSeq1.wpAny_loadPart' hl, wpAny_pyIter_tuple hT
        exact ⟨_, rfl, h⟩
    · wp_walk using AutoSeq1.wpAny_loadPart' hl, wpAny_pyIter_tuple hT
      exact ⟨_, rfl, h⟩
section
variable {prog : Program} {w : World} {A : Around} {E : Value → Shared → Prop} {s : Shared}
theorem call_enumT {l : Addr} {items : Array Value} {Q : Value → Shared → Prop} (hL : s.heap.IsTuple l items)
    (h : ∀ h', IsEnum h' (s.heap.objs.size + 1) s.heap.objs.size 0 .none → h'.IsTupleIter s.heap.objs.size l 0 → h'.objs.size = s.heap.objs.size + 2 → l < s.heap.objs.size →
      (∀ b o, s.heap.get? b = some o → h'.get? b = some o) → Q (.ref (s.heap.objs.size + 1)) { s with heap := h' }) :
    wpAny (model prog w) A (call (.type "enumerate") [.ref l]) Q E s := by
  obtain ⟨⟨c, dct, dt, sl⟩, hl, hc, n, hd⟩ := hL
  have hc : c = .type "tuple" := hc
  have hd : dt = .seq items n := hd
  subst hc hd
  refine callType_new PySem.F.called_enumerate (by decide) (PySem.F.typeCall_enumerate_1 _) (PySem.F.newCall_enumerate_1 _) (fun obj => PySem.F.args_object_init_2 obj _) PySem.F.entry_enumerate_new
    (meets_enumT l items n dct sl) ⟨hl, ?_⟩
  generalize ei : ({ cls := .type "tuple_iterator", data := .fields #[.ref l, .int 0 0] } : Obj) = oi
  have fi : oi.isFreed = false := by subst ei; rfl
  have g1 : (s.heap.push oi).get? s.heap.objs.size = some oi := Heap.get?_push_size _ fi
  have hz : (s.heap.push oi).objs.size = s.heap.objs.size + 1 := Heap.size_push ..
  show _ ∧ _
  rw [hz]
  generalize eo : ({ cls := .type "enumerate", data := .fields #[.none, .bool false, .ref s.heap.objs.size, rawInt 0, .none, .none] } : Obj) = oe
  have fe : oe.isFreed = false := by subst eo; rfl
  have g2 : ((s.heap.push oi).push oe).get? (s.heap.objs.size + 1) = some oe := by
    have := Heap.get?_push_size (s.heap.push oi) (o := oe) fe
    rwa [hz] at this
  subst eo
  refine ⟨⟨_, g2, rfl⟩, h _ g2 ⟨oi, Heap.get?_push_of_some _ g1, by subst ei; rfl, by subst ei; rfl⟩ (by rw [Heap.size_push, hz]) (Heap.lt_size hl) fun b o x => Heap.get?_push_of_some _ (Heap.get?_push_of_some _ x)⟩
end
def iEnumT (K : PySem.W.Frag) (ta : TA) : TI := fun σ H R => ta σ H fun vs H1 => ∃ a xs, vs = [.ref a] ∧ SqT K H1 a xs ∧ R (IteT K a) H1
theorem pi_enumT {X : Cx} {e : Expr} {ta : TA} {p pos tpos : Pos} {elts : List Expr} {kk : Nat} (hg : Gl X "enumerate") (hm : X.mg "enumerate" = none) (ha : PA X [e] ta) (hs : starEach [e] X.env = [(false, eval e X.env)] := by rfl) :
    PI X (.Tuple elts kk tpos) (.Call (.Name "enumerate" p) [e] [] pos) (iEnumT X.K ta) := by
  refine ⟨fun pins s σ H R I h => Call_ (ld_blt I hg hm boot_enumerate (PyProof.Rows.callWith_type1 (thn (ha.run pos pins s σ H _ I h) fun us s1 ⟨vs, H1, I1, r1, q1⟩ => ?_) hs rfl))⟩
  obtain ⟨a, xs, ex, hq, q⟩ := q1
  subst ex
  cases r1 with
  | cons r rr =>
    cases rr
    cases r
    obtain ⟨its, rv, p', hz⟩ := I1.tuple hq
    refine call_enumT (show s1.heap.IsTuple a its.toArray from p') fun h' he hit hsz hal hk => wpAny_pyIter_enum he ?_
    have I2 : Inv X pins σ H1 { s1 with heap := h' } := I1.kept (t' := s1.toks) hk
    generalize ez : s1.heap.objs.size = z at *
    refine ⟨z + 1, [z + 1, z], _, _, H1, rfl, I2, turn_enumT a (z + 1) z, ⟨⟨.none, he⟩, hit, Nat.succ_ne_self _, Nat.ne_of_lt hal, Nat.ne_of_lt (Nat.lt_succ_of_lt hal)⟩, fun b hb => ?_, q⟩
    have hle : s1.heap.objs.size ≤ b := by
      rw [ez]
      rcases List.mem_cons.mp hb with y | y
      · rw [y]; exact Nat.le_succ _
      · rw [List.mem_singleton.mp y]; exact Nat.le_refl _
    exact I1.fpOk hle (I1.hok.fresh hle)

/-! ### enumerate, zip, by data -/
def enumD (k : Nat) : List D → List D
  | [] => []
  | x :: xs => .tuple [.int (k : Nat), x] :: enumD (k + 1) xs
theorem enumD_len : ∀ (xs : List D) (k : Nat), (enumD k xs).length = xs.length
  | [], _ => rfl
  | _ :: xs, k => congrArg (· + 1) (enumD_len xs (k + 1))
theorem enumD_get : ∀ (xs : List D) (k i : Nat) (d : D), (enumD k xs)[i]? = some d → ∃ x, xs[i]? = some x ∧ d = .tuple [.int ((k + i : Nat) : Int), x]
  | [], _, _, _, h => by cases h
  | x :: xs, k, 0, d, h => ⟨x, rfl, (Option.some.inj h).symm⟩
  | x :: xs, k, i + 1, d, h => by
    obtain ⟨y, e1, e2⟩ := enumD_get xs (k + 1) i d h
    exact ⟨y, e1, by rw [e2, show k + 1 + i = k + (i + 1) by omega]⟩
section
variable {K : PySem.W.Frag} {M M' : Adr} {H H' : Hp} {S S' : Sto} {ta tb tc te : TE} {ma mb mc me : ME} {d : D} {t : TA} {m : MA}
theorem pairR {T : Addr} {x y : V} {dx dy : D} {H : Hp} (hT : H T = none) (rx : Rl K M H x dx) (ry : Rl K M H y dy) : Rl K M (upd H T (.tup [x, y])) (.ref T) (.tuple [dx, dy]) :=
  .tup (.inl (.inl upd_same)) (.cons (rx.mono (Ext.new hT)) (.cons (ry.mono (Ext.new hT)) .nil))
theorem itok_el {a : Addr} {vs : List V} {xs : List D} (hl : LsR K M H a vs) (r : RlA K M H vs xs) : ItOk K (Ite K a) (enumD 0 xs) M H := fun M1 H1 S1 x ok i => by
  have hl1 := (x.lsr hl).sql
  have r1 := r.mono x
  rw [enumD_len]
  refine ⟨fun h => ⟨vs, hl1, by rw [r1.len]; exact h⟩, fun h => ⟨vs, vs[i]'(by rw [r1.len]; exact h), hl1, List.getElem?_eq_getElem _⟩, fun v H2 d e h => ?_⟩
  obtain ⟨T, w, rfl, hT, rfl, h⟩ := h
  obtain ⟨dx, e1, rfl⟩ := enumD_get xs 0 i d e
  obtain ⟨u, e2, r2⟩ := r1.get e1
  have := h vs hl1
  rw [e2] at this
  cases this
  rw [Nat.zero_add]
  exact ⟨Ext.new hT, ok.new hT, pairR hT (.int _) r2⟩
theorem itok_et {a : Addr} {vs : List V} {xs : List D} (hl : SqT K H a vs) (r : RlA K M H vs xs) : ItOk K (IteT K a) (enumD 0 xs) M H := fun M1 H1 S1 x ok i => by
  have hl1 := x.sqt hl
  have r1 := r.mono x
  rw [enumD_len]
  refine ⟨fun h => ⟨vs, hl1, by rw [r1.len]; exact h⟩, fun h => ⟨vs, vs[i]'(by rw [r1.len]; exact h), hl1, List.getElem?_eq_getElem _⟩, fun v H2 d e h => ?_⟩
  obtain ⟨T, w, rfl, hT, rfl, h⟩ := h
  obtain ⟨dx, e1, rfl⟩ := enumD_get xs 0 i d e
  obtain ⟨u, e2, r2⟩ := r1.get e1
  have := h vs hl1
  rw [e2] at this
  cases this
  rw [Nat.zero_add]
  exact ⟨Ext.new hT, ok.new hT, pairR hT (.int _) r2⟩
def mEnum (m : MA) : MN := fun ρ S => (mDs m ρ S).bind fun p => match p.1 with
  | [.list xs] => some (enumD 0 xs, p.2)
  | [.tuple xs] => some (enumD 0 xs, p.2)
  | _ => none
def iEnumA (K : PySem.W.Frag) (ta : TA) : TI := fun σ H R => iEnum K ta σ H R ∨ iEnumT K ta σ H R
theorem im_enum (h : ImA K t m) : ImI K (iEnumA K t) (mEnum m) := fun σ H M ρ S xs S' hs ok e R q => by
  unfold mEnum at e
  cases e1 : mDs m ρ S with
  | none => rw [e1] at e; cases e
  | some p =>
    rw [e1, Option.bind_some] at e
    obtain ⟨ds, S1⟩ := p
    simp only at e
    split at e <;> cases e
    · refine .inl (mDs_ok h hs ok e1 fun vs H1 M1 x1 ok1 r1 => ?_)
      cases r1 with
      | cons r1 r2 =>
        cases r2
        cases r1 with
        | lst h1 h2 => exact ⟨_, _, rfl, h1.sql, q _ H1 M1 x1 ok1 (itok_el h1 h2)⟩
    · refine .inr (mDs_ok h hs ok e1 fun vs H1 M1 x1 ok1 r1 => ?_)
      cases r1 with
      | cons r1 r2 =>
        cases r2
        cases r1 with
        | tup h1 h2 => exact ⟨_, _, rfl, h1, q _ H1 M1 x1 ok1 (itok_et h1 h2)⟩
def zipD (xs ys : List D) : List D := List.zipWith (fun x y => .tuple [x, y]) xs ys
theorem zipD_get {xs ys : List D} {i : Nat} {d : D} (h : (zipD xs ys)[i]? = some d) : ∃ x y, xs[i]? = some x ∧ ys[i]? = some y ∧ d = .tuple [x, y] := by
  unfold zipD at h
  rw [List.getElem?_zipWith] at h
  cases e1 : xs[i]? with
  | none => rw [e1] at h; cases h
  | some x =>
    cases e2 : ys[i]? with
    | none => rw [e1, e2] at h; cases h
    | some y => rw [e1, e2] at h; exact ⟨x, y, rfl, rfl, (Option.some.inj h).symm⟩
theorem zipD_len {xs ys : List D} : (zipD xs ys).length = min xs.length ys.length := by unfold zipD; exact List.length_zipWith
theorem itok_zl {a b : Addr} {vs ws : List V} {xs ys : List D} (hl : LsR K M H a vs) (r : RlA K M H vs xs) (hl' : LsR K M H b ws) (r' : RlA K M H ws ys) : ItOk K (Itz K a b) (zipD xs ys) M H := fun M1 H1 S1 x ok i => by
  have hl1 := (x.lsr hl).sql
  have hl2 := (x.lsr hl').sql
  have r1 := r.mono x
  have r2 := r'.mono x
  rw [zipD_len]
  refine ⟨fun h => ⟨vs, ws, hl1, hl2, by rw [r1.len, r2.len]; omega⟩, fun h => ⟨vs, ws, vs[i]'(by rw [r1.len]; omega), ws[i]'(by rw [r2.len]; omega), hl1, hl2, List.getElem?_eq_getElem _, List.getElem?_eq_getElem _⟩, fun v H2 d e h => ?_⟩
  obtain ⟨T, v1, v2, rfl, hT, rfl, h, h'⟩ := h
  obtain ⟨dx, dy, e1, e2, rfl⟩ := zipD_get e
  obtain ⟨u, e3, r3⟩ := r1.get e1
  obtain ⟨u', e4, r4⟩ := r2.get e2
  have q1 := h vs hl1
  have q2 := h' ws hl2
  rw [e3] at q1
  rw [e4] at q2
  cases q1
  cases q2
  exact ⟨Ext.new hT, ok.new hT, pairR hT r3 r4⟩
theorem itok_zt {a b : Addr} {vs ws : List V} {xs ys : List D} (hl : SqT K H a vs) (r : RlA K M H vs xs) (hl' : SqT K H b ws) (r' : RlA K M H ws ys) : ItOk K (RZ.ItzT K a b) (zipD xs ys) M H := fun M1 H1 S1 x ok i => by
  have hl1 := x.sqt hl
  have hl2 := x.sqt hl'
  have r1 := r.mono x
  have r2 := r'.mono x
  rw [zipD_len]
  refine ⟨fun h => ⟨vs, ws, hl1, hl2, by rw [r1.len, r2.len]; omega⟩, fun h => ⟨vs, ws, vs[i]'(by rw [r1.len]; omega), ws[i]'(by rw [r2.len]; omega), hl1, hl2, List.getElem?_eq_getElem _, List.getElem?_eq_getElem _⟩, fun v H2 d e h => ?_⟩
  obtain ⟨T, v1, v2, rfl, hT, rfl, h, h'⟩ := h
  obtain ⟨dx, dy, e1, e2, rfl⟩ := zipD_get e
  obtain ⟨u, e3, r3⟩ := r1.get e1
  obtain ⟨u', e4, r4⟩ := r2.get e2
  have q1 := h vs hl1
  have q2 := h' ws hl2
  rw [e3] at q1
  rw [e4] at q2
  cases q1
  cases q2
  exact ⟨Ext.new hT, ok.new hT, pairR hT r3 r4⟩
def mZip (m : MA) : MN := fun ρ S => (mDs m ρ S).bind fun p => match p.1 with
  | [.list xs, .list ys] => some (zipD xs ys, p.2)
  | [.tuple xs, .tuple ys] => some (zipD xs ys, p.2)
  | _ => none
theorem im_zip (h : ImA K t m) : ImI K (RZ.iZipA K t) (mZip m) := fun σ H M ρ S xs S' hs ok e R q => by
  unfold mZip at e
  cases e1 : mDs m ρ S with
  | none => rw [e1] at e; cases e
  | some p =>
    rw [e1, Option.bind_some] at e
    obtain ⟨ds, S1⟩ := p
    simp only at e
    refine mDs_ok h hs ok e1 fun vs H1 M1 x1 ok1 r1 => ?_
    split at e <;> cases e
    · cases r1 with
      | cons r1 r2 =>
        cases r2 with
        | cons r2 r3 =>
          cases r3
          cases r1 with
          | lst h1 h2 =>
            cases r2 with
            | lst h3 h4 => exact ⟨_, _, _, _, rfl, .inl ⟨h1.sql, h3.sql, q _ H1 M1 x1 ok1 (itok_zl h1 h2 h3 h4)⟩⟩
    · cases r1 with
      | cons r1 r2 =>
        cases r2 with
        | cons r2 r3 =>
          cases r3
          cases r1 with
          | tup h1 h2 =>
            cases r2 with
            | tup h3 h4 => exact ⟨_, _, _, _, rfl, .inr ⟨h1, h3, q _ H1 M1 x1 ok1 (itok_zt h1 h2 h3 h4)⟩⟩
/-! ### in -/
def inD (x : D) (ds : List D) : Option Bool := if SeqAt.shaped x && SeqAt.shaped (.list ds) then some (ds.any fun z => PyData.eqv z x) else none
def rInT (K : PySem.W.Frag) (g : Bool → Bool) : R2 := fun x y H Q => ∃ d ds, Dp K H x d ∧ Dp K H y (.tuple ds) ∧ SeqAt.shaped d = true ∧ SeqAt.shaped (.list ds) = true ∧ Q (.bl (g (ds.any fun z => PyData.eqv z d))) H
theorem op_inT {X : Cx} (hu : X.A.units + 65 < cLine) : OpR X (compareOp .In) (rInT X.K id) := fun pins s σ H x y v u Q I rx ry h => by
  obtain ⟨d, ds, hd, he, sd, se, q⟩ := h
  obtain ⟨as, r1⟩ := Dp.reads I d x v hd rx
  obtain ⟨bs, r2⟩ := Dp.reads I (.tuple ds) y u he ry
  refine SeqAt.in_tuple_reads r2 r1 (SeqAt.canLay_of_shaped se) (SeqAt.canLay_of_shaped sd) ?_ ⟨.bl _, H, I, rfl, q⟩
  exact room_in_shaped sd hu
theorem op_notInT {X : Cx} (hu : X.A.units + 65 < cLine) : OpR X (compareOp .NotIn) (rInT X.K not) := fun pins s σ H x y v u Q I rx ry h => by
  obtain ⟨d, ds, hd, he, sd, se, q⟩ := h
  obtain ⟨as, r1⟩ := Dp.reads I d x v hd rx
  obtain ⟨bs, r2⟩ := Dp.reads I (.tuple ds) y u he ry
  refine SeqAt.notIn_tuple_reads r2 r1 (SeqAt.canLay_of_shaped se) (SeqAt.canLay_of_shaped sd) ?_ ⟨.bl _, H, I, rfl, q⟩
  exact room_in_shaped sd hu
def mInQ (g : Bool → Bool) (ma : ME) (mq : MN) : ME := fun ρ S => (ma ρ S).bind fun p => (mq ρ p.2).bind fun q => (inD p.1 q.1).map fun b => (.bool (g b), q.2)
theorem im_inQ {g : Bool → Bool} {r : R2} {mq : MN} (hr : ∀ (x y : V) (d : D) (ds : List D) (H : Hp) (Q : VK), Dp K H x d → (Dp K H y (.list ds) ∨ Dp K H y (.tuple ds)) → SeqAt.shaped d = true → SeqAt.shaped (.list ds) = true → Q (.bl (g (ds.any fun z => PyData.eqv z d))) H → r x y H Q)
    (ha : ImE K ta ma) (hq : ImQ K tb mq) : ImE K (tOp r ta tb) (mInQ g ma mq) := fun σ H M ρ S d S' hs ok e Q q => by
  unfold mInQ at e
  cases e1 : ma ρ S with
  | none => rw [e1] at e; cases e
  | some p =>
    rw [e1, Option.bind_some] at e
    cases e2 : mq ρ p.2 with
    | none => rw [e2] at e; cases e
    | some p2 =>
      rw [e2, Option.bind_some] at e
      unfold inD at e
      split at e <;> cases e
      rename_i hb
      rw [Bool.and_eq_true] at hb
      refine ha σ H M ρ S p.1 p.2 hs ok e1 _ fun x H1 M1 x1 ok1 r1 => ?_
      refine hq σ H1 M1 ρ p.2 p2.1 p2.2 (hs.mono x1) ok1 e2 _ fun a vs H2 M2 x2 ok2 sq r2 => ?_
      refine hr x (.ref a) p.1 p2.1 H2 Q (r1.mono x2).dp ?_ hb.1 hb.2 (q _ H2 M2 (x1.trans x2) ok2 (.bl _))
      rcases sq with sq | sq
      · exact .inl (.lst sq (RlA.dp _ _ r2))
      · exact .inr (.tup sq (RlA.dp _ _ r2))
end
section
variable {ι : Type} {F : Fam ι} {a e : Expr} {ma mb me : ME} {m : MA} {pos : Pos}
theorem k_units2 (F : Fam ι) (i : ι) : (F.X i).A.units + 65 < cLine := by have := (F.room i).un; omega
variable {mq : MN}
theorem d_in (h1 : PDE F a ma) (h2 : PDQ F e mq) (hm : behindInMarks .In e = false := by rfl) : PDE F (.Compare a [.In] [e] pos) (mInQ (fun b => b) ma mq) := by
  obtain ⟨t1, p1, q1⟩ := h1
  obtain ⟨t2, p2, q2⟩ := h2
  exact ⟨_, fun i => pe_cmpR (by have := OpR.or (op_inD (X := F.X i) (k_units2 F i)) (op_inT (X := F.X i) (k_units2 F i)); rw [F.hK i] at this; exact this) (p1 i) (p2 i) hm,
    im_inQ (r := fun x y H Q => rInD F.K x y H Q ∨ rInT F.K id x y H Q) (fun x y d ds H Q hd he s1 s2 q => he.elim (fun he => .inl ⟨d, ds, hd, he, s1, s2, q⟩) fun he => .inr ⟨d, ds, hd, he, s1, s2, q⟩) q1 q2⟩
theorem d_inT (h1 : PDE F a ma) (h2 : PDQ F e mq) (hm : behindInMarks .In e = false := by rfl) : PDT F (.Compare a [.In] [e] pos) (mTB (mInQ (fun b => b) ma mq)) := by
  obtain ⟨t1, p1, q1⟩ := h1
  obtain ⟨t2, p2, q2⟩ := h2
  exact ⟨_, fun i => pt_cmpR (by have := OpR.or (op_inD (X := F.X i) (k_units2 F i)) (op_inT (X := F.X i) (k_units2 F i)); rw [F.hK i] at this; exact this) (p1 i) (p2 i) hm,
    im_tt (im_inQ (r := fun x y H Q => rInD F.K x y H Q ∨ rInT F.K id x y H Q) (fun x y d ds H Q hd he s1 s2 q => he.elim (fun he => .inl ⟨d, ds, hd, he, s1, s2, q⟩) fun he => .inr ⟨d, ds, hd, he, s1, s2, q⟩) q1 q2)⟩
theorem d_notin (h1 : PDE F a ma) (h2 : PDQ F e mq) (hm : behindInMarks .NotIn e = false := by rfl) : PDE F (.Compare a [.NotIn] [e] pos) (mInQ not ma mq) := by
  obtain ⟨t1, p1, q1⟩ := h1
  obtain ⟨t2, p2, q2⟩ := h2
  exact ⟨_, fun i => pe_cmpR (by have := OpR.or (op_notInD (X := F.X i) (k_units2 F i)) (op_notInT (X := F.X i) (k_units2 F i)); rw [F.hK i] at this; exact this) (p1 i) (p2 i) hm,
    im_inQ (r := fun x y H Q => rNotInD F.K x y H Q ∨ rInT F.K not x y H Q) (fun x y d ds H Q hd he s1 s2 q => he.elim (fun he => .inl ⟨d, ds, hd, he, s1, s2, q⟩) fun he => .inr ⟨d, ds, hd, he, s1, s2, q⟩) q1 q2⟩
theorem d_notinT (h1 : PDE F a ma) (h2 : PDQ F e mq) (hm : behindInMarks .NotIn e = false := by rfl) : PDT F (.Compare a [.NotIn] [e] pos) (mTB (mInQ not ma mq)) := by
  obtain ⟨t1, p1, q1⟩ := h1
  obtain ⟨t2, p2, q2⟩ := h2
  exact ⟨_, fun i => pt_cmpR (by have := OpR.or (op_notInD (X := F.X i) (k_units2 F i)) (op_notInT (X := F.X i) (k_units2 F i)); rw [F.hK i] at this; exact this) (p1 i) (p2 i) hm,
    im_tt (im_inQ (r := fun x y H Q => rNotInD F.K x y H Q ∨ rInT F.K not x y H Q) (fun x y d ds H Q hd he s1 s2 q => he.elim (fun he => .inl ⟨d, ds, hd, he, s1, s2, q⟩) fun he => .inr ⟨d, ds, hd, he, s1, s2, q⟩) q1 q2)⟩
theorem d_enum {elts : List Expr} {kk : Nat} {px tpos : Pos} (hm : ∀ i, (F.X i).mg "enumerate" = none) (h : PDA F [e] m) (hg : ∀ i, Gl (F.X i) "enumerate" := by exact fun _ => rfl) (hs : ∀ i, starEach [e] (F.X i).env = [(false, eval e (F.X i).env)] := by intro _; rfl) :
    PDI F (.Tuple elts kk tpos) (.Call (.Name "enumerate" px) [e] [] pos) (mEnum m) := by
  obtain ⟨t, p, q⟩ := h
  exact ⟨_, fun i => by have := pi_or (pi_enum (elts := elts) (kk := kk) (tpos := tpos) (pos := pos) (p := px) (hg i) (hm i) (p i) (hs i)) (pi_enumT (hg i) (hm i) (p i) (hs i)); rw [F.hK i] at this; exact this, im_enum q⟩
theorem d_zip {elts : List Expr} {kk : Nat} {px tpos : Pos} (hm : ∀ i, (F.X i).mg "zip" = none) (h : PDA F [a, e] m) (hg : ∀ i, Gl (F.X i) "zip" := by exact fun _ => rfl)
    (hs : ∀ i, starEach [a, e] (F.X i).env = (false, eval a (F.X i).env) :: starEach [e] (F.X i).env := by intro _; rfl) (hp : ∀ i, (backTo pos (starEach [e] (F.X i).env)).any (·.1) = false := by intro _; rfl) :
    PDI F (.Tuple elts kk tpos) (.Call (.Name "zip" px) [a, e] [] pos) (mZip m) := by
  obtain ⟨t, p, q⟩ := h
  exact ⟨_, fun i => by have := RZ.pi_zipA (elts := elts) (kk := kk) (tpos := tpos) (pos := pos) (p := px) (hg i) (hm i) (p i) (hs i) (hp i); rw [F.hK i] at this; exact this, im_zip q⟩
end
end G
set_option Elab.async false
set_option linter.all false
set_option autoImplicit false
set_option maxRecDepth 100000
set_option maxHeartbeats 4000000
/-! list + list, slices of lists that may be cells. -/
namespace G
open PySem PySem.Spec PyProof.Rows L2
theorem meets_addL {l b : Addr} {xs ys : Array Value} {n m : Nat} {dl db : Option Addr} {sl sb : Array (Option Value)} (hc : xs.size + ys.size ≤ sizeLine) :
    Meets (Builtin.«list.__add__» ⟨[.ref l, .ref b], []⟩) fun _ R s => s.heap.get? l = some { cls := .type "list", dict := dl, data := .seq xs n, slots := sl } ∧ s.heap.get? b = some { cls := .type "list", dict := db, data := .seq ys m, slots := sb } ∧
      R (.ok (.ret (.ref s.heap.objs.size))) { s with heap := s.heap.push { cls := .type "list", data := .seq (xs ++ ys) } } :=
  .of_wp fun prog w A R s h => by
    obtain ⟨z1, z2, z3, z4, z5⟩ := s
    obtain ⟨e1, e2, q⟩ := h
    have k1 := AutoSeq1.idx_int
    have k2 := AutoSeq1.sub_tuple_tuple
    have k3 := AutoSeq1.sub_list_list
    have k4 := AutoSeq1.sub_tuple_list
    have k5 := AutoSeq1.sub_list_tuple
    wp_walk using AutoSeq1.wpAny_loadPart' e1, AutoSeq1.wpAny_loadPart' e2
    exact ⟨_, rfl, q⟩
def rCatL (K : PySem.W.Frag) : R2 := fun x y H Q => ∃ a b xs ys, x = .ref a ∧ y = .ref b ∧ SqL K H a xs ∧ SqL K H b ys ∧ xs.length + ys.length ≤ sizeLine ∧ ∀ p, H p = none → Q (.ref p) (upd H p (.lst (xs ++ ys)))
theorem op_catL {X : Cx} : OpR X (binaryOp .Add) (rCatL X.K) := fun pins s σ H x y v u Q I rx ry h => by
  obtain ⟨a, b, xs, ys, rfl, rfl, ha, hb, hz, q⟩ := h
  cases rx
  cases ry
  obtain ⟨its, r, ⟨⟨c1, d1, dt1, s1⟩, n, e1, hc1, hd1, ht1⟩, _⟩ := I.list ha
  obtain ⟨its2, r2, ⟨⟨c2, d2, dt2, s2⟩, n2, e2, hc2, hd2, ht2⟩, _⟩ := I.list hb
  simp only at hc1 ht1 hc2 ht2
  subst hc1 ht1 hc2 ht2
  have l1 := r.length
  have l2 := r2.length
  refine concat_meets ⟨_, e1, rfl⟩ ⟨_, e2, rfl⟩ noFill_list_add seq_list_add PySem.F.slot_list_add PySem.F.entry_list_add (PySem.F.args_list_add_2 _ _) (meets_addL (by rw [List.size_toArray, List.size_toArray]; omega)) ⟨e1, e2, ?_⟩
  have ea : its.toArray ++ its2.toArray = (its ++ its2).toArray := by simp
  rw [ea]
  exact ⟨.ref _, _, I.lnew (t' := s.toks) (r.append r2) (by rw [List.length_append]; omega), rfl, q _ I.fresh⟩

section
variable {K : PySem.W.Frag} {M M' : Adr} {H H' : Hp} {S S' : Sto} {ta tb tc te : TE} {ma mb mc me : ME} {d : D}
theorem lvar_at {σ : L2.St} {ρ : Rho} {i : Nat} {xs : List D} (hr : RSt K M H σ ρ) (ok : Ok K M S H) (h : mLVar i ρ S = some (xs, S')) :
    S' = S ∧ ∃ a vs, σ[i]? = some (some (.ref a)) ∧ SqL K H a vs ∧ RlA K M H vs xs := by
  unfold mLVar at h
  split at h
  · rename_i xs e
    cases h
    obtain ⟨v, e1, r⟩ := hr.at_ i _ e
    cases r with
    | lst h1 h2 => exact ⟨rfl, _, _, e1, h1.sql, h2⟩
  · rename_i n e
    cases e2 : S[n]? with
    | none => rw [e2] at h; cases h
    | some c =>
      cases c with
      | none => rw [e2] at h; cases h
      | some xs =>
        rw [e2] at h
        cases h
        obtain ⟨v, e1, a, rfl, r⟩ := hr.at_ i _ e
        obtain ⟨a', vs, m1, m2, m3⟩ := ok.cell n _ e2
        have ea : a = a' := by rcases r with r | r <;> (rw [r] at m1; cases m1); rfl
        subst ea
        exact ⟨rfl, _, _, e1, .inl (.inl m2), m3⟩
  · cases h
theorem lvar_some {σ : L2.St} {ρ : Rho} {i : Nat} {p : List D × Sto} (hr : RSt K M H σ ρ) (h : mLVar i ρ S = some p) : ∃ v, σ[i]? = some (some v) := by
  unfold mLVar at h
  split at h
  · rename_i e; obtain ⟨v, e1, _⟩ := hr.at_ i _ e; exact ⟨v, e1⟩
  · rename_i e; obtain ⟨v, e1, _⟩ := hr.at_ i _ e; exact ⟨v, e1⟩
  · cases h
/-- name + new list: the name is read behind it -/
def mCatV (j : Nat) (mb : MN) : MN := fun ρ S => (mb ρ S).bind fun q => (mLVar j ρ q.2).bind fun p => if p.1.length + q.1.length ≤ 1000000 then some (p.1 ++ q.1, q.2) else none
theorem im_catV {j : Nat} {m2 : MN} (h2 : ImN K tb m2) : ImN K (tOp (rCatL K) (tVar j) tb) (mCatV j m2) := fun σ H M ρ S o S' hs ok e Q q => by
  unfold mCatV at e
  cases e1 : m2 ρ S with
  | none => rw [e1] at e; cases e
  | some p =>
    rw [e1, Option.bind_some] at e
    cases e2 : mLVar j ρ p.2 with
    | none => rw [e2] at e; cases e
    | some p2 =>
      rw [e2, Option.bind_some] at e
      split at e <;> cases e
      rename_i hz
      obtain ⟨v, hv⟩ := lvar_some hs e2
      refine ⟨v, hv, h2 σ H M ρ S p.1 p.2 hs ok e1 _ fun b ws H2 M2 x2 ok2 k0 k1 k2 r2 => ?_⟩
      obtain ⟨_, a, vs, ha, sq, r⟩ := lvar_at (hs.mono x2) ok2 e2
      rw [hv] at ha
      cases ha
      refine ⟨a, b, vs, ws, rfl, rfl, sq, .inl (.inl k1), Nat.le_trans (by rw [r.len, r2.len]; exact hz) big, fun p hp => ?_⟩
      exact q p _ _ (M2.gh p) (x2.trans (Ext.ghost hp)) (ok2.ghost hp) (x2.free p hp) upd_same List.mem_cons_self ((r.append r2).fresh hp)
/-- data + new list, new list + data -/
def mCatX (ma : ME) (mb : MN) : MN := fun ρ S => (mLE ma ρ S).bind fun p => (mb ρ p.2).bind fun q => if p.1.length + q.1.length ≤ 1000000 then some (p.1 ++ q.1, q.2) else none
theorem le_some {ρ : Rho} {p : List D × Sto} (h : mLE me ρ S = some p) : me ρ S = some (.list p.1, p.2) := by
  unfold mLE at h
  cases e1 : me ρ S with
  | none => rw [e1] at h; cases h
  | some q =>
    rw [e1] at h
    obtain ⟨y, S1⟩ := q
    cases y <;> first | (cases h; done) | skip
    cases h
    rfl
theorem im_catX {m2 : MN} (h1 : ImE K ta ma) (h2 : ImN K tb m2) : ImN K (tOp (rCatL K) ta tb) (mCatX ma m2) := fun σ H M ρ S o S' hs ok e Q q => by
  unfold mCatX at e
  cases e1 : mLE ma ρ S with
  | none => rw [e1] at e; cases e
  | some p =>
    rw [e1, Option.bind_some] at e
    cases e2 : m2 ρ p.2 with
    | none => rw [e2] at e; cases e
    | some p2 =>
      rw [e2, Option.bind_some] at e
      split at e <;> cases e
      rename_i hz
      refine h1 σ H M ρ S _ _ hs ok (le_some e1) _ fun v H1 M1 x1 ok1 r1 => ?_
      refine h2 σ H1 M1 ρ _ p2.1 p2.2 (hs.mono x1) ok1 e2 _ fun b ws H2 M2 x2 ok2 k0 k1 k2 r2 => ?_
      have r3 := r1.mono x2
      cases r3 with
      | lst z1 z2 =>
        refine ⟨_, b, _, ws, rfl, rfl, z1.sql, .inl (.inl k1), Nat.le_trans (by rw [z2.len, r2.len]; exact hz) big, fun p hp => ?_⟩
        have x := x1.trans x2
        exact q p _ _ (M2.gh p) (x.trans (Ext.ghost hp)) (ok2.ghost hp) (x.free p hp) upd_same List.mem_cons_self ((z2.append r2).fresh hp)
def mCatY (ma : MN) (mb : ME) : MN := fun ρ S => (ma ρ S).bind fun p => (mLE mb ρ p.2).bind fun q => if p.1.length + q.1.length ≤ 1000000 then some (p.1 ++ q.1, q.2) else none
theorem im_catY {m1 : MN} (h1 : ImN K ta m1) (h2 : ImE K tb mb) : ImN K (tOp (rCatL K) ta tb) (mCatY m1 mb) := fun σ H M ρ S o S' hs ok e Q q => by
  unfold mCatY at e
  cases e1 : m1 ρ S with
  | none => rw [e1] at e; cases e
  | some p =>
    rw [e1, Option.bind_some] at e
    cases e2 : mLE mb ρ p.2 with
    | none => rw [e2] at e; cases e
    | some p2 =>
      rw [e2, Option.bind_some] at e
      split at e <;> cases e
      rename_i hz
      refine h1 σ H M ρ S p.1 p.2 hs ok e1 _ fun a vs H1 M1 x1 ok1 n0 n1 n2 r1 => ?_
      refine h2 σ H1 M1 ρ _ _ _ (hs.mono x1) ok1 (le_some e2) _ fun v H2 M2 x2 ok2 r2 => ?_
      have n3 := x2.keep a _ n1 (.inl fun z => ok1.dj a z n2)
      have r3 := r1.mono x2
      cases r2 with
      | lst z1 z2 =>
        refine ⟨a, _, vs, _, rfl, rfl, .inl (.inl n3), z1.sql, Nat.le_trans (by rw [r3.len, z2.len]; exact hz) big, fun p hp => ?_⟩
        have x := x1.trans x2
        exact q p _ _ (M2.gh p) (x.trans (Ext.ghost hp)) (ok2.ghost hp) (x.free p hp) upd_same List.mem_cons_self ((r3.append z2).fresh hp)
/-- name[lo:hi], a list that may be a cell -/
def mSlV (j : Nat) (lo hi : MO) : MN := fun ρ S => (lo ρ S).bind fun l => (hi ρ l.2).bind fun u => (mLVar j ρ u.2).bind fun p => some (cut p.1 l.1 u.1, u.2)
theorem im_slV {j : Nat} {tl th : TO} {ml mh : MO} (hl : ImO K tl ml) (hh : ImO K th mh) : ImN K (tSl (rSlL K) (tVar j) tl th) (mSlV j ml mh) := fun σ H M ρ S d S' hs ok e Q q => by
  unfold mSlV at e
  cases e2 : ml ρ S with
  | none => rw [e2] at e; cases e
  | some l =>
    rw [e2, Option.bind_some] at e
    cases e3 : mh ρ l.2 with
    | none => rw [e3] at e; cases e
    | some u =>
      rw [e3, Option.bind_some] at e
      cases e4 : mLVar j ρ u.2 with
      | none => rw [e4] at e; cases e
      | some p =>
        rw [e4, Option.bind_some] at e
        cases e
        obtain ⟨v, hv⟩ := lvar_some hs e4
        refine ⟨v, hv, ?_⟩
        refine hl σ H M ρ _ l.1 l.2 hs ok (by rw [e2]) _ fun H2 M2 x2 ok2 => ?_
        refine hh σ H2 M2 ρ _ u.1 u.2 (hs.mono x2) ok2 (by rw [e3]) _ fun H3 M3 x3 ok3 => ?_
        have x := x2.trans x3
        obtain ⟨_, a, vs, ha, sq, r⟩ := lvar_at (hs.mono x) ok3 e4
        rw [hv] at ha
        cases ha
        exact ⟨a, vs, rfl, sq, fun p hp => q p _ _ (M3.gh p) (x.trans (Ext.ghost hp)) (ok3.ghost hp) (x.free p hp) upd_same List.mem_cons_self ((r.cut _ _).fresh hp)⟩
end
section
variable {ι : Type} {F : Fam ι} {a e : Expr} {ma mb me : ME} {mn mn2 : MN} {m : MA} {pos : Pos}
theorem d_catV (j : Nat) {x : Str} {px : Pos} (h2 : PDN F e mn2) (hN : ∀ i, (F.X i).N[j]? = some x := by exact fun _ => rfl) (hv : ∀ i, Vis (F.X i).env.scope x := by first | exact fun _ => Or.inl rfl | exact fun _ => Or.inr (Or.inl rfl) | exact fun _ => Or.inr (Or.inr rfl))
    (hd : (x == ("__debug__" : Str)) = false := by decide) (hcd : (x == ("__classdict__" : Str)) = false := by decide) : PDN F (.BinOp (.Name x px) .Add e pos) (mCatV j mn2) := by
  obtain ⟨t2, p2, q2⟩ := h2
  exact ⟨_, fun i => pe_op (by have := op_catL (X := F.X i); rw [F.hK i] at this; exact this) (pe_var (hN i) (hv i) hd hcd) (p2 i), im_catV q2⟩
theorem d_catX (h1 : PDE F a ma) (h2 : PDN F e mn2) : PDN F (.BinOp a .Add e pos) (mCatX ma mn2) := by
  obtain ⟨t1, p1, q1⟩ := h1
  obtain ⟨t2, p2, q2⟩ := h2
  exact ⟨_, fun i => pe_op (by have := op_catL (X := F.X i); rw [F.hK i] at this; exact this) (p1 i) (p2 i), im_catX q1 q2⟩
theorem d_catY (h1 : PDN F a mn) (h2 : PDE F e mb) : PDN F (.BinOp a .Add e pos) (mCatY mn mb) := by
  obtain ⟨t1, p1, q1⟩ := h1
  obtain ⟨t2, p2, q2⟩ := h2
  exact ⟨_, fun i => pe_op (by have := op_catL (X := F.X i); rw [F.hK i] at this; exact this) (p1 i) (p2 i), im_catY q1 q2⟩
theorem d_slV (j : Nat) {x : Str} {px : Pos} {lo hi : Option Expr} {ml mh : MO} {p2 : Pos} (hl : PDO F lo ml) (hh : PDO F hi mh) (hN : ∀ i, (F.X i).N[j]? = some x := by exact fun _ => rfl) (hv : ∀ i, Vis (F.X i).env.scope x := by first | exact fun _ => Or.inl rfl | exact fun _ => Or.inr (Or.inl rfl) | exact fun _ => Or.inr (Or.inr rfl))
    (hd : (x == ("__debug__" : Str)) = false := by decide) (hcd : (x == ("__classdict__" : Str)) = false := by decide) : PDN F (.Subscript (.Name x px) (.Slice lo hi none p2) pos) (mSlV j ml mh) := by
  obtain ⟨t1, p1, q1⟩ := hl
  obtain ⟨t2, p2, q2⟩ := hh
  exact ⟨_, fun i => pe_slice (by have := sl_list (X := F.X i); rw [F.hK i] at this; exact this) (pe_var (hN i) (hv i) hd hcd) (p1 i) (p2 i), im_slV q1 q2⟩
end
end G
set_option Elab.async false
set_option linter.all false
set_option autoImplicit false
set_option maxRecDepth 100000
set_option maxHeartbeats 4000000
/-! not x, of any value's truth. -/
namespace G
open PySem PySem.Spec PyProof.Rows L2
def tNotT (K : PySem.W.Frag) (ta : TE) : TE := fun σ H Q => ta σ H fun x H1 => ∃ k, TruV K x H1 k ∧ Q (.bl (!k)) H1
theorem pe_notT {X : Cx} {a : Expr} {ta : TE} {pos : Pos} (ha : PE X a ta) : PE X (.UnaryOp .Not a pos) (tNotT X.K ta) :=
  ⟨fun pins s σ H Q I h => UnaryOp_ (thn (ha.run pins s σ H _ I h) fun v s1 ⟨x, H1, I1, r1, k, t, q⟩ => PyProof.Rows.not_of (thn (tru_ok pins s1 σ H1 x v (fun b H2 => Q (.bl (!b)) H2) I1 r1 ⟨k, t, q⟩) fun b s2 z => by
    obtain ⟨H2, I2, q2⟩ := z
    exact ⟨.bl (!b), H2, I2, rfl, q2⟩))⟩
section
variable {K : PySem.W.Frag} {ta : TE} {ma : ME}
def mNotT (ma : ME) : ME := fun ρ S => (mTru ma ρ S).map fun p => (.bool !p.1, p.2)
theorem im_notT (h : ImE K ta ma) : ImE K (tNotT K ta) (mNotT ma) := fun σ H M ρ S d S' hs ok e Q q => by
  unfold mNotT at e
  cases e1 : mTru ma ρ S with
  | none => rw [e1] at e; cases e
  | some p =>
    rw [e1] at e
    cases e
    have h2 : tTru K ta σ H (fun k H' => Q (.bl (!k)) H') := im_tru h σ H M ρ S p.1 p.2 hs ok e1 _ fun H1 M1 x1 ok1 => q _ H1 M1 x1 ok1 (.bl _)
    exact h2
def mNotTQ (mn : MN) : ME := fun ρ S => (mTruQ mn ρ S).map fun p => (.bool !p.1, p.2)
theorem im_notTQ {mn : MN} (h : ImQ K ta mn) : ImE K (tNotT K ta) (mNotTQ mn) := fun σ H M ρ S d S' hs ok e Q q => by
  unfold mNotTQ at e
  cases e1 : mTruQ mn ρ S with
  | none => rw [e1] at e; cases e
  | some p =>
    rw [e1] at e
    cases e
    have h2 : tTru K ta σ H (fun k H' => Q (.bl (!k)) H') := im_truQ h σ H M ρ S p.1 p.2 hs ok e1 _ fun H1 M1 x1 ok1 => q _ H1 M1 x1 ok1 (.bl _)
    exact h2
end
section
variable {ι : Type} {F : Fam ι} {a e : Expr} {me : ME} {mn : MN} {pos : Pos}
theorem d_notE (h : PDE F e me) : PDE F (.UnaryOp .Not e pos) (mNotT me) := by
  obtain ⟨t, p, q⟩ := h
  exact ⟨_, fun i => by have := pe_notT (pos := pos) (p i); rw [F.hK i] at this; exact this, im_notT q⟩
theorem d_notQ (h : PDQ F e mn) : PDE F (.UnaryOp .Not e pos) (mNotTQ mn) := by
  obtain ⟨t, p, q⟩ := h
  exact ⟨_, fun i => by have := pe_notT (pos := pos) (p i); rw [F.hK i] at this; exact this, im_notTQ q⟩
end
end G
set_option linter.all false
set_option autoImplicit false
namespace G
open PySem L2
/-- require -/
def d_require : Fn := mDef 2 2 fun b =>
  (mIfS (mNot (mTru (mVar 0))) mNever mNext)
/-- is_integer -/
def d_is_integer : Fn := mDef 3 3 fun b =>
  (mRet (mAndV (mIsi "int" (mVar 0)) (mAndV (mNotV (mIsi "bool" (mVar 0))) (mChain fLe fLe (mVar 1) (mVar 0) (mVar 2)))))
/-- is_tuple -/
def d_is_tuple : Fn := mDef 3 3 fun b =>
  (mRet (mAndV (mIsi "tuple" (mVar 0)) (mChain fLe fLe (mVar 1) (mLen (mQVar 0)) (mVar 2))))
/-- are_integers -/
def d_are_integers (F_is_integer : Fn) : Fn := mDef 3 4 fun b =>
  (mRet (mAll (mLc (mQE (mVar 0)) (mgN 3) mYes (mCall 3 F_is_integer (mAV 3 (mAV 1 (mAV 2 mA0)))) [3])))
/-- is_arities -/
def d_is_arities (F_is_tuple F_are_integers : Fn) : Fn := mDef 1 1 fun b =>
  (mRet (mAndV (mCall 3 F_is_tuple (mAV 0 (mA1 (mC (.int 1)) (mA1 (mC (.int 4)) mA0)))) (mCall 3 F_are_integers (mAV 0 (mA1 (mC (.int 0)) (mA1 (mC (.int 2)) mA0))))))
/-- is_tree -/
def d_is_tree (F__is_node : Fn) : Fn := mDef 2 5 fun b =>
  (mSeq (mNew 2 (mLst (mA1 (mVar 1) mA0)))
  (mSeq (mAsg (mC (.int 0)) (mgN 3))
  (mSeq (whRun (mTruQ (mQVar 2)) (mSeq (mAsg (mPop 2) (mgN 4))
  (mSeq (mAug 3 (fI0 fun i j => .int (i + j)) (mC (.int 1)))
  (mSeq (mIfS (mOr (mTB (mOp fGt (mVar 3) (mC (.int 15)))) (mNot (mTru (mCall 2 F__is_node (mAV 0 (mAV 4 mA0)))))) (mRet (mC (.bool false))) mNext)
  (mDrop (mExtT 2 (mSlT (mVar 4) (mO1 (mC (.int 1))) mO0)))))) 60)
  (mRet (mC (.bool true))))))
/-- _is_node -/
def d__is_node (F_is_tuple F_is_integer : Fn) : Fn := mDef 2 2 fun b =>
  (mSeq (mIfS (mOr (mNot (mTru (mCall 3 F_is_tuple (mAV 1 (mA1 (mC (.int 1)) (mA1 (mOp fAdd (mC (.int 2)) (mC (.int 1))) mA0)))))) (mNot (mTru (mCall 3 F_is_integer (mA1 (mIxV 1 (mC (.int 0))) (mA1 (mC (.int 0)) (mA1 (mOp fSub (mLen (mQVar 0)) (mC (.int 1))) mA0))))))) (mRet (mC (.bool false))) mNext)
  (mRet (mOp fEq (mLen (mQVar 1)) (mOp fAdd (mC (.int 1)) (mIxV 0 (mIxV 1 (mC (.int 0))))))))
/-- is_table -/
def d_is_table (F_require F_is_arities F_is_tuple F_is_integer F__is_row : Fn) : Fn := mDef 2 5 fun b =>
  (mSeq (mDrop (mCall 2 F_require (mA1 (mCall 1 F_is_arities (mAV 0 mA0)) (mA1 (mC (.str "arities")) mA0))))
  (mSeq (mIfS (mOr (mNot (mTru (mCall 3 F_is_tuple (mAV 1 (mA1 (mC (.int 2)) (mA1 (mC (.int 2)) mA0)))))) (mNot (mTru (mCall 3 F_is_tuple (mA1 (mIxV 1 (mC (.int 1))) (mA1 (mC (.int 1)) (mA1 (mC (.int 4)) mA0))))))) (mRet (mC (.bool false))) mNext)
  (mSeq (mAsg (mVar 1) (mgT 2 (mg1 (mgN 2) (mg1 (mgN 3) mg0))))
  (mRet (mAndV (mCall 3 F_is_integer (mAV 2 (mA1 (mC (.int 0)) (mA1 (mOp fSub (mLen (mQVar 3)) (mC (.int 1))) mA0)))) (mAll (mLc (mQE (mVar 3)) (mgN 4) mYes (mCall 3 F__is_row (mAV 0 (mAV 4 (mA1 (mLen (mQVar 3)) mA0)))) [4])))))))
/-- _is_row -/
def d__is_row (F_is_tuple F__is_entry : Fn) : Fn := mDef 3 5 fun b =>
  (mSeq (mIfS (mNot (mTru (mCall 3 F_is_tuple (mAV 1 (mA1 (mLen (mQVar 0)) (mA1 (mLen (mQVar 0)) mA0)))))) (mRet (mC (.bool false))) mNext)
  (mRet (mAll (mLc (mZip (mA1 (mVar 1) (mA1 (mVar 0) mA0))) (mgT 2 (mg1 (mgN 3) (mg1 (mgN 4) mg0))) mYes (mCall 3 F__is_entry (mAV 3 (mAV 4 (mAV 2 mA0)))) [3, 4]))))
/-- _is_entry -/
def d__is_entry (F_is_tuple F_are_integers : Fn) : Fn := mDef 3 3 fun b =>
  (mRet (mOrV (mOp fIs (mVar 0) (mC .none)) (mAndV (mCall 3 F_is_tuple (mAV 0 (mAV 1 (mAV 1 mA0)))) (mCall 3 F_are_integers (mAV 0 (mA1 (mC (.int 0)) (mA1 (mOp fSub (mVar 2) (mC (.int 1))) mA0)))))))
/-- _require_table_and_tree -/
def d__require_table_and_tree (F_require F_is_table F_is_tree : Fn) : Fn := mDef 3 3 fun b =>
  (mSeq (mDrop (mCall 2 F_require (mA1 (mCall 2 F_is_table (mAV 0 (mAV 1 mA0))) (mA1 (mC (.str "table")) mA0))))
  (mDrop (mCall 2 F_require (mA1 (mCall 2 F_is_tree (mAV 0 (mAV 2 mA0))) (mA1 (mC (.str "tree")) mA0)))))
/-- run -/
def d_run (F__require_table_and_tree F__visits : Fn) : Fn := mDef 3 9 fun b =>
  (mSeq (mDrop (mCall 3 F__require_table_and_tree (mAV 0 (mAV 1 (mAV 2 mA0)))))
  (mSeq (mAsg (mEN (mCallN 4 F__visits (mA1 (mIxV 1 (mC (.int 1))) (mAV 2 (mA1 (mIxV 1 (mC (.int 0))) (mA1 (mTup mA0) mA0)))))) (mgN 3))
  (mSeq (mAsg (mEN (mLc (mQE (mVar 3)) (mgT 3 (mg1 (mgN 5) (mg1 (mgN 6) (mg1 (mgN 7) mg0)))) (mTru (mVar 7)) (mVar 5) [5, 6, 7])) (mgN 4))
  (mSeq (mAsg (mTuple (mLc (mQE (mVar 3)) (mgT 3 (mg1 (mgN 5) (mg1 (mgN 6) (mg1 (mgN 7) mg0)))) mYes (mTup (mA1 (mVar 5) (mA1 (mVar 6) mA0))) [5, 6, 7])) (mgN 8))
  (mRet (mTup (mA1 (mNotT (mVar 4)) (mA1 (mIf (mTru (mVar 4)) (mIxV 4 (mC (.int 0))) (mC .none)) (mA1 (mVar 8) mA0)))))))))
/-- _visits -/
def d__visits (F__visits : Fn) : Fn := mDef 4 8 fun b =>
  (mSeq (mAsg (mOp fIx (mIxV 0 (mVar 2)) (mIxV 1 (mC (.int 0)))) (mgN 4))
  (mSeq (mNew 5 (mLst (mA1 (mTup (mA1 (mVar 3) (mA1 (mVar 2) (mA1 (mOp fIs (mVar 4) (mC .none)) mA0)))) mA0)))
  (mSeq (mIfS (mTB (mOp fIs (mVar 4) (mC .none))) (mRetV b 5) mNext)
  (mSeq (mFor (mEnum (mA1 (mSlT (mVar 1) (mO1 (mC (.int 1))) mO0) mA0)) (mgT 2 (mg1 (mgN 6) (mg1 (mgN 7) mg0))) (mDrop (mExtN 5 (mCallN 4 F__visits (mAV 0 (mAV 7 (mA1 (mIxV 4 (mVar 6)) (mA1 (mOp fAdd (mVar 3) (mTup (mA1 (mVar 6) mA0))) mA0))))))))
  (mRetV b 5)))))
/-- _law_stream -/
def d__law_stream : Fn := mDef 1 1 fun b =>
  (mRetL (mLst (mA1 (mEN (mList (mQVar 0))) (mA1 (mC (.int 0)) (mA1 (mC (.int 0)) mA0)))))
/-- _law_next -/
def d__law_next : Fn := mDef 2 5 fun b =>
  (mSeq (mIfS (mTB (mOp fEq (mIxV 0 (mC (.int 1))) (mC (.int 0)))) (mSeq (mAsg (mIxV 0 (mC (.int 2))) (mgN 2))
  (mSeq (mAsg (mOp fAdd (mC (.int 7)) (mVar 2)) (mgN 3))
  (mSeq (mIfS (mTB (mOp fLt (mVar 2) (mLen (mQE (mIxV 0 (mC (.int 0))))))) (mAsg (mB fAbs (mA1 (mOp fIx (mIxV 0 (mC (.int 0))) (mVar 2)) mA0)) (mgN 3)) mNext)
  (mSeq (mIfS (mTB (mOp fLt (mVar 3) (mOp fPow (mC (.int 10)) (mC (.int 18))))) (mSeq (mAsg (mOp fMod (mB fInt (mA1 (mOp fAdd (mOp fAdd (mOp fMulX (mVar 3) (mC (.int 48271))) (mOp fMulX (mVar 2) (mC (.int 69621)))) (mC (.int 11))) mA0)) (mC (.int 2147483647))) (mgN 3))
  (mAsg (mOp fAdd (mOp fMulX (mOp fMod (mB fInt (mA1 (mOp fAdd (mOp fMulX (mVar 3) (mC (.int 16807))) (mC (.int 13))) mA0)) (mC (.int 2147483647))) (mC (.int 65537))) (mVar 3)) (mgN 3))) mNext)
  (mSeq (mSub 0 (mC (.int 1)) (mVar 3))
  (mSub 0 (mC (.int 2)) (mOp fAdd (mVar 2) (mC (.int 1))))))))) mNext)
  (mSeq (mAsg (mOp fMod (mB fInt (mA1 (mIxV 0 (mC (.int 1))) mA0)) (mVar 1)) (mgN 4))
  (mSeq (mSub 0 (mC (.int 1)) (mOp fDiv (mIxV 0 (mC (.int 1))) (mVar 1)))
  (mRet (mVar 4)))))
/-- _law_is_integer -/
def d__law_is_integer : Fn := mDef 1 1 fun b =>
  (mRet (mAndV (mIsi "int" (mVar 0)) (mNotV (mIsi "bool" (mVar 0)))))
/-- _law_equal -/
def d__law_equal (F__law_is_integer F__law_equal : Fn) : Fn := mDef 2 3 fun b =>
  (mSeq (mIfS (mTB (mOp fIs (mVar 1) (mC .none))) (mRet (mOp fIs (mVar 0) (mC .none))) mNext)
  (mSeq (mIfS (mTru (mIsi "bool" (mVar 1))) (mRet (mAndV (mIsi "bool" (mVar 0)) (mOp fEq (mVar 0) (mVar 1)))) mNext)
  (mSeq (mIfS (mTru (mIsi "int" (mVar 1))) (mRet (mAndV (mCall 1 F__law_is_integer (mAV 0 mA0)) (mOp fEq (mVar 0) (mVar 1)))) mNext)
  (mSeq (mIfS (mTru (mIsi "str" (mVar 1))) (mRet (mAndV (mIsi "str" (mVar 0)) (mOp fEq (mVar 0) (mVar 1)))) mNext)
  (mSeq (mIfS (mAnd (mTru (mIsi "tuple" (mVar 1))) (mNot (mTru (mIsi "tuple" (mVar 0))))) (mRet (mC (.bool false))) mNext)
  (mSeq (mIfS (mAnd (mTru (mIsi "list" (mVar 1))) (mNot (mTru (mIsi "list" (mVar 0))))) (mRet (mC (.bool false))) mNext)
  (mSeq (mIfS (mTB (mOp fNe (mLen (mQVar 0)) (mLen (mQVar 1)))) (mRet (mC (.bool false))) mNext)
  (mRet (mAll (mLc (mR1 (mLen (mQVar 1))) (mgN 2) mYes (mCall 2 F__law_equal (mA1 (mIxV 0 (mVar 2)) (mA1 (mIxV 1 (mVar 2)) mA0))) [2]))))))))))
/-- _law_arities -/
def d__law_arities (F__law_next : Fn) : Fn := mDef 1 1 fun b =>
  (mRet (mOp fIx (mEN (mLst (mA1 (mTup (mA1 (mC (.int 0)) (mA1 (mC (.int 2)) mA0))) (mA1 (mTup (mA1 (mC (.int 0)) (mA1 (mC (.int 0)) (mA1 (mC (.int 2)) mA0)))) (mA1 (mTup (mA1 (mC (.int 0)) (mA1 (mC (.int 1)) (mA1 (mC (.int 2)) mA0)))) (mA1 (mTup (mA1 (mC (.int 0)) (mA1 (mC (.int 1)) mA0))) (mA1 (mTup (mA1 (mC (.int 1)) (mA1 (mC (.int 0)) (mA1 (mC (.int 0)) mA0)))) (mA1 (mTup (mA1 (mC (.int 2)) (mA1 (mC (.int 0)) mA0))) (mA1 (mTup (mA1 (mC (.int 0)) (mA1 (mC (.int 0)) (mA1 (mC (.int 1)) (mA1 (mC (.int 2)) mA0))))) (mA1 (mTup (mA1 (mC (.int 2)) (mA1 (mC (.int 1)) (mA1 (mC (.int 0)) mA0)))) mA0)))))))))) (mCall 2 F__law_next (mAV 0 (mA1 (mC (.int 8)) mA0)))))
/-- _law_table -/
def d__law_table (F__law_next : Fn) : Fn := mDef 3 9 fun b =>
  (mSeq (mAsg (mOp fAdd (mC (.int 1)) (mCall 2 F__law_next (mAV 0 (mAV 2 mA0)))) (mgN 3))
  (mSeq (mNew 4 (mLst mA0))
  (mSeq (mFor (mR1 (mVar 3)) (mgN 5) (mSeq (mNew 6 (mLst mA0))
  (mSeq (mFor (mQE (mVar 1)) (mgN 7) (mIfS (mTB (mOp fEq (mCall 2 F__law_next (mAV 0 (mA1 (mC (.int 3)) mA0))) (mC (.int 0)))) (mDrop (mApp 6 (mC .none))) (mDrop (mApp 6 (mTuple (mLc (mR1 (mVar 7)) (mgN 8) mYes (mCall 2 F__law_next (mAV 0 (mAV 3 mA0))) [8]))))))
  (mDrop (mApp 4 (mTuple (mQVar 6)))))))
  (mRet (mTup (mA1 (mCall 2 F__law_next (mAV 0 (mAV 3 mA0))) (mA1 (mTuple (mQVar 4)) mA0)))))))
/-- _law_tree -/
def d__law_tree (F__law_next : Fn) : Fn := mDef 3 9 fun b =>
  (mSeq (mAsg (mEN (mLc (mR1 (mLen (mQVar 1))) (mgN 4) (mTB (mOp fEq (mIxV 1 (mVar 4)) (mC (.int 0)))) (mVar 4) [4])) (mgN 3))
  (mSeq (mAsg (mEN (mLc (mR1 (mLen (mQVar 1))) (mgN 4) (mTB (mOp fGt (mIxV 1 (mVar 4)) (mC (.int 0)))) (mVar 4) [4])) (mgN 5))
  (mSeq (mNew 6 (mLst mA0))
  (mSeq (mFor (mR1 (mOp fAdd (mC (.int 1)) (mCall 2 F__law_next (mAV 0 (mAV 2 mA0))))) (mgN 7) (mDrop (mApp 6 (mTup (mA1 (mIxV 3 (mCall 2 F__law_next (mAV 0 (mA1 (mLen (mQVar 3)) mA0)))) mA0)))))
  (mSeq (mFor (mR1 (mVar 2)) (mgN 7) (mSeq (mAsg (mIxV 5 (mCall 2 F__law_next (mAV 0 (mA1 (mLen (mQVar 5)) mA0)))) (mgN 4))
  (mSeq (mIfS (mAnd (mTB (mOp fEq (mIxV 1 (mVar 4)) (mC (.int 2)))) (mTB (mOp fGt (mLen (mQVar 6)) (mC (.int 1))))) (mSeq (mAsg (mCall 2 F__law_next (mAV 0 (mA1 (mOp fSub (mLen (mQVar 6)) (mC (.int 1))) mA0))) (mgN 8))
  (mNew 6 (mCat (mCat (mSlV 6 mO0 (mO1 (mVar 8))) (mLst (mA1 (mTup (mA1 (mVar 4) (mA1 (mIxV 6 (mVar 8)) (mA1 (mIxV 6 (mOp fAdd (mVar 8) (mC (.int 1)))) mA0)))) mA0))) (mSlV 6 (mO1 (mOp fAdd (mVar 8) (mC (.int 2)))) mO0)))) mNext)
  (mIfS (mTB (mOp fEq (mIxV 1 (mVar 4)) (mC (.int 1)))) (mSeq (mAsg (mCall 2 F__law_next (mAV 0 (mA1 (mLen (mQVar 6)) mA0))) (mgN 8))
  (mSub 6 (mVar 8) (mTup (mA1 (mVar 4) (mA1 (mIxV 6 (mVar 8)) mA0))))) mNext))))
  (mRet (mIxV 6 (mCall 2 F__law_next (mAV 0 (mA1 (mLen (mQVar 6)) mA0))))))))))
/-- _law_nodes -/
def d__law_nodes (F__law_nodes : Fn) : Fn := mDef 1 2 fun b =>
  (mRet (mOp fAdd (mC (.int 1)) (mSum (mLc (mQE (mSlT (mVar 0) (mO1 (mC (.int 1))) mO0)) (mgN 1) mYes (mCall 1 F__law_nodes (mAV 1 mA0)) [1]))))
/-- _law_places -/
def d__law_places (F__law_places : Fn) : Fn := mDef 1 4 fun b =>
  (mSeq (mAsg (mEN (mLst (mA1 (mTup mA0) mA0))) (mgN 1))
  (mSeq (mFor (mR1 (mOp fSub (mLen (mQVar 0)) (mC (.int 1)))) (mgN 2) (mAsg (mEN (mCatV 1 (mLc (mQE (mCall 1 F__law_places (mA1 (mIxV 0 (mOp fAdd (mVar 2) (mC (.int 1)))) mA0))) (mgN 3) mYes (mOp fAdd (mTup (mA1 (mVar 2) mA0)) (mVar 3)) [3]))) (mgN 1)))
  (mRet (mVar 1))))
/-- _law_part -/
def d__law_part : Fn := mDef 2 3 fun b =>
  (mSeq (mFor (mQE (mVar 1)) (mgN 2) (mAsg (mIxV 0 (mOp fAdd (mVar 2) (mC (.int 1)))) (mgN 0)))
  (mRet (mVar 0)))
/-- _law_put -/
def d__law_put (F__law_put : Fn) : Fn := mDef 3 4 fun b =>
  (mSeq (mIfS (mTB (mOp fEq (mVar 1) (mTup mA0))) (mRet (mVar 2)) mNext)
  (mSeq (mAsg (mOp fAdd (mIxV 1 (mC (.int 0))) (mC (.int 1))) (mgN 3))
  (mRet (mOp fAdd (mOp fAdd (mSlT (mVar 0) mO0 (mO1 (mVar 3))) (mTup (mA1 (mCall 3 F__law_put (mA1 (mIxV 0 (mVar 3)) (mA1 (mSlT (mVar 1) (mO1 (mC (.int 1))) mO0) (mAV 2 mA0)))) mA0))) (mSlT (mVar 0) (mO1 (mOp fAdd (mVar 3) (mC (.int 1)))) mO0)))))
/-- _law_is_alike -/
def d__law_is_alike : Fn := mDef 3 4 fun b =>
  (mSeq (mFor (mQE (mVar 2)) (mgN 3) (mSeq (mIfS (mTB (mOp fNe (mIxV 0 (mC (.int 0))) (mIxV 1 (mC (.int 0))))) (mRet (mC (.bool false))) mNext)
  (mSeq (mAsg (mIxV 0 (mOp fAdd (mVar 3) (mC (.int 1)))) (mgN 0))
  (mAsg (mIxV 1 (mOp fAdd (mVar 3) (mC (.int 1)))) (mgN 1)))))
  (mRet (mC (.bool true))))
/-- law -/
def d_law (F__law_stream F__law_arities F__law_table F__law_next F__law_tree F__law_nodes F_run F__law_places F__law_is_alike F__law_put F__law_part F__law_equal : Fn) : Fn := mDef 1 16 fun b =>
  (mSeq (mNew 1 (mCallN 1 F__law_stream (mAV 0 mA0)))
  (mSeq (mAsg (mCall 1 F__law_arities (mAV 1 mA0)) (mgN 2))
  (mSeq (mAsg (mCall 3 F__law_table (mAV 1 (mAV 2 (mA1 (mC (.int 4)) mA0)))) (mgN 3))
  (mSeq (mNew 4 (mLst mA0))
  (mSeq (mFor (mQE (mIxV 3 (mC (.int 1)))) (mgN 5) (mDrop (mApp 4 (mTuple (mLc (mQE (mVar 5)) (mgN 6) mYes (mOp fIx (mEN (mLst (mA1 (mVar 6) (mA1 (mC .none) mA0)))) (mOp fDiv (mCall 2 F__law_next (mAV 1 (mA1 (mC (.int 4)) mA0))) (mC (.int 3)))) [6])))))
  (mSeq (mAsg (mTup (mA1 (mIxV 3 (mC (.int 0))) (mA1 (mTuple (mQVar 4)) mA0))) (mgN 7))
  (mSeq (mAsg (mEN (mLc (mQE (mEN (mLc (mR1 (mC (.int 4))) (mgN 10) mYes (mCall 3 F__law_tree (mAV 1 (mAV 2 (mA1 (mC (.int 5)) mA0)))) [10]))) (mgN 9) (mTB (mOp fLe (mCall 1 F__law_nodes (mAV 9 mA0)) (mC (.int 12)))) (mVar 9) [9])) (mgN 8))
  (mSeq (mFor (mQE (mVar 8)) (mgN 11) (mSeq (mAsg (mOp fIx (mCall 3 F_run (mAV 2 (mAV 3 (mAV 11 mA0)))) (mC (.int 0))) (mgN 12))
  (mSeq (mIfS (mAnd (mTru (mOp fIx (mCall 3 F_run (mAV 2 (mAV 7 (mAV 11 mA0)))) (mC (.int 0)))) (mNot (mTru (mVar 12)))) (mRet (mC (.bool false))) mNext)
  (mFor (mQE (mVar 8)) (mgN 13) (mIfS (mAnd (mTru (mVar 12)) (mTru (mOp fIx (mCall 3 F_run (mAV 2 (mAV 3 (mAV 13 mA0)))) (mC (.int 0))))) (mFor (mQE (mCall 1 F__law_places (mAV 11 mA0))) (mgN 14) (mIfS (mAnd (mTB (mInQ (fun b => b) (mVar 14) (mQE (mCall 1 F__law_places (mAV 13 mA0))))) (mTru (mCall 3 F__law_is_alike (mAV 11 (mAV 13 (mAV 14 mA0)))))) (mSeq (mAsg (mCall 3 F__law_put (mAV 11 (mAV 14 (mA1 (mCall 2 F__law_part (mAV 13 (mAV 14 mA0))) mA0)))) (mgN 15))
  (mIfS (mAnd (mTB (mOp fLe (mCall 1 F__law_nodes (mAV 15 mA0)) (mC (.int 15)))) (mNot (mTru (mCall 2 F__law_equal (mA1 (mOp fIx (mCall 3 F_run (mAV 2 (mAV 3 (mAV 15 mA0)))) (mC (.int 0))) (mA1 (mC (.bool true)) mA0)))))) (mRet (mC (.bool false))) mNext)) mNext)) mNext)))))
  (mRet (mC (.bool true)))))))))))
structure Fs where
  require : Fn
  is_integer : Fn
  is_tuple : Fn
  are_integers : Fn
  is_arities : Fn
  is_tree : Fn
  _is_node : Fn
  is_table : Fn
  _is_row : Fn
  _is_entry : Fn
  _require_table_and_tree : Fn
  run : Fn
  _visits : Fn
  _law_stream : Fn
  _law_next : Fn
  _law_is_integer : Fn
  _law_equal : Fn
  _law_arities : Fn
  _law_table : Fn
  _law_tree : Fn
  _law_nodes : Fn
  _law_places : Fn
  _law_part : Fn
  _law_put : Fn
  _law_is_alike : Fn
  law : Fn
def Fs.bot : Fs where
  require := fun _ _ => none
  is_integer := fun _ _ => none
  is_tuple := fun _ _ => none
  are_integers := fun _ _ => none
  is_arities := fun _ _ => none
  is_tree := fun _ _ => none
  _is_node := fun _ _ => none
  is_table := fun _ _ => none
  _is_row := fun _ _ => none
  _is_entry := fun _ _ => none
  _require_table_and_tree := fun _ _ => none
  run := fun _ _ => none
  _visits := fun _ _ => none
  _law_stream := fun _ _ => none
  _law_next := fun _ _ => none
  _law_is_integer := fun _ _ => none
  _law_equal := fun _ _ => none
  _law_arities := fun _ _ => none
  _law_table := fun _ _ => none
  _law_tree := fun _ _ => none
  _law_nodes := fun _ _ => none
  _law_places := fun _ _ => none
  _law_part := fun _ _ => none
  _law_put := fun _ _ => none
  _law_is_alike := fun _ _ => none
  law := fun _ _ => none
def Fs.step (F : Fs) : Fs where
  require := d_require
  is_integer := d_is_integer
  is_tuple := d_is_tuple
  are_integers := d_are_integers F.is_integer
  is_arities := d_is_arities F.is_tuple F.are_integers
  is_tree := d_is_tree F._is_node
  _is_node := d__is_node F.is_tuple F.is_integer
  is_table := d_is_table F.require F.is_arities F.is_tuple F.is_integer F._is_row
  _is_row := d__is_row F.is_tuple F._is_entry
  _is_entry := d__is_entry F.is_tuple F.are_integers
  _require_table_and_tree := d__require_table_and_tree F.require F.is_table F.is_tree
  run := d_run F._require_table_and_tree F._visits
  _visits := d__visits F._visits
  _law_stream := d__law_stream
  _law_next := d__law_next
  _law_is_integer := d__law_is_integer
  _law_equal := d__law_equal F._law_is_integer F._law_equal
  _law_arities := d__law_arities F._law_next
  _law_table := d__law_table F._law_next
  _law_tree := d__law_tree F._law_next
  _law_nodes := d__law_nodes F._law_nodes
  _law_places := d__law_places F._law_places
  _law_part := d__law_part
  _law_put := d__law_put F._law_put
  _law_is_alike := d__law_is_alike
  law := d_law F._law_stream F._law_arities F._law_table F._law_next F._law_tree F._law_nodes F.run F._law_places F._law_is_alike F._law_put F._law_part F._law_equal
def lev : Nat → Fs
  | 0 => Fs.bot
  | n + 1 => (lev n).step
end G
set_option Elab.async false
set_option linter.all false
set_option autoImplicit false
set_option maxRecDepth 100000
set_option maxHeartbeats 4000000
namespace G
open PySem L2
def topS (i : Nat) : Stmt := PySem.Challenge.pw_rootfirst_k34_exchanges_and_fewer_entrie.main.body.getD i (.Pass ⟨0, 0, 0, 0⟩)
abbrev s_require : Stmt := topS 8
abbrev N_require : List Str := ["holds", "name"]
theorem sc_require : FnScope N_require ["holds", "name"] (defScope s_require) := ⟨rfl, rfl, rfl, by decide +kernel, rfl, by decide +kernel, by decide +kernel⟩
abbrev s_is_integer : Stmt := topS 9
abbrev N_is_integer : List Str := ["value", "least", "most"]
theorem sc_is_integer : FnScope N_is_integer ["value", "least", "most"] (defScope s_is_integer) := ⟨rfl, rfl, rfl, by decide +kernel, rfl, by decide +kernel, by decide +kernel⟩
abbrev s_is_tuple : Stmt := topS 10
abbrev N_is_tuple : List Str := ["value", "least", "most"]
theorem sc_is_tuple : FnScope N_is_tuple ["value", "least", "most"] (defScope s_is_tuple) := ⟨rfl, rfl, rfl, by decide +kernel, rfl, by decide +kernel, by decide +kernel⟩
abbrev s_are_integers : Stmt := topS 11
abbrev N_are_integers : List Str := ["values", "least", "most", "value"]
theorem sc_are_integers : FnScope N_are_integers ["values", "least", "most"] (defScope s_are_integers) := ⟨rfl, rfl, rfl, by decide +kernel, rfl, by decide +kernel, by decide +kernel⟩
abbrev s_is_arities : Stmt := topS 13
abbrev N_is_arities : List Str := ["value"]
theorem sc_is_arities : FnScope N_is_arities ["value"] (defScope s_is_arities) := ⟨rfl, rfl, rfl, by decide +kernel, rfl, by decide +kernel, by decide +kernel⟩
abbrev s_is_tree : Stmt := topS 14
abbrev N_is_tree : List Str := ["arities", "value", "waiting", "nodes", "node"]
theorem sc_is_tree : FnScope N_is_tree ["arities", "value"] (defScope s_is_tree) := ⟨rfl, rfl, rfl, by decide +kernel, rfl, by decide +kernel, by decide +kernel⟩
abbrev s__is_node : Stmt := topS 15
abbrev N__is_node : List Str := ["arities", "value"]
theorem sc__is_node : FnScope N__is_node ["arities", "value"] (defScope s__is_node) := ⟨rfl, rfl, rfl, by decide +kernel, rfl, by decide +kernel, by decide +kernel⟩
abbrev s_is_table : Stmt := topS 17
abbrev N_is_table : List Str := ["arities", "value", "start", "rows", "row"]
theorem sc_is_table : FnScope N_is_table ["arities", "value"] (defScope s_is_table) := ⟨rfl, rfl, rfl, by decide +kernel, rfl, by decide +kernel, by decide +kernel⟩
abbrev s__is_row : Stmt := topS 18
abbrev N__is_row : List Str := ["arities", "value", "many", "entry", "arity"]
theorem sc__is_row : FnScope N__is_row ["arities", "value", "many"] (defScope s__is_row) := ⟨rfl, rfl, rfl, by decide +kernel, rfl, by decide +kernel, by decide +kernel⟩
abbrev s__is_entry : Stmt := topS 19
abbrev N__is_entry : List Str := ["value", "arity", "many"]
theorem sc__is_entry : FnScope N__is_entry ["value", "arity", "many"] (defScope s__is_entry) := ⟨rfl, rfl, rfl, by decide +kernel, rfl, by decide +kernel, by decide +kernel⟩
abbrev s__require_table_and_tree : Stmt := topS 20
abbrev N__require_table_and_tree : List Str := ["arities", "table", "tree"]
theorem sc__require_table_and_tree : FnScope N__require_table_and_tree ["arities", "table", "tree"] (defScope s__require_table_and_tree) := ⟨rfl, rfl, rfl, by decide +kernel, rfl, by decide +kernel, by decide +kernel⟩
abbrev s_run : Stmt := topS 21
abbrev N_run : List Str := ["arities", "table", "tree", "visits", "failing", "place", "state", "fails", "visited"]
theorem sc_run : FnScope N_run ["arities", "table", "tree"] (defScope s_run) := ⟨rfl, rfl, rfl, by decide +kernel, rfl, by decide +kernel, by decide +kernel⟩
abbrev s__visits : Stmt := topS 22
abbrev N__visits : List Str := ["rows", "tree", "state", "place", "entry", "found", "number", "child"]
theorem sc__visits : FnScope N__visits ["rows", "tree", "state", "place"] (defScope s__visits) := ⟨rfl, rfl, rfl, by decide +kernel, rfl, by decide +kernel, by decide +kernel⟩
abbrev s__law_stream : Stmt := topS 24
abbrev N__law_stream : List Str := ["script"]
theorem sc__law_stream : FnScope N__law_stream ["script"] (defScope s__law_stream) := ⟨rfl, rfl, rfl, by decide +kernel, rfl, by decide +kernel, by decide +kernel⟩
abbrev s__law_next : Stmt := topS 25
abbrev N__law_next : List Str := ["stream", "many", "k", "cell", "digit"]
theorem sc__law_next : FnScope N__law_next ["stream", "many"] (defScope s__law_next) := ⟨rfl, rfl, rfl, by decide +kernel, rfl, by decide +kernel, by decide +kernel⟩
abbrev s__law_is_integer : Stmt := topS 26
abbrev N__law_is_integer : List Str := ["actual"]
theorem sc__law_is_integer : FnScope N__law_is_integer ["actual"] (defScope s__law_is_integer) := ⟨rfl, rfl, rfl, by decide +kernel, rfl, by decide +kernel, by decide +kernel⟩
abbrev s__law_equal : Stmt := topS 27
abbrev N__law_equal : List Str := ["actual", "due", "at"]
theorem sc__law_equal : FnScope N__law_equal ["actual", "due"] (defScope s__law_equal) := ⟨rfl, rfl, rfl, by decide +kernel, rfl, by decide +kernel, by decide +kernel⟩
abbrev s__law_arities : Stmt := topS 28
abbrev N__law_arities : List Str := ["stream"]
theorem sc__law_arities : FnScope N__law_arities ["stream"] (defScope s__law_arities) := ⟨rfl, rfl, rfl, by decide +kernel, rfl, by decide +kernel, by decide +kernel⟩
abbrev s__law_table : Stmt := topS 29
abbrev N__law_table : List Str := ["stream", "arities", "most", "count", "rows", "state", "row", "arity", "k"]
theorem sc__law_table : FnScope N__law_table ["stream", "arities", "most"] (defScope s__law_table) := ⟨rfl, rfl, rfl, by decide +kernel, rfl, by decide +kernel, by decide +kernel⟩
abbrev s__law_tree : Stmt := topS 30
abbrev N__law_tree : List Str := ["stream", "arities", "most", "leaves", "symbol", "nodes", "row", "turn", "at"]
theorem sc__law_tree : FnScope N__law_tree ["stream", "arities", "most"] (defScope s__law_tree) := ⟨rfl, rfl, rfl, by decide +kernel, rfl, by decide +kernel, by decide +kernel⟩
abbrev s__law_nodes : Stmt := topS 31
abbrev N__law_nodes : List Str := ["tree", "child"]
theorem sc__law_nodes : FnScope N__law_nodes ["tree"] (defScope s__law_nodes) := ⟨rfl, rfl, rfl, by decide +kernel, rfl, by decide +kernel, by decide +kernel⟩
abbrev s__law_places : Stmt := topS 32
abbrev N__law_places : List Str := ["tree", "found", "k", "place"]
theorem sc__law_places : FnScope N__law_places ["tree"] (defScope s__law_places) := ⟨rfl, rfl, rfl, by decide +kernel, rfl, by decide +kernel, by decide +kernel⟩
abbrev s__law_part : Stmt := topS 33
abbrev N__law_part : List Str := ["tree", "place", "k"]
theorem sc__law_part : FnScope N__law_part ["tree", "place"] (defScope s__law_part) := ⟨rfl, rfl, rfl, by decide +kernel, rfl, by decide +kernel, by decide +kernel⟩
abbrev s__law_put : Stmt := topS 34
abbrev N__law_put : List Str := ["tree", "place", "part", "k"]
theorem sc__law_put : FnScope N__law_put ["tree", "place", "part"] (defScope s__law_put) := ⟨rfl, rfl, rfl, by decide +kernel, rfl, by decide +kernel, by decide +kernel⟩
abbrev s__law_is_alike : Stmt := topS 35
abbrev N__law_is_alike : List Str := ["first", "second", "place", "k"]
theorem sc__law_is_alike : FnScope N__law_is_alike ["first", "second", "place"] (defScope s__law_is_alike) := ⟨rfl, rfl, rfl, by decide +kernel, rfl, by decide +kernel, by decide +kernel⟩
abbrev s_law : Stmt := topS 36
abbrev N_law : List Str := ["script", "stream", "arities", "table", "rows", "row", "entry", "less", "trees", "tree", "k", "first", "taken", "second", "place", "grown"]
theorem sc_law : FnScope N_law ["script"] (defScope s_law) := ⟨rfl, rfl, rfl, by decide +kernel, rfl, by decide +kernel, by decide +kernel⟩
section
variable {P : Program} {w : World} {K : PySem.W.Frag} {mg : Str → Option Value} {base : Heap} {k : Nat}
theorem ok_require {f : Addr} {fd : FuncData} (F : Fun K "require" "require" s_require f fd)
    
    : FnOk P w K mg base CX0 (k + 1) f fd ["holds", "name"] (spD K 2 (d_require)) :=
  def_d F sc_require rfl rfl fun cdv A outer s H E b hr =>
    (d_st (d_if (d_not (d_tv (d_var 0))) (d_st d_raise) d_nil))
theorem ok_is_integer {f : Addr} {fd : FuncData} (F : Fun K "is_integer" "is_integer" s_is_integer f fd)
    (z_isinstance : mg "isinstance" = none)
    (z_int : mg "int" = none)
    (z_bool : mg "bool" = none)
    : FnOk P w K mg base CX0 (k + 1) f fd ["value", "least", "most"] (spD K 3 (d_is_integer)) :=
  def_d F sc_is_integer rfl rfl fun cdv A outer s H E b hr =>
    (d_st (d_ret (d_andV (d_isi (by decide +kernel) (fun _ => z_isinstance) (fun _ => z_int) (d_var 0)) (d_andV (d_notV (d_isi (by decide +kernel) (fun _ => z_isinstance) (fun _ => z_bool) (d_var 0))) (d_one (d_chain k_le k_le (d_var 1) (d_var 0) (d_var 2)))))))
theorem ok_is_tuple {f : Addr} {fd : FuncData} (F : Fun K "is_tuple" "is_tuple" s_is_tuple f fd)
    (z_isinstance : mg "isinstance" = none)
    (z_tuple : mg "tuple" = none)
    (z_len : mg "len" = none)
    : FnOk P w K mg base CX0 (k + 1) f fd ["value", "least", "most"] (spD K 3 (d_is_tuple)) :=
  def_d F sc_is_tuple rfl rfl fun cdv A outer s H E b hr =>
    (d_st (d_ret (d_andV (d_isi (by decide +kernel) (fun _ => z_isinstance) (fun _ => z_tuple) (d_var 0)) (d_one (d_chain k_le k_le (d_var 1) (d_len (fun _ => z_len) (d_qvar 0)) (d_var 2))))))
theorem ok_are_integers {f : Addr} {fd : FuncData} (F : Fun K "are_integers" "are_integers" s_are_integers f fd)
    {a_is_integer : Addr} {fd_is_integer : FuncData} {F_is_integer : Fn} (h_is_integer : FnOk P w K mg base CX0 k a_is_integer fd_is_integer ["value", "least", "most"] (spD K 3 F_is_integer)) (g_is_integer : mg "is_integer" = some (.ref a_is_integer)) (k_is_integer : PySem.W.keepIn K (.ref a_is_integer) = true) (b_is_integer : Binds K fd_is_integer ["value", "least", "most"] [])
    (z_all : mg "all" = none)
    : FnOk P w K mg base CX0 (k + 1) f fd ["values", "least", "most"] (spD K 3 (d_are_integers F_is_integer)) :=
  def_d F sc_are_integers rfl rfl fun cdv A outer s H E b hr =>
    (d_st (d_ret (d_all (fun _ => z_all) (d_ln (d_lc (own := [("value", 3)]) (d_i (d_var 0)) (fun _ => blkOk_by (N := N_are_integers) (sc := defScope s_are_integers) (by decide +kernel)) (fun _ => pg_name (i := 3) sc_are_integers.nd rfl (.inl rfl)) (img_n 3) (gown_n (by decide)) d_ts0 (d_call (fun _ => h_is_integer) (fun _ => g_is_integer) k_is_integer b_is_integer (d_av 3 (d_av 1 (d_av 2 d_a0)))))))))
theorem ok_is_arities {f : Addr} {fd : FuncData} (F : Fun K "is_arities" "is_arities" s_is_arities f fd)
    {a_is_tuple : Addr} {fd_is_tuple : FuncData} {F_is_tuple : Fn} (h_is_tuple : FnOk P w K mg base CX0 k a_is_tuple fd_is_tuple ["value", "least", "most"] (spD K 3 F_is_tuple)) (g_is_tuple : mg "is_tuple" = some (.ref a_is_tuple)) (k_is_tuple : PySem.W.keepIn K (.ref a_is_tuple) = true) (b_is_tuple : Binds K fd_is_tuple ["value", "least", "most"] [])
    {a_are_integers : Addr} {fd_are_integers : FuncData} {F_are_integers : Fn} (h_are_integers : FnOk P w K mg base CX0 k a_are_integers fd_are_integers ["values", "least", "most"] (spD K 3 F_are_integers)) (g_are_integers : mg "are_integers" = some (.ref a_are_integers)) (k_are_integers : PySem.W.keepIn K (.ref a_are_integers) = true) (b_are_integers : Binds K fd_are_integers ["values", "least", "most"] [])
    {t_MOST_SYMBOLS : Tok} (c_MOST_SYMBOLS : mg "MOST_SYMBOLS" = some (.int 4 t_MOST_SYMBOLS))
    {t_MOST_CHILDREN : Tok} (c_MOST_CHILDREN : mg "MOST_CHILDREN" = some (.int 2 t_MOST_CHILDREN))
    : FnOk P w K mg base CX0 (k + 1) f fd ["value"] (spD K 1 (d_is_arities F_is_tuple F_are_integers)) :=
  def_d F sc_is_arities rfl rfl fun cdv A outer s H E b hr =>
    (d_st (d_ret (d_andV (d_call (fun _ => h_is_tuple) (fun _ => g_is_tuple) k_is_tuple b_is_tuple (d_av 0 (d_a1 d_int (d_a1 (d_glob (fun _ => c_MOST_SYMBOLS)) d_a0)))) (d_one (d_call (fun _ => h_are_integers) (fun _ => g_are_integers) k_are_integers b_are_integers (d_av 0 (d_a1 d_int (d_a1 (d_glob (fun _ => c_MOST_CHILDREN)) d_a0))))))))
theorem ok_is_tree {f : Addr} {fd : FuncData} (F : Fun K "is_tree" "is_tree" s_is_tree f fd)
    {a__is_node : Addr} {fd__is_node : FuncData} {F__is_node : Fn} (h__is_node : FnOk P w K mg base CX0 k a__is_node fd__is_node ["arities", "value"] (spD K 2 F__is_node)) (g__is_node : mg "_is_node" = some (.ref a__is_node)) (k__is_node : PySem.W.keepIn K (.ref a__is_node) = true) (b__is_node : Binds K fd__is_node ["arities", "value"] [])
    {t_MOST_NODES : Tok} (c_MOST_NODES : mg "MOST_NODES" = some (.int 15 t_MOST_NODES))
    : FnOk P w K mg base CX0 (k + 1) f fd ["arities", "value"] (spD K 2 (d_is_tree F__is_node)) :=
  def_d F sc_is_tree rfl rfl fun cdv A outer s H E b hr =>
    (d_cons (d_new 2 (d_lst (d_a1 (d_var 1) d_a0)))
    (d_cons (d_set 3 d_int)
    (d_cons (d_while 60 (d_tq (d_qvar 2)) (d_cons (d_set 4 (d_pop 2))
    (d_cons (d_augA 3 d_int)
    (d_cons (d_if (d_w (d_or (d_cmpT k_gt (d_var 3) (d_glob (fun _ => c_MOST_NODES))) (d_or1 (d_not (d_tv (d_call (fun _ => h__is_node) (fun _ => g__is_node) k__is_node b__is_node (d_av 0 (d_av 4 d_a0)))))))) (d_st (d_ret d_bl)) d_nil)
    (d_st (d_expr (d_extT 2 (d_slT (d_var 4) (d_o1 d_int) d_o0))))))))
    (d_st (d_ret d_bl)))))
theorem ok__is_node {f : Addr} {fd : FuncData} (F : Fun K "_is_node" "_is_node" s__is_node f fd)
    {a_is_tuple : Addr} {fd_is_tuple : FuncData} {F_is_tuple : Fn} (h_is_tuple : FnOk P w K mg base CX0 k a_is_tuple fd_is_tuple ["value", "least", "most"] (spD K 3 F_is_tuple)) (g_is_tuple : mg "is_tuple" = some (.ref a_is_tuple)) (k_is_tuple : PySem.W.keepIn K (.ref a_is_tuple) = true) (b_is_tuple : Binds K fd_is_tuple ["value", "least", "most"] [])
    {a_is_integer : Addr} {fd_is_integer : FuncData} {F_is_integer : Fn} (h_is_integer : FnOk P w K mg base CX0 k a_is_integer fd_is_integer ["value", "least", "most"] (spD K 3 F_is_integer)) (g_is_integer : mg "is_integer" = some (.ref a_is_integer)) (k_is_integer : PySem.W.keepIn K (.ref a_is_integer) = true) (b_is_integer : Binds K fd_is_integer ["value", "least", "most"] [])
    (z_len : mg "len" = none)
    {t_MOST_CHILDREN : Tok} (c_MOST_CHILDREN : mg "MOST_CHILDREN" = some (.int 2 t_MOST_CHILDREN))
    : FnOk P w K mg base CX0 (k + 1) f fd ["arities", "value"] (spD K 2 (d__is_node F_is_tuple F_is_integer)) :=
  def_d F sc__is_node rfl rfl fun cdv A outer s H E b hr =>
    (d_cons (d_if (d_w (d_or (d_not (d_tv (d_call (fun _ => h_is_tuple) (fun _ => g_is_tuple) k_is_tuple b_is_tuple (d_av 1 (d_a1 d_int (d_a1 (d_add (d_glob (fun _ => c_MOST_CHILDREN)) d_int) d_a0)))))) (d_or1 (d_not (d_tv (d_call (fun _ => h_is_integer) (fun _ => g_is_integer) k_is_integer b_is_integer (d_a1 (d_ixV 1 d_int) (d_a1 d_int (d_a1 (d_sub (d_len (fun _ => z_len) (d_qvar 0)) d_int) d_a0))))))))) (d_st (d_ret d_bl)) d_nil)
    (d_st (d_ret (d_cmp k_eq (d_len (fun _ => z_len) (d_qvar 1)) (d_add d_int (d_ixV 0 (d_ixV 1 d_int)))))))
theorem ok_is_table {f : Addr} {fd : FuncData} (F : Fun K "is_table" "is_table" s_is_table f fd)
    {a_require : Addr} {fd_require : FuncData} {F_require : Fn} (h_require : FnOk P w K mg base CX0 k a_require fd_require ["holds", "name"] (spD K 2 F_require)) (g_require : mg "require" = some (.ref a_require)) (k_require : PySem.W.keepIn K (.ref a_require) = true) (b_require : Binds K fd_require ["holds", "name"] [])
    {a_is_arities : Addr} {fd_is_arities : FuncData} {F_is_arities : Fn} (h_is_arities : FnOk P w K mg base CX0 k a_is_arities fd_is_arities ["value"] (spD K 1 F_is_arities)) (g_is_arities : mg "is_arities" = some (.ref a_is_arities)) (k_is_arities : PySem.W.keepIn K (.ref a_is_arities) = true) (b_is_arities : Binds K fd_is_arities ["value"] [])
    {a_is_tuple : Addr} {fd_is_tuple : FuncData} {F_is_tuple : Fn} (h_is_tuple : FnOk P w K mg base CX0 k a_is_tuple fd_is_tuple ["value", "least", "most"] (spD K 3 F_is_tuple)) (g_is_tuple : mg "is_tuple" = some (.ref a_is_tuple)) (k_is_tuple : PySem.W.keepIn K (.ref a_is_tuple) = true) (b_is_tuple : Binds K fd_is_tuple ["value", "least", "most"] [])
    {a_is_integer : Addr} {fd_is_integer : FuncData} {F_is_integer : Fn} (h_is_integer : FnOk P w K mg base CX0 k a_is_integer fd_is_integer ["value", "least", "most"] (spD K 3 F_is_integer)) (g_is_integer : mg "is_integer" = some (.ref a_is_integer)) (k_is_integer : PySem.W.keepIn K (.ref a_is_integer) = true) (b_is_integer : Binds K fd_is_integer ["value", "least", "most"] [])
    {a__is_row : Addr} {fd__is_row : FuncData} {F__is_row : Fn} (h__is_row : FnOk P w K mg base CX0 k a__is_row fd__is_row ["arities", "value", "many"] (spD K 3 F__is_row)) (g__is_row : mg "_is_row" = some (.ref a__is_row)) (k__is_row : PySem.W.keepIn K (.ref a__is_row) = true) (b__is_row : Binds K fd__is_row ["arities", "value", "many"] [])
    (z_len : mg "len" = none)
    (z_all : mg "all" = none)
    {t_MOST_STATES : Tok} (c_MOST_STATES : mg "MOST_STATES" = some (.int 4 t_MOST_STATES))
    : FnOk P w K mg base CX0 (k + 1) f fd ["arities", "value"] (spD K 2 (d_is_table F_require F_is_arities F_is_tuple F_is_integer F__is_row)) :=
  def_d F sc_is_table rfl rfl fun cdv A outer s H E b hr =>
    (d_cons (d_expr (d_call (fun _ => h_require) (fun _ => g_require) k_require b_require (d_a1 (d_call (fun _ => h_is_arities) (fun _ => g_is_arities) k_is_arities b_is_arities (d_av 0 d_a0)) (d_a1 d_str d_a0))))
    (d_cons (d_if (d_w (d_or (d_not (d_tv (d_call (fun _ => h_is_tuple) (fun _ => g_is_tuple) k_is_tuple b_is_tuple (d_av 1 (d_a1 d_int (d_a1 d_int d_a0)))))) (d_or1 (d_not (d_tv (d_call (fun _ => h_is_tuple) (fun _ => g_is_tuple) k_is_tuple b_is_tuple (d_a1 (d_ixV 1 d_int) (d_a1 d_int (d_a1 (d_glob (fun _ => c_MOST_STATES)) d_a0))))))))) (d_st (d_ret d_bl)) d_nil)
    (d_cons (d_unp (d_var 1) (d_gt 2 (d_g1 (d_gn 2) (d_g1 (d_gn 3) d_g0))))
    (d_st (d_ret (d_andV (d_call (fun _ => h_is_integer) (fun _ => g_is_integer) k_is_integer b_is_integer (d_av 2 (d_a1 d_int (d_a1 (d_sub (d_len (fun _ => z_len) (d_qvar 3)) d_int) d_a0)))) (d_one (d_all (fun _ => z_all) (d_ln (d_lc (own := [("row", 4)]) (d_i (d_var 3)) (fun _ => blkOk_by (N := N_is_table) (sc := defScope s_is_table) (by decide +kernel)) (fun _ => pg_name (i := 4) sc_is_table.nd rfl (.inl rfl)) (img_n 4) (gown_n (by decide)) d_ts0 (d_call (fun _ => h__is_row) (fun _ => g__is_row) k__is_row b__is_row (d_av 0 (d_av 4 (d_a1 (d_len (fun _ => z_len) (d_qvar 3)) d_a0))))))))))))))
theorem ok__is_row {f : Addr} {fd : FuncData} (F : Fun K "_is_row" "_is_row" s__is_row f fd)
    {a_is_tuple : Addr} {fd_is_tuple : FuncData} {F_is_tuple : Fn} (h_is_tuple : FnOk P w K mg base CX0 k a_is_tuple fd_is_tuple ["value", "least", "most"] (spD K 3 F_is_tuple)) (g_is_tuple : mg "is_tuple" = some (.ref a_is_tuple)) (k_is_tuple : PySem.W.keepIn K (.ref a_is_tuple) = true) (b_is_tuple : Binds K fd_is_tuple ["value", "least", "most"] [])
    {a__is_entry : Addr} {fd__is_entry : FuncData} {F__is_entry : Fn} (h__is_entry : FnOk P w K mg base CX0 k a__is_entry fd__is_entry ["value", "arity", "many"] (spD K 3 F__is_entry)) (g__is_entry : mg "_is_entry" = some (.ref a__is_entry)) (k__is_entry : PySem.W.keepIn K (.ref a__is_entry) = true) (b__is_entry : Binds K fd__is_entry ["value", "arity", "many"] [])
    (z_len : mg "len" = none)
    (z_all : mg "all" = none)
    (z_zip : mg "zip" = none)
    : FnOk P w K mg base CX0 (k + 1) f fd ["arities", "value", "many"] (spD K 3 (d__is_row F_is_tuple F__is_entry)) :=
  def_d F sc__is_row rfl rfl fun cdv A outer s H E b hr =>
    (d_cons (d_if (d_not (d_tv (d_call (fun _ => h_is_tuple) (fun _ => g_is_tuple) k_is_tuple b_is_tuple (d_av 1 (d_a1 (d_len (fun _ => z_len) (d_qvar 0)) (d_a1 (d_len (fun _ => z_len) (d_qvar 0)) d_a0)))))) (d_st (d_ret d_bl)) d_nil)
    (d_st (d_ret (d_all (fun _ => z_all) (d_ln (d_lc (own := [("entry", 3), ("arity", 4)]) (d_zip (fun _ => z_zip) (d_a1 (d_var 1) (d_a1 (d_var 0) d_a0))) (fun _ => blkOk_by (N := N__is_row) (sc := defScope s__is_row) (by decide +kernel)) (fun _ => pg_tup rfl (pgs_cons (pg_name (i := 3) sc__is_row.nd rfl (.inl rfl)) (pgs_cons (pg_name (i := 4) sc__is_row.nd rfl (.inl rfl)) pgs_nil))) (img_t (img_1 (img_n 3) (img_1 (img_n 4) img_0))) (gown_t (gown_1 (by decide) (gown_1 (by decide) gown_0))) d_ts0 (d_call (fun _ => h__is_entry) (fun _ => g__is_entry) k__is_entry b__is_entry (d_av 3 (d_av 4 (d_av 2 d_a0))))))))))
theorem ok__is_entry {f : Addr} {fd : FuncData} (F : Fun K "_is_entry" "_is_entry" s__is_entry f fd)
    {a_is_tuple : Addr} {fd_is_tuple : FuncData} {F_is_tuple : Fn} (h_is_tuple : FnOk P w K mg base CX0 k a_is_tuple fd_is_tuple ["value", "least", "most"] (spD K 3 F_is_tuple)) (g_is_tuple : mg "is_tuple" = some (.ref a_is_tuple)) (k_is_tuple : PySem.W.keepIn K (.ref a_is_tuple) = true) (b_is_tuple : Binds K fd_is_tuple ["value", "least", "most"] [])
    {a_are_integers : Addr} {fd_are_integers : FuncData} {F_are_integers : Fn} (h_are_integers : FnOk P w K mg base CX0 k a_are_integers fd_are_integers ["values", "least", "most"] (spD K 3 F_are_integers)) (g_are_integers : mg "are_integers" = some (.ref a_are_integers)) (k_are_integers : PySem.W.keepIn K (.ref a_are_integers) = true) (b_are_integers : Binds K fd_are_integers ["values", "least", "most"] [])
    : FnOk P w K mg base CX0 (k + 1) f fd ["value", "arity", "many"] (spD K 3 (d__is_entry F_is_tuple F_are_integers)) :=
  def_d F sc__is_entry rfl rfl fun cdv A outer s H E b hr =>
    (d_st (d_ret (d_orV (d_cmp k_is (d_var 0) d_non) (d_one (d_andV (d_call (fun _ => h_is_tuple) (fun _ => g_is_tuple) k_is_tuple b_is_tuple (d_av 0 (d_av 1 (d_av 1 d_a0)))) (d_one (d_call (fun _ => h_are_integers) (fun _ => g_are_integers) k_are_integers b_are_integers (d_av 0 (d_a1 d_int (d_a1 (d_sub (d_var 2) d_int) d_a0))))))))))
theorem ok__require_table_and_tree {f : Addr} {fd : FuncData} (F : Fun K "_require_table_and_tree" "_require_table_and_tree" s__require_table_and_tree f fd)
    {a_require : Addr} {fd_require : FuncData} {F_require : Fn} (h_require : FnOk P w K mg base CX0 k a_require fd_require ["holds", "name"] (spD K 2 F_require)) (g_require : mg "require" = some (.ref a_require)) (k_require : PySem.W.keepIn K (.ref a_require) = true) (b_require : Binds K fd_require ["holds", "name"] [])
    {a_is_table : Addr} {fd_is_table : FuncData} {F_is_table : Fn} (h_is_table : FnOk P w K mg base CX0 k a_is_table fd_is_table ["arities", "value"] (spD K 2 F_is_table)) (g_is_table : mg "is_table" = some (.ref a_is_table)) (k_is_table : PySem.W.keepIn K (.ref a_is_table) = true) (b_is_table : Binds K fd_is_table ["arities", "value"] [])
    {a_is_tree : Addr} {fd_is_tree : FuncData} {F_is_tree : Fn} (h_is_tree : FnOk P w K mg base CX0 k a_is_tree fd_is_tree ["arities", "value"] (spD K 2 F_is_tree)) (g_is_tree : mg "is_tree" = some (.ref a_is_tree)) (k_is_tree : PySem.W.keepIn K (.ref a_is_tree) = true) (b_is_tree : Binds K fd_is_tree ["arities", "value"] [])
    : FnOk P w K mg base CX0 (k + 1) f fd ["arities", "table", "tree"] (spD K 3 (d__require_table_and_tree F_require F_is_table F_is_tree)) :=
  def_d F sc__require_table_and_tree rfl rfl fun cdv A outer s H E b hr =>
    (d_cons (d_expr (d_call (fun _ => h_require) (fun _ => g_require) k_require b_require (d_a1 (d_call (fun _ => h_is_table) (fun _ => g_is_table) k_is_table b_is_table (d_av 0 (d_av 1 d_a0))) (d_a1 d_str d_a0))))
    (d_st (d_expr (d_call (fun _ => h_require) (fun _ => g_require) k_require b_require (d_a1 (d_call (fun _ => h_is_tree) (fun _ => g_is_tree) k_is_tree b_is_tree (d_av 0 (d_av 2 d_a0))) (d_a1 d_str d_a0))))))
theorem ok_run {f : Addr} {fd : FuncData} (F : Fun K "run" "run" s_run f fd)
    {a__require_table_and_tree : Addr} {fd__require_table_and_tree : FuncData} {F__require_table_and_tree : Fn} (h__require_table_and_tree : FnOk P w K mg base CX0 k a__require_table_and_tree fd__require_table_and_tree ["arities", "table", "tree"] (spD K 3 F__require_table_and_tree)) (g__require_table_and_tree : mg "_require_table_and_tree" = some (.ref a__require_table_and_tree)) (k__require_table_and_tree : PySem.W.keepIn K (.ref a__require_table_and_tree) = true) (b__require_table_and_tree : Binds K fd__require_table_and_tree ["arities", "table", "tree"] [])
    {a__visits : Addr} {fd__visits : FuncData} {F__visits : Fn} (h__visits : FnOk P w K mg base CX0 k a__visits fd__visits ["rows", "tree", "state", "place"] (spD K 4 F__visits)) (g__visits : mg "_visits" = some (.ref a__visits)) (k__visits : PySem.W.keepIn K (.ref a__visits) = true) (b__visits : Binds K fd__visits ["rows", "tree", "state", "place"] [])
    (z_tuple : mg "tuple" = none)
    : FnOk P w K mg base CX0 (k + 1) f fd ["arities", "table", "tree"] (spD K 3 (d_run F__require_table_and_tree F__visits)) :=
  def_d F sc_run rfl rfl fun cdv A outer s H E b hr =>
    (d_cons (d_expr (d_call (fun _ => h__require_table_and_tree) (fun _ => g__require_table_and_tree) k__require_table_and_tree b__require_table_and_tree (d_av 0 (d_av 1 (d_av 2 d_a0)))))
    (d_cons (d_set 3 (d_en (d_callN (fun _ => h__visits) (fun _ => g__visits) k__visits b__visits (d_a1 (d_ixV 1 d_int) (d_av 2 (d_a1 (d_ixV 1 d_int) (d_a1 (d_tup d_a0) d_a0)))))))
    (d_cons (d_lcS (d_lcP 4 (own := [("place", 5), ("state", 6), ("fails", 7)]) (d_i (d_var 3)) (fun _ => blkOk_by (N := N_run) (sc := defScope s_run) (by decide +kernel)) (fun _ => pg_tup rfl (pgs_cons (pg_name (i := 5) sc_run.nd rfl (.inl rfl)) (pgs_cons (pg_name (i := 6) sc_run.nd rfl (.inl rfl)) (pgs_cons (pg_name (i := 7) sc_run.nd rfl (.inl rfl)) pgs_nil)))) (img_t (img_1 (img_n 5) (img_1 (img_n 6) (img_1 (img_n 7) img_0)))) (gown_t (gown_1 (by decide) (gown_1 (by decide) (gown_1 (by decide) gown_0)))) (d_ts1 (d_tv (d_var 7))) (d_var 5) (fun _ => sw_true rfl rfl rfl (by decide +kernel))))
    (d_cons (d_set 8 (d_tuple1 (fun _ => z_tuple) (d_qn (d_lc (own := [("place", 5), ("state", 6), ("fails", 7)]) (d_i (d_var 3)) (fun _ => blkOk_by (N := N_run) (sc := defScope s_run) (by decide +kernel)) (fun _ => pg_tup rfl (pgs_cons (pg_name (i := 5) sc_run.nd rfl (.inl rfl)) (pgs_cons (pg_name (i := 6) sc_run.nd rfl (.inl rfl)) (pgs_cons (pg_name (i := 7) sc_run.nd rfl (.inl rfl)) pgs_nil)))) (img_t (img_1 (img_n 5) (img_1 (img_n 6) (img_1 (img_n 7) img_0)))) (gown_t (gown_1 (by decide) (gown_1 (by decide) (gown_1 (by decide) gown_0)))) d_ts0 (d_tup (d_a1 (d_var 5) (d_a1 (d_var 6) d_a0)))))))
    (d_st (d_ret (d_tup (d_a1 (d_notE (d_var 4)) (d_a1 (d_ifE (d_tv (d_var 4)) (d_ixV 4 d_int) d_non) (d_a1 (d_var 8) d_a0))))))))))
theorem ok__visits {f : Addr} {fd : FuncData} (F : Fun K "_visits" "_visits" s__visits f fd)
    {a__visits : Addr} {fd__visits : FuncData} {F__visits : Fn} (h__visits : FnOk P w K mg base CX0 k a__visits fd__visits ["rows", "tree", "state", "place"] (spD K 4 F__visits)) (g__visits : mg "_visits" = some (.ref a__visits)) (k__visits : PySem.W.keepIn K (.ref a__visits) = true) (b__visits : Binds K fd__visits ["rows", "tree", "state", "place"] [])
    (z_enumerate : mg "enumerate" = none)
    : FnOk P w K mg base CX0 (k + 1) f fd ["rows", "tree", "state", "place"] (spD K 4 (d__visits F__visits)) :=
  def_d F sc__visits rfl rfl fun cdv A outer s H E b hr =>
    (d_cons (d_set 4 (d_ix (d_ixV 0 (d_var 2)) (d_ixV 1 d_int)))
    (d_cons (d_new 5 (d_lst (d_a1 (d_tup (d_a1 (d_var 3) (d_a1 (d_var 2) (d_a1 (d_cmp k_is (d_var 4) d_non) d_a0)))) d_a0)))
    (d_cons (d_if (d_cmpT k_is (d_var 4) d_non) (d_st (d_retV 5)) d_nil)
    (d_cons (d_for (d_enum (fun _ => z_enumerate) (d_a1 (d_slT (d_var 1) (d_o1 d_int) d_o0) d_a0)) (d_gt 2 (d_g1 (d_gn 6) (d_g1 (d_gn 7) d_g0))) (d_st (d_expr (d_ext 5 (d_callN (fun _ => h__visits) (fun _ => g__visits) k__visits b__visits (d_av 0 (d_av 7 (d_a1 (d_ixV 4 (d_var 6)) (d_a1 (d_add (d_var 3) (d_tup (d_a1 (d_var 6) d_a0))) d_a0)))))))))
    (d_st (d_retV 5))))))
theorem ok__law_stream {f : Addr} {fd : FuncData} (F : Fun K "_law_stream" "_law_stream" s__law_stream f fd)
    (z_list : mg "list" = none)
    : FnOk P w K mg base CX0 (k + 1) f fd ["script"] (spD K 1 (d__law_stream)) :=
  def_d F sc__law_stream rfl rfl fun cdv A outer s H E b hr =>
    (d_st (d_retL (d_lst (d_a1 (d_en (d_list1 (fun _ => z_list) (d_qvar 0))) (d_a1 d_int (d_a1 d_int d_a0))))))
theorem ok__law_next {f : Addr} {fd : FuncData} (F : Fun K "_law_next" "_law_next" s__law_next f fd)
    (z_len : mg "len" = none)
    (z_abs : mg "abs" = none)
    (z_int : mg "int" = none)
    : FnOk P w K mg base CX0 (k + 1) f fd ["stream", "many"] (spD K 2 (d__law_next)) :=
  def_d F sc__law_next rfl rfl fun cdv A outer s H E b hr =>
    (d_cons (d_if (d_cmpT k_eq (d_ixV 0 d_int) d_int) (d_cons (d_set 2 (d_ixV 0 d_int))
    (d_cons (d_set 3 (d_add d_int (d_var 2)))
    (d_cons (d_if (d_cmpT k_lt (d_var 2) (d_len (fun _ => z_len) (d_qe (d_ixV 0 d_int)))) (d_st (d_set 3 (d_abs (fun _ => z_abs) (d_ix (d_ixV 0 d_int) (d_var 2))))) d_nil)
    (d_cons (d_if (d_cmpT k_lt (d_var 3) (d_pow d_int d_int)) (d_cons (d_set 3 (d_mod (d_int1 (fun _ => z_int) (d_add (d_add (d_mulX (d_var 3) d_int) (d_mulX (d_var 2) d_int)) d_int)) d_int))
    (d_st (d_set 3 (d_add (d_mulX (d_mod (d_int1 (fun _ => z_int) (d_add (d_mulX (d_var 3) d_int) d_int)) d_int) d_int) (d_var 3))))) d_nil)
    (d_cons (d_put 0 d_int (d_var 3))
    (d_st (d_put 0 d_int (d_add (d_var 2) d_int)))))))) d_nil)
    (d_cons (d_set 4 (d_mod (d_int1 (fun _ => z_int) (d_ixV 0 d_int)) (d_var 1)))
    (d_cons (d_put 0 d_int (d_div (d_ixV 0 d_int) (d_var 1)))
    (d_st (d_ret (d_var 4))))))
theorem ok__law_is_integer {f : Addr} {fd : FuncData} (F : Fun K "_law_is_integer" "_law_is_integer" s__law_is_integer f fd)
    (z_isinstance : mg "isinstance" = none)
    (z_int : mg "int" = none)
    (z_bool : mg "bool" = none)
    : FnOk P w K mg base CX0 (k + 1) f fd ["actual"] (spD K 1 (d__law_is_integer)) :=
  def_d F sc__law_is_integer rfl rfl fun cdv A outer s H E b hr =>
    (d_st (d_ret (d_andV (d_isi (by decide +kernel) (fun _ => z_isinstance) (fun _ => z_int) (d_var 0)) (d_one (d_notV (d_isi (by decide +kernel) (fun _ => z_isinstance) (fun _ => z_bool) (d_var 0)))))))
theorem ok__law_equal {f : Addr} {fd : FuncData} (F : Fun K "_law_equal" "_law_equal" s__law_equal f fd)
    {a__law_is_integer : Addr} {fd__law_is_integer : FuncData} {F__law_is_integer : Fn} (h__law_is_integer : FnOk P w K mg base CX0 k a__law_is_integer fd__law_is_integer ["actual"] (spD K 1 F__law_is_integer)) (g__law_is_integer : mg "_law_is_integer" = some (.ref a__law_is_integer)) (k__law_is_integer : PySem.W.keepIn K (.ref a__law_is_integer) = true) (b__law_is_integer : Binds K fd__law_is_integer ["actual"] [])
    {a__law_equal : Addr} {fd__law_equal : FuncData} {F__law_equal : Fn} (h__law_equal : FnOk P w K mg base CX0 k a__law_equal fd__law_equal ["actual", "due"] (spD K 2 F__law_equal)) (g__law_equal : mg "_law_equal" = some (.ref a__law_equal)) (k__law_equal : PySem.W.keepIn K (.ref a__law_equal) = true) (b__law_equal : Binds K fd__law_equal ["actual", "due"] [])
    (z_isinstance : mg "isinstance" = none)
    (z_bool : mg "bool" = none)
    (z_int : mg "int" = none)
    (z_str : mg "str" = none)
    (z_tuple : mg "tuple" = none)
    (z_list : mg "list" = none)
    (z_len : mg "len" = none)
    (z_all : mg "all" = none)
    (z_range : mg "range" = none)
    : FnOk P w K mg base CX0 (k + 1) f fd ["actual", "due"] (spD K 2 (d__law_equal F__law_is_integer F__law_equal)) :=
  def_d F sc__law_equal rfl rfl fun cdv A outer s H E b hr =>
    (d_cons (d_if (d_cmpT k_is (d_var 1) d_non) (d_st (d_ret (d_cmp k_is (d_var 0) d_non))) d_nil)
    (d_cons (d_if (d_tv (d_isi (by decide +kernel) (fun _ => z_isinstance) (fun _ => z_bool) (d_var 1))) (d_st (d_ret (d_andV (d_isi (by decide +kernel) (fun _ => z_isinstance) (fun _ => z_bool) (d_var 0)) (d_one (d_cmp k_eq (d_var 0) (d_var 1)))))) d_nil)
    (d_cons (d_if (d_tv (d_isi (by decide +kernel) (fun _ => z_isinstance) (fun _ => z_int) (d_var 1))) (d_st (d_ret (d_andV (d_call (fun _ => h__law_is_integer) (fun _ => g__law_is_integer) k__law_is_integer b__law_is_integer (d_av 0 d_a0)) (d_one (d_cmp k_eq (d_var 0) (d_var 1)))))) d_nil)
    (d_cons (d_if (d_tv (d_isi (by decide +kernel) (fun _ => z_isinstance) (fun _ => z_str) (d_var 1))) (d_st (d_ret (d_andV (d_isi (by decide +kernel) (fun _ => z_isinstance) (fun _ => z_str) (d_var 0)) (d_one (d_cmp k_eq (d_var 0) (d_var 1)))))) d_nil)
    (d_cons (d_if (d_w (d_and (d_tv (d_isi (by decide +kernel) (fun _ => z_isinstance) (fun _ => z_tuple) (d_var 1))) (d_and1 (d_not (d_tv (d_isi (by decide +kernel) (fun _ => z_isinstance) (fun _ => z_tuple) (d_var 0))))))) (d_st (d_ret d_bl)) d_nil)
    (d_cons (d_if (d_w (d_and (d_tv (d_isi (by decide +kernel) (fun _ => z_isinstance) (fun _ => z_list) (d_var 1))) (d_and1 (d_not (d_tv (d_isi (by decide +kernel) (fun _ => z_isinstance) (fun _ => z_list) (d_var 0))))))) (d_st (d_ret d_bl)) d_nil)
    (d_cons (d_if (d_cmpT k_ne (d_len (fun _ => z_len) (d_qvar 0)) (d_len (fun _ => z_len) (d_qvar 1))) (d_st (d_ret d_bl)) d_nil)
    (d_st (d_ret (d_all (fun _ => z_all) (d_ln (d_lc (own := [("at", 2)]) (d_r1 (fun _ => z_range) (d_len (fun _ => z_len) (d_qvar 1))) (fun _ => blkOk_by (N := N__law_equal) (sc := defScope s__law_equal) (by decide +kernel)) (fun _ => pg_name (i := 2) sc__law_equal.nd rfl (.inl rfl)) (img_n 2) (gown_n (by decide)) d_ts0 (d_call (fun _ => h__law_equal) (fun _ => g__law_equal) k__law_equal b__law_equal (d_a1 (d_ixV 0 (d_var 2)) (d_a1 (d_ixV 1 (d_var 2)) d_a0)))))))))))))))
theorem ok__law_arities {f : Addr} {fd : FuncData} (F : Fun K "_law_arities" "_law_arities" s__law_arities f fd)
    {a__law_next : Addr} {fd__law_next : FuncData} {F__law_next : Fn} (h__law_next : FnOk P w K mg base CX0 k a__law_next fd__law_next ["stream", "many"] (spD K 2 F__law_next)) (g__law_next : mg "_law_next" = some (.ref a__law_next)) (k__law_next : PySem.W.keepIn K (.ref a__law_next) = true) (b__law_next : Binds K fd__law_next ["stream", "many"] [])
    : FnOk P w K mg base CX0 (k + 1) f fd ["stream"] (spD K 1 (d__law_arities F__law_next)) :=
  def_d F sc__law_arities rfl rfl fun cdv A outer s H E b hr =>
    (d_st (d_ret (d_ix (d_en (d_lst (d_a1 (d_tup (d_a1 d_int (d_a1 d_int d_a0))) (d_a1 (d_tup (d_a1 d_int (d_a1 d_int (d_a1 d_int d_a0)))) (d_a1 (d_tup (d_a1 d_int (d_a1 d_int (d_a1 d_int d_a0)))) (d_a1 (d_tup (d_a1 d_int (d_a1 d_int d_a0))) (d_a1 (d_tup (d_a1 d_int (d_a1 d_int (d_a1 d_int d_a0)))) (d_a1 (d_tup (d_a1 d_int (d_a1 d_int d_a0))) (d_a1 (d_tup (d_a1 d_int (d_a1 d_int (d_a1 d_int (d_a1 d_int d_a0))))) (d_a1 (d_tup (d_a1 d_int (d_a1 d_int (d_a1 d_int d_a0)))) d_a0)))))))))) (d_call (fun _ => h__law_next) (fun _ => g__law_next) k__law_next b__law_next (d_av 0 (d_a1 d_int d_a0))))))
theorem ok__law_table {f : Addr} {fd : FuncData} (F : Fun K "_law_table" "_law_table" s__law_table f fd)
    {a__law_next : Addr} {fd__law_next : FuncData} {F__law_next : Fn} (h__law_next : FnOk P w K mg base CX0 k a__law_next fd__law_next ["stream", "many"] (spD K 2 F__law_next)) (g__law_next : mg "_law_next" = some (.ref a__law_next)) (k__law_next : PySem.W.keepIn K (.ref a__law_next) = true) (b__law_next : Binds K fd__law_next ["stream", "many"] [])
    (z_range : mg "range" = none)
    (z_tuple : mg "tuple" = none)
    : FnOk P w K mg base CX0 (k + 1) f fd ["stream", "arities", "most"] (spD K 3 (d__law_table F__law_next)) :=
  def_d F sc__law_table rfl rfl fun cdv A outer s H E b hr =>
    (d_cons (d_set 3 (d_add d_int (d_call (fun _ => h__law_next) (fun _ => g__law_next) k__law_next b__law_next (d_av 0 (d_av 2 d_a0)))))
    (d_cons (d_new 4 (d_lst d_a0))
    (d_cons (d_for (d_r1 (fun _ => z_range) (d_var 3)) (d_gn 5) (d_cons (d_new 6 (d_lst d_a0))
    (d_cons (d_for (d_i (d_var 1)) (d_gn 7) (d_st (d_if (d_cmpT k_eq (d_call (fun _ => h__law_next) (fun _ => g__law_next) k__law_next b__law_next (d_av 0 (d_a1 d_int d_a0))) d_int) (d_st (d_expr (d_app 6 d_non))) (d_st (d_expr (d_app 6 (d_tuple1 (fun _ => z_tuple) (d_qn (d_lc (own := [("k", 8)]) (d_r1 (fun _ => z_range) (d_var 7)) (fun _ => blkOk_by (N := N__law_table) (sc := defScope s__law_table) (by decide +kernel)) (fun _ => pg_name (i := 8) sc__law_table.nd rfl (.inl rfl)) (img_n 8) (gown_n (by decide)) d_ts0 (d_call (fun _ => h__law_next) (fun _ => g__law_next) k__law_next b__law_next (d_av 0 (d_av 3 d_a0))))))))))))
    (d_st (d_expr (d_app 4 (d_tuple1 (fun _ => z_tuple) (d_qvar 6))))))))
    (d_st (d_ret (d_tup (d_a1 (d_call (fun _ => h__law_next) (fun _ => g__law_next) k__law_next b__law_next (d_av 0 (d_av 3 d_a0))) (d_a1 (d_tuple1 (fun _ => z_tuple) (d_qvar 4)) d_a0))))))))
theorem ok__law_tree {f : Addr} {fd : FuncData} (F : Fun K "_law_tree" "_law_tree" s__law_tree f fd)
    {a__law_next : Addr} {fd__law_next : FuncData} {F__law_next : Fn} (h__law_next : FnOk P w K mg base CX0 k a__law_next fd__law_next ["stream", "many"] (spD K 2 F__law_next)) (g__law_next : mg "_law_next" = some (.ref a__law_next)) (k__law_next : PySem.W.keepIn K (.ref a__law_next) = true) (b__law_next : Binds K fd__law_next ["stream", "many"] [])
    (z_range : mg "range" = none)
    (z_len : mg "len" = none)
    : FnOk P w K mg base CX0 (k + 1) f fd ["stream", "arities", "most"] (spD K 3 (d__law_tree F__law_next)) :=
  def_d F sc__law_tree rfl rfl fun cdv A outer s H E b hr =>
    (d_cons (d_lcS (d_lcP 3 (own := [("symbol", 4)]) (d_r1 (fun _ => z_range) (d_len (fun _ => z_len) (d_qvar 1))) (fun _ => blkOk_by (N := N__law_tree) (sc := defScope s__law_tree) (by decide +kernel)) (fun _ => pg_name (i := 4) sc__law_tree.nd rfl (.inl rfl)) (img_n 4) (gown_n (by decide)) (d_ts1 (d_cmpT k_eq (d_ixV 1 (d_var 4)) d_int)) (d_var 4) (fun _ => sw_true rfl rfl rfl (by decide +kernel))))
    (d_cons (d_lcS (d_lcP 5 (own := [("symbol", 4)]) (d_r1 (fun _ => z_range) (d_len (fun _ => z_len) (d_qvar 1))) (fun _ => blkOk_by (N := N__law_tree) (sc := defScope s__law_tree) (by decide +kernel)) (fun _ => pg_name (i := 4) sc__law_tree.nd rfl (.inl rfl)) (img_n 4) (gown_n (by decide)) (d_ts1 (d_cmpT k_gt (d_ixV 1 (d_var 4)) d_int)) (d_var 4) (fun _ => sw_true rfl rfl rfl (by decide +kernel))))
    (d_cons (d_new 6 (d_lst d_a0))
    (d_cons (d_for (d_r1 (fun _ => z_range) (d_add d_int (d_call (fun _ => h__law_next) (fun _ => g__law_next) k__law_next b__law_next (d_av 0 (d_av 2 d_a0))))) (d_gn 7) (d_st (d_expr (d_app 6 (d_tup (d_a1 (d_ixV 3 (d_call (fun _ => h__law_next) (fun _ => g__law_next) k__law_next b__law_next (d_av 0 (d_a1 (d_len (fun _ => z_len) (d_qvar 3)) d_a0)))) d_a0))))))
    (d_cons (d_for (d_r1 (fun _ => z_range) (d_var 2)) (d_gn 7) (d_cons (d_set 4 (d_ixV 5 (d_call (fun _ => h__law_next) (fun _ => g__law_next) k__law_next b__law_next (d_av 0 (d_a1 (d_len (fun _ => z_len) (d_qvar 5)) d_a0)))))
    (d_cons (d_if (d_w (d_and (d_cmpT k_eq (d_ixV 1 (d_var 4)) d_int) (d_and1 (d_cmpT k_gt (d_len (fun _ => z_len) (d_qvar 6)) d_int)))) (d_cons (d_set 8 (d_call (fun _ => h__law_next) (fun _ => g__law_next) k__law_next b__law_next (d_av 0 (d_a1 (d_sub (d_len (fun _ => z_len) (d_qvar 6)) d_int) d_a0))))
    (d_st (d_new 6 (d_cat (d_cat (d_slV 6 d_o0 (d_o1 (d_var 8))) (d_lst (d_a1 (d_tup (d_a1 (d_var 4) (d_a1 (d_ixV 6 (d_var 8)) (d_a1 (d_ixV 6 (d_add (d_var 8) d_int)) d_a0)))) d_a0))) (d_slV 6 (d_o1 (d_add (d_var 8) d_int)) d_o0))))) d_nil)
    (d_st (d_if (d_cmpT k_eq (d_ixV 1 (d_var 4)) d_int) (d_cons (d_set 8 (d_call (fun _ => h__law_next) (fun _ => g__law_next) k__law_next b__law_next (d_av 0 (d_a1 (d_len (fun _ => z_len) (d_qvar 6)) d_a0))))
    (d_st (d_put 6 (d_var 8) (d_tup (d_a1 (d_var 4) (d_a1 (d_ixV 6 (d_var 8)) d_a0)))))) d_nil)))))
    (d_st (d_ret (d_ixV 6 (d_call (fun _ => h__law_next) (fun _ => g__law_next) k__law_next b__law_next (d_av 0 (d_a1 (d_len (fun _ => z_len) (d_qvar 6)) d_a0)))))))))))
theorem ok__law_nodes {f : Addr} {fd : FuncData} (F : Fun K "_law_nodes" "_law_nodes" s__law_nodes f fd)
    {a__law_nodes : Addr} {fd__law_nodes : FuncData} {F__law_nodes : Fn} (h__law_nodes : FnOk P w K mg base CX0 k a__law_nodes fd__law_nodes ["tree"] (spD K 1 F__law_nodes)) (g__law_nodes : mg "_law_nodes" = some (.ref a__law_nodes)) (k__law_nodes : PySem.W.keepIn K (.ref a__law_nodes) = true) (b__law_nodes : Binds K fd__law_nodes ["tree"] [])
    (z_sum : mg "sum" = none)
    : FnOk P w K mg base CX0 (k + 1) f fd ["tree"] (spD K 1 (d__law_nodes F__law_nodes)) :=
  def_d F sc__law_nodes rfl rfl fun cdv A outer s H E b hr =>
    (d_st (d_ret (d_add d_int (d_sum (fun _ => z_sum) (d_ln (d_lc (own := [("child", 1)]) (d_i (d_slT (d_var 0) (d_o1 d_int) d_o0)) (fun _ => blkOk_by (N := N__law_nodes) (sc := defScope s__law_nodes) (by decide +kernel)) (fun _ => pg_name (i := 1) sc__law_nodes.nd rfl (.inl rfl)) (img_n 1) (gown_n (by decide)) d_ts0 (d_call (fun _ => h__law_nodes) (fun _ => g__law_nodes) k__law_nodes b__law_nodes (d_av 1 d_a0))))))))
theorem ok__law_places {f : Addr} {fd : FuncData} (F : Fun K "_law_places" "_law_places" s__law_places f fd)
    {a__law_places : Addr} {fd__law_places : FuncData} {F__law_places : Fn} (h__law_places : FnOk P w K mg base CX0 k a__law_places fd__law_places ["tree"] (spD K 1 F__law_places)) (g__law_places : mg "_law_places" = some (.ref a__law_places)) (k__law_places : PySem.W.keepIn K (.ref a__law_places) = true) (b__law_places : Binds K fd__law_places ["tree"] [])
    (z_range : mg "range" = none)
    (z_len : mg "len" = none)
    : FnOk P w K mg base CX0 (k + 1) f fd ["tree"] (spD K 1 (d__law_places F__law_places)) :=
  def_d F sc__law_places rfl rfl fun cdv A outer s H E b hr =>
    (d_cons (d_set 1 (d_en (d_lst (d_a1 (d_tup d_a0) d_a0))))
    (d_cons (d_for (d_r1 (fun _ => z_range) (d_sub (d_len (fun _ => z_len) (d_qvar 0)) d_int)) (d_gn 2) (d_st (d_set 1 (d_en (d_catV 1 (d_lc (own := [("place", 3)]) (d_i (d_call (fun _ => h__law_places) (fun _ => g__law_places) k__law_places b__law_places (d_a1 (d_ixV 0 (d_add (d_var 2) d_int)) d_a0))) (fun _ => blkOk_by (N := N__law_places) (sc := defScope s__law_places) (by decide +kernel)) (fun _ => pg_name (i := 3) sc__law_places.nd rfl (.inl rfl)) (img_n 3) (gown_n (by decide)) d_ts0 (d_add (d_tup (d_a1 (d_var 2) d_a0)) (d_var 3))))))))
    (d_st (d_ret (d_var 1)))))
theorem ok__law_part {f : Addr} {fd : FuncData} (F : Fun K "_law_part" "_law_part" s__law_part f fd)
    
    : FnOk P w K mg base CX0 (k + 1) f fd ["tree", "place"] (spD K 2 (d__law_part)) :=
  def_d F sc__law_part rfl rfl fun cdv A outer s H E b hr =>
    (d_cons (d_for (d_i (d_var 1)) (d_gn 2) (d_st (d_set 0 (d_ixV 0 (d_add (d_var 2) d_int)))))
    (d_st (d_ret (d_var 0))))
theorem ok__law_put {f : Addr} {fd : FuncData} (F : Fun K "_law_put" "_law_put" s__law_put f fd)
    {a__law_put : Addr} {fd__law_put : FuncData} {F__law_put : Fn} (h__law_put : FnOk P w K mg base CX0 k a__law_put fd__law_put ["tree", "place", "part"] (spD K 3 F__law_put)) (g__law_put : mg "_law_put" = some (.ref a__law_put)) (k__law_put : PySem.W.keepIn K (.ref a__law_put) = true) (b__law_put : Binds K fd__law_put ["tree", "place", "part"] [])
    : FnOk P w K mg base CX0 (k + 1) f fd ["tree", "place", "part"] (spD K 3 (d__law_put F__law_put)) :=
  def_d F sc__law_put rfl rfl fun cdv A outer s H E b hr =>
    (d_cons (d_if (d_cmpT k_eq (d_var 1) (d_tup d_a0)) (d_st (d_ret (d_var 2))) d_nil)
    (d_cons (d_set 3 (d_add (d_ixV 1 d_int) d_int))
    (d_st (d_ret (d_add (d_add (d_slT (d_var 0) d_o0 (d_o1 (d_var 3))) (d_tup (d_a1 (d_call (fun _ => h__law_put) (fun _ => g__law_put) k__law_put b__law_put (d_a1 (d_ixV 0 (d_var 3)) (d_a1 (d_slT (d_var 1) (d_o1 d_int) d_o0) (d_av 2 d_a0)))) d_a0))) (d_slT (d_var 0) (d_o1 (d_add (d_var 3) d_int)) d_o0))))))
theorem ok__law_is_alike {f : Addr} {fd : FuncData} (F : Fun K "_law_is_alike" "_law_is_alike" s__law_is_alike f fd)
    
    : FnOk P w K mg base CX0 (k + 1) f fd ["first", "second", "place"] (spD K 3 (d__law_is_alike)) :=
  def_d F sc__law_is_alike rfl rfl fun cdv A outer s H E b hr =>
    (d_cons (d_for (d_i (d_var 2)) (d_gn 3) (d_cons (d_if (d_cmpT k_ne (d_ixV 0 d_int) (d_ixV 1 d_int)) (d_st (d_ret d_bl)) d_nil)
    (d_cons (d_set 0 (d_ixV 0 (d_add (d_var 3) d_int)))
    (d_st (d_set 1 (d_ixV 1 (d_add (d_var 3) d_int)))))))
    (d_st (d_ret d_bl)))
theorem ok_law {f : Addr} {fd : FuncData} (F : Fun K "law" "law" s_law f fd)
    {a__law_stream : Addr} {fd__law_stream : FuncData} {F__law_stream : Fn} (h__law_stream : FnOk P w K mg base CX0 k a__law_stream fd__law_stream ["script"] (spD K 1 F__law_stream)) (g__law_stream : mg "_law_stream" = some (.ref a__law_stream)) (k__law_stream : PySem.W.keepIn K (.ref a__law_stream) = true) (b__law_stream : Binds K fd__law_stream ["script"] [])
    {a__law_arities : Addr} {fd__law_arities : FuncData} {F__law_arities : Fn} (h__law_arities : FnOk P w K mg base CX0 k a__law_arities fd__law_arities ["stream"] (spD K 1 F__law_arities)) (g__law_arities : mg "_law_arities" = some (.ref a__law_arities)) (k__law_arities : PySem.W.keepIn K (.ref a__law_arities) = true) (b__law_arities : Binds K fd__law_arities ["stream"] [])
    {a__law_table : Addr} {fd__law_table : FuncData} {F__law_table : Fn} (h__law_table : FnOk P w K mg base CX0 k a__law_table fd__law_table ["stream", "arities", "most"] (spD K 3 F__law_table)) (g__law_table : mg "_law_table" = some (.ref a__law_table)) (k__law_table : PySem.W.keepIn K (.ref a__law_table) = true) (b__law_table : Binds K fd__law_table ["stream", "arities", "most"] [])
    {a__law_next : Addr} {fd__law_next : FuncData} {F__law_next : Fn} (h__law_next : FnOk P w K mg base CX0 k a__law_next fd__law_next ["stream", "many"] (spD K 2 F__law_next)) (g__law_next : mg "_law_next" = some (.ref a__law_next)) (k__law_next : PySem.W.keepIn K (.ref a__law_next) = true) (b__law_next : Binds K fd__law_next ["stream", "many"] [])
    {a__law_tree : Addr} {fd__law_tree : FuncData} {F__law_tree : Fn} (h__law_tree : FnOk P w K mg base CX0 k a__law_tree fd__law_tree ["stream", "arities", "most"] (spD K 3 F__law_tree)) (g__law_tree : mg "_law_tree" = some (.ref a__law_tree)) (k__law_tree : PySem.W.keepIn K (.ref a__law_tree) = true) (b__law_tree : Binds K fd__law_tree ["stream", "arities", "most"] [])
    {a__law_nodes : Addr} {fd__law_nodes : FuncData} {F__law_nodes : Fn} (h__law_nodes : FnOk P w K mg base CX0 k a__law_nodes fd__law_nodes ["tree"] (spD K 1 F__law_nodes)) (g__law_nodes : mg "_law_nodes" = some (.ref a__law_nodes)) (k__law_nodes : PySem.W.keepIn K (.ref a__law_nodes) = true) (b__law_nodes : Binds K fd__law_nodes ["tree"] [])
    {a_run : Addr} {fd_run : FuncData} {F_run : Fn} (h_run : FnOk P w K mg base CX0 k a_run fd_run ["arities", "table", "tree"] (spD K 3 F_run)) (g_run : mg "run" = some (.ref a_run)) (k_run : PySem.W.keepIn K (.ref a_run) = true) (b_run : Binds K fd_run ["arities", "table", "tree"] [])
    {a__law_places : Addr} {fd__law_places : FuncData} {F__law_places : Fn} (h__law_places : FnOk P w K mg base CX0 k a__law_places fd__law_places ["tree"] (spD K 1 F__law_places)) (g__law_places : mg "_law_places" = some (.ref a__law_places)) (k__law_places : PySem.W.keepIn K (.ref a__law_places) = true) (b__law_places : Binds K fd__law_places ["tree"] [])
    {a__law_is_alike : Addr} {fd__law_is_alike : FuncData} {F__law_is_alike : Fn} (h__law_is_alike : FnOk P w K mg base CX0 k a__law_is_alike fd__law_is_alike ["first", "second", "place"] (spD K 3 F__law_is_alike)) (g__law_is_alike : mg "_law_is_alike" = some (.ref a__law_is_alike)) (k__law_is_alike : PySem.W.keepIn K (.ref a__law_is_alike) = true) (b__law_is_alike : Binds K fd__law_is_alike ["first", "second", "place"] [])
    {a__law_put : Addr} {fd__law_put : FuncData} {F__law_put : Fn} (h__law_put : FnOk P w K mg base CX0 k a__law_put fd__law_put ["tree", "place", "part"] (spD K 3 F__law_put)) (g__law_put : mg "_law_put" = some (.ref a__law_put)) (k__law_put : PySem.W.keepIn K (.ref a__law_put) = true) (b__law_put : Binds K fd__law_put ["tree", "place", "part"] [])
    {a__law_part : Addr} {fd__law_part : FuncData} {F__law_part : Fn} (h__law_part : FnOk P w K mg base CX0 k a__law_part fd__law_part ["tree", "place"] (spD K 2 F__law_part)) (g__law_part : mg "_law_part" = some (.ref a__law_part)) (k__law_part : PySem.W.keepIn K (.ref a__law_part) = true) (b__law_part : Binds K fd__law_part ["tree", "place"] [])
    {a__law_equal : Addr} {fd__law_equal : FuncData} {F__law_equal : Fn} (h__law_equal : FnOk P w K mg base CX0 k a__law_equal fd__law_equal ["actual", "due"] (spD K 2 F__law_equal)) (g__law_equal : mg "_law_equal" = some (.ref a__law_equal)) (k__law_equal : PySem.W.keepIn K (.ref a__law_equal) = true) (b__law_equal : Binds K fd__law_equal ["actual", "due"] [])
    (z_tuple : mg "tuple" = none)
    (z_range : mg "range" = none)
    : FnOk P w K mg base CX0 (k + 1) f fd ["script"] (spD K 1 (d_law F__law_stream F__law_arities F__law_table F__law_next F__law_tree F__law_nodes F_run F__law_places F__law_is_alike F__law_put F__law_part F__law_equal)) :=
  def_d F sc_law rfl rfl fun cdv A outer s H E b hr =>
    (d_cons (d_new 1 (d_callN (fun _ => h__law_stream) (fun _ => g__law_stream) k__law_stream b__law_stream (d_av 0 d_a0)))
    (d_cons (d_set 2 (d_call (fun _ => h__law_arities) (fun _ => g__law_arities) k__law_arities b__law_arities (d_av 1 d_a0)))
    (d_cons (d_set 3 (d_call (fun _ => h__law_table) (fun _ => g__law_table) k__law_table b__law_table (d_av 1 (d_av 2 (d_a1 d_int d_a0)))))
    (d_cons (d_new 4 (d_lst d_a0))
    (d_cons (d_for (d_i (d_ixV 3 d_int)) (d_gn 5) (d_st (d_expr (d_app 4 (d_tuple1 (fun _ => z_tuple) (d_qn (d_lc (own := [("entry", 6)]) (d_i (d_var 5)) (fun _ => blkOk_by (N := N_law) (sc := defScope s_law) (by decide +kernel)) (fun _ => pg_name (i := 6) sc_law.nd rfl (.inl rfl)) (img_n 6) (gown_n (by decide)) d_ts0 (d_ix (d_en (d_lst (d_a1 (d_var 6) (d_a1 d_non d_a0)))) (d_div (d_call (fun _ => h__law_next) (fun _ => g__law_next) k__law_next b__law_next (d_av 1 (d_a1 d_int d_a0))) d_int)))))))))
    (d_cons (d_set 7 (d_tup (d_a1 (d_ixV 3 d_int) (d_a1 (d_tuple1 (fun _ => z_tuple) (d_qvar 4)) d_a0))))
    (d_cons (d_lcS (d_lcP 8 (own := [("tree", 9)]) (d_i (d_en (d_lc (own := [("k", 10)]) (d_r1 (fun _ => z_range) d_int) (fun _ => blkOk_by (N := N_law) (sc := defScope s_law) (by decide +kernel)) (fun _ => pg_name (i := 10) sc_law.nd rfl (.inl rfl)) (img_n 10) (gown_n (by decide)) d_ts0 (d_call (fun _ => h__law_tree) (fun _ => g__law_tree) k__law_tree b__law_tree (d_av 1 (d_av 2 (d_a1 d_int d_a0))))))) (fun _ => blkOk_by (N := N_law) (sc := defScope s_law) (by decide +kernel)) (fun _ => pg_name (i := 9) sc_law.nd rfl (.inl rfl)) (img_n 9) (gown_n (by decide)) (d_ts1 (d_cmpT k_le (d_call (fun _ => h__law_nodes) (fun _ => g__law_nodes) k__law_nodes b__law_nodes (d_av 9 d_a0)) d_int)) (d_var 9) (fun _ => sw_true rfl rfl rfl (by decide +kernel))))
    (d_cons (d_for (d_i (d_var 8)) (d_gn 11) (d_cons (d_set 12 (d_ix (d_call (fun _ => h_run) (fun _ => g_run) k_run b_run (d_av 2 (d_av 3 (d_av 11 d_a0)))) d_int))
    (d_cons (d_if (d_w (d_and (d_tv (d_ix (d_call (fun _ => h_run) (fun _ => g_run) k_run b_run (d_av 2 (d_av 7 (d_av 11 d_a0)))) d_int)) (d_and1 (d_not (d_tv (d_var 12)))))) (d_st (d_ret d_bl)) d_nil)
    (d_st (d_for (d_i (d_var 8)) (d_gn 13) (d_st (d_if (d_w (d_and (d_tv (d_var 12)) (d_and1 (d_tv (d_ix (d_call (fun _ => h_run) (fun _ => g_run) k_run b_run (d_av 2 (d_av 3 (d_av 13 d_a0)))) d_int))))) (d_st (d_for (d_i (d_call (fun _ => h__law_places) (fun _ => g__law_places) k__law_places b__law_places (d_av 11 d_a0))) (d_gn 14) (d_st (d_if (d_w (d_and (d_inT (d_var 14) (d_qe (d_call (fun _ => h__law_places) (fun _ => g__law_places) k__law_places b__law_places (d_av 13 d_a0)))) (d_and1 (d_tv (d_call (fun _ => h__law_is_alike) (fun _ => g__law_is_alike) k__law_is_alike b__law_is_alike (d_av 11 (d_av 13 (d_av 14 d_a0)))))))) (d_cons (d_set 15 (d_call (fun _ => h__law_put) (fun _ => g__law_put) k__law_put b__law_put (d_av 11 (d_av 14 (d_a1 (d_call (fun _ => h__law_part) (fun _ => g__law_part) k__law_part b__law_part (d_av 13 (d_av 14 d_a0))) d_a0)))))
    (d_st (d_if (d_w (d_and (d_cmpT k_le (d_call (fun _ => h__law_nodes) (fun _ => g__law_nodes) k__law_nodes b__law_nodes (d_av 15 d_a0)) d_int) (d_and1 (d_not (d_tv (d_call (fun _ => h__law_equal) (fun _ => g__law_equal) k__law_equal b__law_equal (d_a1 (d_ix (d_call (fun _ => h_run) (fun _ => g_run) k_run b_run (d_av 2 (d_av 3 (d_av 15 d_a0)))) d_int) (d_a1 d_bl d_a0)))))))) (d_st (d_ret d_bl)) d_nil))) d_nil)))) d_nil)))))))
    (d_st (d_ret d_bl))))))))))
end
end G
set_option linter.all false
set_option autoImplicit false
set_option maxRecDepth 100000
set_option maxHeartbeats 1000000
namespace G
open PySem L2
/-! values that the law uses: no dicts -/
mutual
def nd : D → Bool
  | .dict _ => false
  | .list xs => nds xs
  | .tuple xs => nds xs
  | _ => true
def nds : List D → Bool
  | [] => true
  | x :: r => nd x && nds r
end
theorem kit1 : kitB "NoneType" "int" = some false ∧ kitB "bool" "int" = some true ∧ kitB "int" "int" = some true ∧ kitB "str" "int" = some false ∧ kitB "list" "int" = some false ∧ kitB "tuple" "int" = some false := by decide +kernel
theorem kit2 : kitB "NoneType" "bool" = some false ∧ kitB "bool" "bool" = some true ∧ kitB "int" "bool" = some false ∧ kitB "str" "bool" = some false ∧ kitB "list" "bool" = some false ∧ kitB "tuple" "bool" = some false := by decide +kernel
theorem kit3 : kitB "NoneType" "tuple" = some false ∧ kitB "bool" "tuple" = some false ∧ kitB "int" "tuple" = some false ∧ kitB "str" "tuple" = some false ∧ kitB "list" "tuple" = some false ∧ kitB "tuple" "tuple" = some true := by decide +kernel
theorem kit4 : kitB "NoneType" "str" = some false ∧ kitB "bool" "str" = some false ∧ kitB "int" "str" = some false ∧ kitB "str" "str" = some true ∧ kitB "list" "str" = some false ∧ kitB "tuple" "str" = some false := by decide +kernel
theorem kit5 : kitB "NoneType" "list" = some false ∧ kitB "bool" "list" = some false ∧ kitB "int" "list" = some false ∧ kitB "str" "list" = some false ∧ kitB "list" "list" = some true ∧ kitB "tuple" "list" = some false := by decide +kernel
/-- is_integer -/
def isInt (v : D) (l m : Int) : Bool := match v with
  | .int i => decide (l ≤ i) && decide (i ≤ m)
  | _ => false
def notDict (v : D) : Bool := match v with | .dict _ => false | _ => true
theorem is_integer_eq (v : D) (l m : Int) (S : Sto) (h : notDict v = true) : d_is_integer [.d v, .d (.int l), .d (.int m)] S = some (.val (.bool (isInt v l m)), S) := by
  obtain ⟨a1, a2, a3, a4, a5, a6⟩ := kit1
  obtain ⟨b1, b2, b3, b4, b5, b6⟩ := kit2
  cases v with
  | dict _ => cases h
  | int i =>
    by_cases c : l ≤ i <;> simp [d_is_integer, mDef, mSeq, mRet, mRetL, mRetV, mRetN, mIfS, mAsg, mNew, mAug, mSub, mApp, mExtN, mExtT, mPop, mDrop, mNext, mNever, mOp, mUn, mVar, mC, mQVar, mLVar, mIxV, mQE, mLE, mEN, asL, asQ, mTup, mLst, mDs, datas, mA0, mA1, mAV, mCat, mTB, mTru, tru, mTruQ, mAnd, mOr, mNot, mAndV, mOrV, mNotV, mIf, mChain, mLen, mAll, mAny, mBools, mSum, mList, mTuple, mB, fAbs, fInt, fMax2, fMin2, mIsi, fIsi, tyN, fAdd, fTT, fSub, fMulX, fMul, fRep, fII, fI0, bMul, bDiv, bMod, bPow, fDiv, fMod, fPow, fLt, fLe, fGt, fGe, fIs, fIsNot, fIsB, fNotB, fIsN, fNotN, isN, fNeg, fIx, mCall, mCallN, rtD, rtN, mgN, mg0, mg1, mgT, mO0, mO1, mSlT, mSlL, mYes, mR1, mR2, mNotT, mNotTQ, mInQ, mCatV, mCatX, mCatY, mSlV, Option.bind, isInt, *]
  | _ => simp [d_is_integer, mDef, mSeq, mRet, mRetL, mRetV, mRetN, mIfS, mAsg, mNew, mAug, mSub, mApp, mExtN, mExtT, mPop, mDrop, mNext, mNever, mOp, mUn, mVar, mC, mQVar, mLVar, mIxV, mQE, mLE, mEN, asL, asQ, mTup, mLst, mDs, datas, mA0, mA1, mAV, mCat, mTB, mTru, tru, mTruQ, mAnd, mOr, mNot, mAndV, mOrV, mNotV, mIf, mChain, mLen, mAll, mAny, mBools, mSum, mList, mTuple, mB, fAbs, fInt, fMax2, fMin2, mIsi, fIsi, tyN, fAdd, fTT, fSub, fMulX, fMul, fRep, fII, fI0, bMul, bDiv, bMod, bPow, fDiv, fMod, fPow, fLt, fLe, fGt, fGe, fIs, fIsNot, fIsB, fNotB, fIsN, fNotN, isN, fNeg, fIx, mCall, mCallN, rtD, rtN, mgN, mg0, mg1, mgT, mO0, mO1, mSlT, mSlL, mYes, mR1, mR2, mNotT, mNotTQ, mInQ, mCatV, mCatX, mCatY, mSlV, Option.bind, isInt, *]
/-- is_tuple -/
def isTup (v : D) (l m : Int) : Bool := match v with
  | .tuple xs => decide (l ≤ xs.length) && decide ((xs.length : Int) ≤ m)
  | _ => false
theorem is_tuple_eq (v : D) (l m : Int) (S : Sto) (h : notDict v = true) : d_is_tuple [.d v, .d (.int l), .d (.int m)] S = some (.val (.bool (isTup v l m)), S) := by
  obtain ⟨a1, a2, a3, a4, a5, a6⟩ := kit3
  cases v with
  | dict _ => cases h
  | tuple xs =>
    by_cases c : l ≤ xs.length <;> simp [d_is_tuple, mDef, mSeq, mRet, mRetL, mRetV, mRetN, mIfS, mAsg, mNew, mAug, mSub, mApp, mExtN, mExtT, mPop, mDrop, mNext, mNever, mOp, mUn, mVar, mC, mQVar, mLVar, mIxV, mQE, mLE, mEN, asL, asQ, mTup, mLst, mDs, datas, mA0, mA1, mAV, mCat, mTB, mTru, tru, mTruQ, mAnd, mOr, mNot, mAndV, mOrV, mNotV, mIf, mChain, mLen, mAll, mAny, mBools, mSum, mList, mTuple, mB, fAbs, fInt, fMax2, fMin2, mIsi, fIsi, tyN, fAdd, fTT, fSub, fMulX, fMul, fRep, fII, fI0, bMul, bDiv, bMod, bPow, fDiv, fMod, fPow, fLt, fLe, fGt, fGe, fIs, fIsNot, fIsB, fNotB, fIsN, fNotN, isN, fNeg, fIx, mCall, mCallN, rtD, rtN, mgN, mg0, mg1, mgT, mO0, mO1, mSlT, mSlL, mYes, mR1, mR2, mNotT, mNotTQ, mInQ, mCatV, mCatX, mCatY, mSlV, Option.bind, isTup, *]
  | _ => simp [d_is_tuple, mDef, mSeq, mRet, mRetL, mRetV, mRetN, mIfS, mAsg, mNew, mAug, mSub, mApp, mExtN, mExtT, mPop, mDrop, mNext, mNever, mOp, mUn, mVar, mC, mQVar, mLVar, mIxV, mQE, mLE, mEN, asL, asQ, mTup, mLst, mDs, datas, mA0, mA1, mAV, mCat, mTB, mTru, tru, mTruQ, mAnd, mOr, mNot, mAndV, mOrV, mNotV, mIf, mChain, mLen, mAll, mAny, mBools, mSum, mList, mTuple, mB, fAbs, fInt, fMax2, fMin2, mIsi, fIsi, tyN, fAdd, fTT, fSub, fMulX, fMul, fRep, fII, fI0, bMul, bDiv, bMod, bPow, fDiv, fMod, fPow, fLt, fLe, fGt, fGe, fIs, fIsNot, fIsB, fNotB, fIsN, fNotN, isN, fNeg, fIx, mCall, mCallN, rtD, rtN, mgN, mg0, mg1, mgT, mO0, mO1, mSlT, mSlL, mYes, mR1, mR2, mNotT, mNotTQ, mInQ, mCatV, mCatX, mCatY, mSlV, Option.bind, isTup, *]
end G
set_option linter.all false
set_option autoImplicit false
set_option maxRecDepth 100000
set_option maxHeartbeats 1000000
namespace G
open PySem L2
theorem lc_filter {mg : MG} {mt : MT} {me : ME} {ρ : Rho} {S : Sto} (f : D → D) (p : D → Bool) (ρf : D → Rho) : ∀ {xs : List D}, (∀ x ∈ xs, mg x ρ = some (ρf x)) → (∀ x ∈ xs, mt (ρf x) S = some (p x, S)) → (∀ x ∈ xs, me (ρf x) S = some (f x, S)) →
    lcRun mg mt me xs ρ S = some ((xs.filter p).map f, S)
  | [], _, _, _ => rfl
  | x :: xs, hg, ht, he => by
    have ih := lc_filter f p ρf (fun y hy => hg y (List.mem_cons_of_mem _ hy)) (fun y hy => ht y (List.mem_cons_of_mem _ hy)) (fun y hy => he y (List.mem_cons_of_mem _ hy))
    unfold lcRun
    rw [hg x List.mem_cons_self, Option.bind_some, ht x List.mem_cons_self, Option.bind_some]
    cases e : p x with
    | true => simp [he x List.mem_cons_self, ih, e]
    | false => simp [ih, e]
theorem lc_map {mg : MG} {me : ME} {ρ : Rho} {S : Sto} (f : D → D) (ρf : D → Rho) {xs : List D} (hg : ∀ x ∈ xs, mg x ρ = some (ρf x)) (he : ∀ x ∈ xs, me (ρf x) S = some (f x, S)) : lcRun mg mYes me xs ρ S = some (xs.map f, S) := by
  have := lc_filter (mt := mYes) f (fun _ => true) ρf hg (fun _ _ => rfl) he
  rw [this, List.filter_eq_self.mpr fun _ _ => rfl]
theorem bools_map {α : Type} (f : α → Bool) : ∀ xs : List α, bools (xs.map fun x => PyData.bool (f x)) = some (xs.map f)
  | [] => rfl
  | x :: xs => by
    show (bools (xs.map fun x => PyData.bool (f x))).map (f x :: ·) = _
    rw [bools_map f xs]
    rfl
theorem all_map_id {α : Type} (f : α → Bool) (xs : List α) : (xs.map f).all id = xs.all f := by
  induction xs with
  | nil => rfl
  | cons x xs ih => simp [ih]
/-- are_integers -/
theorem are_integers_eq (xs : List D) (l m : Int) (S : Sto) (h : ∀ x ∈ xs, notDict x = true) (hz : xs.length ≤ 1000000) :
    d_are_integers d_is_integer [.d (.tuple xs), .d (.int l), .d (.int m)] S = some (.val (.bool (xs.all fun x => isInt x l m)), S) := by
  have key : lcRun (mgN 3) mYes (mCall 3 d_is_integer (mAV 3 (mAV 1 (mAV 2 mA0)))) xs (wipeR [some (.d (.tuple xs)), some (.d (.int l)), some (.d (.int m)), none] [3]) S = some (xs.map (fun x => .bool (isInt x l m)), S) := by
    refine lc_map _ (fun x => [some (.d (.tuple xs)), some (.d (.int l)), some (.d (.int m)), some (.d x)]) (fun x _ => by simp [mgN, wipeR]) fun x hx => ?_
    simp [mCall, mAV, mA0, is_integer_eq x l m S (h x hx), rtD]
  simp only [List.set_cons_succ, List.set_cons_zero, wipeR] at key
  simp [d_are_integers, mLc, mDef, mSeq, mRet, mRetL, mRetV, mRetN, mIfS, mAsg, mNew, mAug, mSub, mApp, mExtN, mExtT, mPop, mDrop, mNext, mNever, mOp, mUn, mVar, mC, mQVar, mLVar, mIxV, mQE, mLE, mEN, asL, asQ, mTup, mLst, mDs, datas, mA0, mA1, mAV, mCat, mTB, mTru, tru, mTruQ, mAnd, mOr, mNot, mAndV, mOrV, mNotV, mIf, mChain, mLen, mAll, mAny, mBools, mSum, mList, mTuple, mB, fAbs, fInt, fMax2, fMin2, mIsi, fIsi, tyN, fAdd, fTT, fSub, fMulX, fMul, fRep, fII, fI0, bMul, bDiv, bMod, bPow, fDiv, fMod, fPow, fLt, fLe, fGt, fGe, fIs, fIsNot, fIsB, fNotB, fIsN, fNotN, isN, fNeg, fIx, mCall, mCallN, rtD, rtN, mgN, mg0, mg1, mgT, mO0, mO1, mSlT, mSlL, mYes, mR1, mR2, mNotT, mNotTQ, mInQ, mCatV, mCatX, mCatY, mSlV, Option.bind, wipeR, hz, key, bools_map, all_map_id]
def isAr (v : D) : Bool := match v with
  | .tuple xs => decide (1 ≤ xs.length) && decide (xs.length ≤ 4) && xs.all fun x => isInt x 0 2
  | _ => false
def okv (v : D) : Bool := match v with
  | .tuple xs => xs.all notDict && decide (xs.length ≤ 1000000)
  | .dict _ => false
  | _ => true
theorem okv_nd {v : D} (h : okv v = true) : notDict v = true := by
  cases v <;> first | rfl | exact h
theorem is_arities_eq (v : D) (S : Sto) (h : okv v = true) : d_is_arities d_is_tuple (d_are_integers d_is_integer) [.d v] S = some (.val (.bool (isAr v)), S) := by
  have h1 := fun l m => is_tuple_eq v l m S (okv_nd h)
  cases v with
  | tuple xs =>
    have h' : (xs.all notDict && decide (xs.length ≤ 1000000)) = true := h
    rw [Bool.and_eq_true, List.all_eq_true, decide_eq_true_eq] at h'
    have h2 := are_integers_eq xs 0 2 S h'.1 h'.2
    by_cases c1 : 1 ≤ xs.length <;> by_cases c2 : xs.length ≤ 4 <;>
      simp [d_is_arities, mDef, mSeq, mRet, mRetL, mRetV, mRetN, mIfS, mAsg, mNew, mAug, mSub, mApp, mExtN, mExtT, mPop, mDrop, mNext, mNever, mOp, mUn, mVar, mC, mQVar, mLVar, mIxV, mQE, mLE, mEN, asL, asQ, mTup, mLst, mDs, datas, mA0, mA1, mAV, mCat, mTB, mTru, tru, mTruQ, mAnd, mOr, mNot, mAndV, mOrV, mNotV, mIf, mChain, mLen, mAll, mAny, mBools, mSum, mList, mTuple, mB, fAbs, fInt, fMax2, fMin2, mIsi, fIsi, tyN, fAdd, fTT, fSub, fMulX, fMul, fRep, fII, fI0, bMul, bDiv, bMod, bPow, fDiv, fMod, fPow, fLt, fLe, fGt, fGe, fIs, fIsNot, fIsB, fNotB, fIsN, fNotN, isN, fNeg, fIx, mCall, mCallN, rtD, rtN, mgN, mg0, mg1, mgT, mO0, mO1, mSlT, mSlL, mYes, mR1, mR2, mNotT, mNotTQ, mInQ, mCatV, mCatX, mCatY, mSlV, Option.bind, h1, h2, isTup, isAr, c1, c2, show ((xs.length : Int) ≤ 4) ↔ xs.length ≤ 4 by omega, show (1 ≤ (xs.length : Int)) ↔ 1 ≤ xs.length by omega]
  | dict _ => cases h
  | _ => simp [d_is_arities, mDef, mSeq, mRet, mRetL, mRetV, mRetN, mIfS, mAsg, mNew, mAug, mSub, mApp, mExtN, mExtT, mPop, mDrop, mNext, mNever, mOp, mUn, mVar, mC, mQVar, mLVar, mIxV, mQE, mLE, mEN, asL, asQ, mTup, mLst, mDs, datas, mA0, mA1, mAV, mCat, mTB, mTru, tru, mTruQ, mAnd, mOr, mNot, mAndV, mOrV, mNotV, mIf, mChain, mLen, mAll, mAny, mBools, mSum, mList, mTuple, mB, fAbs, fInt, fMax2, fMin2, mIsi, fIsi, tyN, fAdd, fTT, fSub, fMulX, fMul, fRep, fII, fI0, bMul, bDiv, bMod, bPow, fDiv, fMod, fPow, fLt, fLe, fGt, fGe, fIs, fIsNot, fIsB, fNotB, fIsN, fNotN, isN, fNeg, fIx, mCall, mCallN, rtD, rtN, mgN, mg0, mg1, mgT, mO0, mO1, mSlT, mSlL, mYes, mR1, mR2, mNotT, mNotTQ, mInQ, mCatV, mCatX, mCatY, mSlV, Option.bind, h1, isTup, isAr]
end G
set_option linter.all false
set_option autoImplicit false
set_option maxRecDepth 100000
set_option maxHeartbeats 1000000
namespace G
open PySem L2
theorem sh_int (i : Int) : SeqAt.shaped (.int i) = true := rfl
theorem ev_int (i j : Int) : PyData.eqv (.int i) (.int j) = decide (i = j) := by
  have h : PyData.eqv (.int i) (.int j) = (i == j) := rfl
  rw [h, Bool.beq_eq_decide_eq]
theorem atI_0 {α : Type} (x : α) (r : List α) : atI (x :: r) 0 = some x := by simp [atI, ixN]
theorem atI_n {α : Type} {xs : List α} {i : Int} (h0 : 0 ≤ i) (h : i < xs.length) : atI xs i = xs[i.toNat]? := by
  unfold atI ixN
  rw [if_pos h0, if_pos h]
  rfl
abbrev dA (A : List Int) : D := .tuple (A.map .int)
def nodeOk (A : List Int) (v : D) : Bool := match v with
  | .tuple (.int s :: r) => decide (r.length ≤ 2) && (decide (0 ≤ s) && (decide (s < A.length) && decide ((r.length : Int) = A.getD s.toNat 0)))
  | _ => false
def kids (v : D) : List D := match v with
  | .tuple (_ :: r) => r
  | _ => []
theorem is_node_eq (A : List Int) (v : D) (S : Sto) (h : okv v = true) : d__is_node d_is_tuple d_is_integer [.d (dA A), .d v] S = some (.val (.bool (nodeOk A v)), S) := by
  have h1 := fun l m => is_tuple_eq v l m S (okv_nd h)
  cases v with
  | tuple xs =>
    have h' : (xs.all notDict && decide (xs.length ≤ 1000000)) = true := h
    rw [Bool.and_eq_true, List.all_eq_true, decide_eq_true_eq] at h'
    cases xs with
    | nil => simp [d__is_node, mDef, mSeq, mRet, mRetL, mRetV, mRetN, mIfS, mAsg, mNew, mAug, mSub, mApp, mExtN, mExtT, mPop, mDrop, mNext, mNever, mOp, mUn, mVar, mC, mQVar, mLVar, mIxV, mQE, mLE, mEN, asL, asQ, mTup, mLst, mDs, datas, mA0, mA1, mAV, mCat, mTB, mTru, tru, mTruQ, mAnd, mOr, mNot, mAndV, mOrV, mNotV, mIf, mChain, mLen, mAll, mAny, mBools, mSum, mList, mTuple, mB, fAbs, fInt, fMax2, fMin2, mIsi, fIsi, tyN, fAdd, fTT, fSub, fMulX, fMul, fRep, fII, fI0, bMul, bDiv, bMod, bPow, fDiv, fMod, fPow, fLt, fLe, fGt, fGe, fIs, fIsNot, fIsB, fNotB, fIsN, fNotN, isN, fNeg, fIx, mCall, mCallN, rtD, rtN, mgN, mg0, mg1, mgT, mO0, mO1, mSlT, mSlL, mYes, mR1, mR2, mNotT, mNotTQ, mInQ, mCatV, mCatX, mCatY, mSlV, Option.bind, h1, isTup, nodeOk]
    | cons x r =>
      have h2 := fun l m => is_integer_eq x l m S (h'.1 x List.mem_cons_self)
      by_cases c : r.length ≤ 2
      · have c' : ((r.length : Int) + 1 ≤ 3) := by omega
        cases x with
        | int s =>
          by_cases c0 : 0 ≤ s
          · by_cases c1 : s < A.length
            · have e1 : s ≤ (A.length : Int) - 1 := by omega
              obtain ⟨a, ha⟩ : ∃ a, A.getD s.toNat 0 = a := ⟨_, rfl⟩
              have e2 : atI (A.map PyData.int) s = some (.int a) := by
                rw [← ha, atI_n c0 (by rw [List.length_map]; exact c1), List.getElem?_map, List.getD_eq_getElem?_getD]
                rw [List.getElem?_eq_getElem (by omega)]
                rfl
              have hn : nodeOk A (.tuple (.int s :: r)) = decide ((r.length : Int) = a) := by
                unfold nodeOk
                simp only [ha, c, c0, c1, decide_true, Bool.true_and]
              have e3 : decide ((r.length : Int) + 1 = 1 + a) = decide ((r.length : Int) = a) := by
                rw [decide_eq_decide]; omega
              rw [hn]
              simp [d__is_node, mDef, mSeq, mRet, mRetL, mRetV, mRetN, mIfS, mAsg, mNew, mAug, mSub, mApp, mExtN, mExtT, mPop, mDrop, mNext, mNever, mOp, mUn, mVar, mC, mQVar, mLVar, mIxV, mQE, mLE, mEN, asL, asQ, mTup, mLst, mDs, datas, mA0, mA1, mAV, mCat, mTB, mTru, tru, mTruQ, mAnd, mOr, mNot, mAndV, mOrV, mNotV, mIf, mChain, mLen, mAll, mAny, mBools, mSum, mList, mTuple, mB, fAbs, fInt, fMax2, fMin2, mIsi, fIsi, tyN, fAdd, fTT, fSub, fMulX, fMul, fRep, fII, fI0, bMul, bDiv, bMod, bPow, fDiv, fMod, fPow, fLt, fLe, fGt, fGe, fIs, fIsNot, fIsB, fNotB, fIsN, fNotN, isN, fNeg, fIx, mCall, mCallN, rtD, rtN, mgN, mg0, mg1, mgT, mO0, mO1, mSlT, mSlL, mYes, mR1, mR2, mNotT, mNotTQ, mInQ, mCatV, mCatX, mCatY, mSlV, Option.bind, h1, h2, isTup, isInt, atI_0, c', c0, e1, e2, fEq, sh_int, ev_int, show ¬ ((r.length : Int) + 1 < 1) by omega, show (0 : Int) ≤ r.length by omega]
              simpa using e3
            · have e1 : ¬ s ≤ (A.length : Int) - 1 := by omega
              simp [d__is_node, mDef, mSeq, mRet, mRetL, mRetV, mRetN, mIfS, mAsg, mNew, mAug, mSub, mApp, mExtN, mExtT, mPop, mDrop, mNext, mNever, mOp, mUn, mVar, mC, mQVar, mLVar, mIxV, mQE, mLE, mEN, asL, asQ, mTup, mLst, mDs, datas, mA0, mA1, mAV, mCat, mTB, mTru, tru, mTruQ, mAnd, mOr, mNot, mAndV, mOrV, mNotV, mIf, mChain, mLen, mAll, mAny, mBools, mSum, mList, mTuple, mB, fAbs, fInt, fMax2, fMin2, mIsi, fIsi, tyN, fAdd, fTT, fSub, fMulX, fMul, fRep, fII, fI0, bMul, bDiv, bMod, bPow, fDiv, fMod, fPow, fLt, fLe, fGt, fGe, fIs, fIsNot, fIsB, fNotB, fIsN, fNotN, isN, fNeg, fIx, mCall, mCallN, rtD, rtN, mgN, mg0, mg1, mgT, mO0, mO1, mSlT, mSlL, mYes, mR1, mR2, mNotT, mNotTQ, mInQ, mCatV, mCatX, mCatY, mSlV, Option.bind, h1, h2, isTup, isInt, nodeOk, atI_0, c, c', c0, c1, e1, show (0 : Int) ≤ r.length by omega]
          · simp [d__is_node, mDef, mSeq, mRet, mRetL, mRetV, mRetN, mIfS, mAsg, mNew, mAug, mSub, mApp, mExtN, mExtT, mPop, mDrop, mNext, mNever, mOp, mUn, mVar, mC, mQVar, mLVar, mIxV, mQE, mLE, mEN, asL, asQ, mTup, mLst, mDs, datas, mA0, mA1, mAV, mCat, mTB, mTru, tru, mTruQ, mAnd, mOr, mNot, mAndV, mOrV, mNotV, mIf, mChain, mLen, mAll, mAny, mBools, mSum, mList, mTuple, mB, fAbs, fInt, fMax2, fMin2, mIsi, fIsi, tyN, fAdd, fTT, fSub, fMulX, fMul, fRep, fII, fI0, bMul, bDiv, bMod, bPow, fDiv, fMod, fPow, fLt, fLe, fGt, fGe, fIs, fIsNot, fIsB, fNotB, fIsN, fNotN, isN, fNeg, fIx, mCall, mCallN, rtD, rtN, mgN, mg0, mg1, mgT, mO0, mO1, mSlT, mSlL, mYes, mR1, mR2, mNotT, mNotTQ, mInQ, mCatV, mCatX, mCatY, mSlV, Option.bind, h1, h2, isTup, isInt, nodeOk, atI_0, c, c', c0, show (0 : Int) ≤ r.length by omega]
        | dict _ => exact absurd (h'.1 _ List.mem_cons_self) (by simp [notDict])
        | _ => simp [d__is_node, mDef, mSeq, mRet, mRetL, mRetV, mRetN, mIfS, mAsg, mNew, mAug, mSub, mApp, mExtN, mExtT, mPop, mDrop, mNext, mNever, mOp, mUn, mVar, mC, mQVar, mLVar, mIxV, mQE, mLE, mEN, asL, asQ, mTup, mLst, mDs, datas, mA0, mA1, mAV, mCat, mTB, mTru, tru, mTruQ, mAnd, mOr, mNot, mAndV, mOrV, mNotV, mIf, mChain, mLen, mAll, mAny, mBools, mSum, mList, mTuple, mB, fAbs, fInt, fMax2, fMin2, mIsi, fIsi, tyN, fAdd, fTT, fSub, fMulX, fMul, fRep, fII, fI0, bMul, bDiv, bMod, bPow, fDiv, fMod, fPow, fLt, fLe, fGt, fGe, fIs, fIsNot, fIsB, fNotB, fIsN, fNotN, isN, fNeg, fIx, mCall, mCallN, rtD, rtN, mgN, mg0, mg1, mgT, mO0, mO1, mSlT, mSlL, mYes, mR1, mR2, mNotT, mNotTQ, mInQ, mCatV, mCatX, mCatY, mSlV, Option.bind, h1, h2, isTup, isInt, nodeOk, atI_0, c', show (0 : Int) ≤ r.length by omega]
      · have c' : ¬ ((r.length : Int) + 1 ≤ 3) := by omega
        cases x <;> simp [d__is_node, mDef, mSeq, mRet, mRetL, mRetV, mRetN, mIfS, mAsg, mNew, mAug, mSub, mApp, mExtN, mExtT, mPop, mDrop, mNext, mNever, mOp, mUn, mVar, mC, mQVar, mLVar, mIxV, mQE, mLE, mEN, asL, asQ, mTup, mLst, mDs, datas, mA0, mA1, mAV, mCat, mTB, mTru, tru, mTruQ, mAnd, mOr, mNot, mAndV, mOrV, mNotV, mIf, mChain, mLen, mAll, mAny, mBools, mSum, mList, mTuple, mB, fAbs, fInt, fMax2, fMin2, mIsi, fIsi, tyN, fAdd, fTT, fSub, fMulX, fMul, fRep, fII, fI0, bMul, bDiv, bMod, bPow, fDiv, fMod, fPow, fLt, fLe, fGt, fGe, fIs, fIsNot, fIsB, fNotB, fIsN, fNotN, isN, fNeg, fIx, mCall, mCallN, rtD, rtN, mgN, mg0, mg1, mgT, mO0, mO1, mSlT, mSlL, mYes, mR1, mR2, mNotT, mNotTQ, mInQ, mCatV, mCatX, mCatY, mSlV, Option.bind, h1, isTup, nodeOk, c, c']
  | dict _ => cases h
  | _ => simp [d__is_node, mDef, mSeq, mRet, mRetL, mRetV, mRetN, mIfS, mAsg, mNew, mAug, mSub, mApp, mExtN, mExtT, mPop, mDrop, mNext, mNever, mOp, mUn, mVar, mC, mQVar, mLVar, mIxV, mQE, mLE, mEN, asL, asQ, mTup, mLst, mDs, datas, mA0, mA1, mAV, mCat, mTB, mTru, tru, mTruQ, mAnd, mOr, mNot, mAndV, mOrV, mNotV, mIf, mChain, mLen, mAll, mAny, mBools, mSum, mList, mTuple, mB, fAbs, fInt, fMax2, fMin2, mIsi, fIsi, tyN, fAdd, fTT, fSub, fMulX, fMul, fRep, fII, fI0, bMul, bDiv, bMod, bPow, fDiv, fMod, fPow, fLt, fLe, fGt, fGe, fIs, fIsNot, fIsB, fNotB, fIsN, fNotN, isN, fNeg, fIx, mCall, mCallN, rtD, rtN, mgN, mg0, mg1, mgT, mO0, mO1, mSlT, mSlL, mYes, mR1, mR2, mNotT, mNotTQ, mInQ, mCatV, mCatX, mCatY, mSlV, Option.bind, h1, isTup, nodeOk]
/-! the stack -/
def trRun (A : List Int) : Nat → List D → Int → Option Bool
  | 0, _, _ => none
  | f + 1, stk, k => match stk.getLast? with
    | none => some true
    | some v => if 15 < k + 1 ∨ nodeOk A v = false then some false else trRun A f (stk.dropLast ++ kids v) (k + 1)
abbrev isNodeF : Fn := d__is_node d_is_tuple d_is_integer
theorem ok_kids {A : List Int} {v : D} (h : nodeOk A v = true) : ∃ x r, v = .tuple (x :: r) ∧ kids v = r ∧ r.length ≤ 2 := by
  unfold nodeOk at h
  split at h
  · rename_i s r
    rw [Bool.and_eq_true] at h
    exact ⟨_, _, rfl, rfl, of_decide_eq_true h.1⟩
  · cases h
end G
set_option linter.all false
set_option autoImplicit false
set_option maxRecDepth 100000
set_option maxHeartbeats 1000000
namespace G
open PySem L2
theorem cut_from {α : Type} (xs : List α) (k : Nat) : cut xs (some (k : Int)) none = xs.drop k := by
  unfold cut
  rw [HT.sIx_nat, HT.sIx_none]
  by_cases h : k ≤ xs.length
  · rw [Nat.min_eq_left h]
    exact List.take_of_length_le (by rw [List.length_drop]; omega)
  · rw [Nat.min_eq_right (by omega), List.drop_eq_nil_of_le (Nat.le_refl _), List.drop_eq_nil_of_le (by omega)]
    simp
theorem cut_to {α : Type} (xs : List α) (k : Nat) : cut xs none (some (k : Int)) = xs.take k := by
  unfold cut
  rw [HT.sIx_nat, HT.sIx_none, List.drop_zero, Nat.sub_zero]
  by_cases h : k ≤ xs.length
  · rw [Nat.min_eq_left h]
  · rw [Nat.min_eq_right (by omega), List.take_of_length_le (Nat.le_refl _), List.take_of_length_le (by omega)]
theorem cut_f1 {α : Type} (x : α) (r : List α) : cut (x :: r) (some 1) none = r := cut_from (x :: r) 1
abbrev trC : MT := mTruQ (mQVar 2)
abbrev trB (F__is_node : Fn) : MS := (mSeq (mAsg (mPop 2) (mgN 4))
  (mSeq (mAug 3 (fI0 fun i j => .int (i + j)) (mC (.int 1)))
  (mSeq (mIfS (mOr (mTB (mOp fGt (mVar 3) (mC (.int 15)))) (mNot (mTru (mCall 2 F__is_node (mAV 0 (mAV 4 mA0)))))) (mRet (mC (.bool false))) mNext)
  (mDrop (mExtT 2 (mSlT (mVar 4) (mO1 (mC (.int 1))) mO0))))))
theorem tr_last {α : Type} (S0 : List α) (x : α) : (S0 ++ [x])[S0.length]? = some x := by simp
theorem tr_set {α : Type} (S0 : List α) (x y : α) : (S0 ++ [x]).set S0.length y = S0 ++ [y] := by simp
theorem tr_body (A : List Int) (w : Sl) (S0 : Sto) (init : List D) (v : D) (k : Int) (nd : Option Sl) (h : okv v = true) (hl : init.length ≤ 1000) :
    ∃ ρ' S', trB isNodeF [some (.d (dA A)), some w, some (.loc S0.length), some (.d (.int k)), nd] (S0 ++ [some (init ++ [v])]) =
      if 15 < k + 1 ∨ nodeOk A v = false then some (.rt (.val (.bool false)), ρ', S0 ++ S') else some (.nx, [some (.d (dA A)), some w, some (.loc S0.length), some (.d (.int (k + 1))), some (.d v)], S0 ++ [some (init ++ kids v)]) := by
  have h1 := fun S => is_node_eq A v S h
  by_cases c : 15 < k + 1
  · refine ⟨[some (.d (dA A)), some w, some (.loc S0.length), some (.d (.int (k + 1))), some (.d v)], [some init], ?_⟩
    rw [if_pos (.inl c)]
    simp [trB, mDef, mSeq, mRet, mRetL, mRetV, mRetN, mIfS, mAsg, mNew, mAug, mSub, mApp, mExtN, mExtT, mPop, mDrop, mNext, mNever, mOp, mUn, mVar, mC, mQVar, mLVar, mIxV, mQE, mLE, mEN, asL, asQ, mTup, mLst, mDs, datas, mA0, mA1, mAV, mCat, mTB, mTru, tru, mTruQ, mAnd, mOr, mNot, mAndV, mOrV, mNotV, mIf, mChain, mLen, mAll, mAny, mBools, mSum, mList, mTuple, mB, fAbs, fInt, fMax2, fMin2, mIsi, fIsi, tyN, fAdd, fTT, fSub, fMulX, fMul, fRep, fII, fI0, bMul, bDiv, bMod, bPow, fDiv, fMod, fPow, fLt, fLe, fGt, fGe, fIs, fIsNot, fIsB, fNotB, fIsN, fNotN, isN, fNeg, fIx, mCall, mCallN, rtD, rtN, mgN, mg0, mg1, mgT, mO0, mO1, mSlT, mSlL, mYes, mR1, mR2, mNotT, mNotTQ, mInQ, mCatV, mCatX, mCatY, mSlV, Option.bind, tr_last, tr_set, c]
  · by_cases c2 : nodeOk A v = true
    · obtain ⟨x, r, rfl, hk, hr⟩ := ok_kids c2
      refine ⟨[], [], ?_⟩
      rw [if_neg (by simp [c, c2])]
      simp [trB, mDef, mSeq, mRet, mRetL, mRetV, mRetN, mIfS, mAsg, mNew, mAug, mSub, mApp, mExtN, mExtT, mPop, mDrop, mNext, mNever, mOp, mUn, mVar, mC, mQVar, mLVar, mIxV, mQE, mLE, mEN, asL, asQ, mTup, mLst, mDs, datas, mA0, mA1, mAV, mCat, mTB, mTru, tru, mTruQ, mAnd, mOr, mNot, mAndV, mOrV, mNotV, mIf, mChain, mLen, mAll, mAny, mBools, mSum, mList, mTuple, mB, fAbs, fInt, fMax2, fMin2, mIsi, fIsi, tyN, fAdd, fTT, fSub, fMulX, fMul, fRep, fII, fI0, bMul, bDiv, bMod, bPow, fDiv, fMod, fPow, fLt, fLe, fGt, fGe, fIs, fIsNot, fIsB, fNotB, fIsN, fNotN, isN, fNeg, fIx, mCall, mCallN, rtD, rtN, mgN, mg0, mg1, mgT, mO0, mO1, mSlT, mSlL, mYes, mR1, mR2, mNotT, mNotTQ, mInQ, mCatV, mCatX, mCatY, mSlV, Option.bind, tr_last, tr_set, c, c2, h1, isNodeF, cut_f1, hk, show init.length + r.length ≤ 1000000 by omega]
    · have c3 : nodeOk A v = false := by simpa using c2
      refine ⟨[some (.d (dA A)), some w, some (.loc S0.length), some (.d (.int (k + 1))), some (.d v)], [some init], ?_⟩
      rw [if_pos (.inr c3)]
      simp [trB, mDef, mSeq, mRet, mRetL, mRetV, mRetN, mIfS, mAsg, mNew, mAug, mSub, mApp, mExtN, mExtT, mPop, mDrop, mNext, mNever, mOp, mUn, mVar, mC, mQVar, mLVar, mIxV, mQE, mLE, mEN, asL, asQ, mTup, mLst, mDs, datas, mA0, mA1, mAV, mCat, mTB, mTru, tru, mTruQ, mAnd, mOr, mNot, mAndV, mOrV, mNotV, mIf, mChain, mLen, mAll, mAny, mBools, mSum, mList, mTuple, mB, fAbs, fInt, fMax2, fMin2, mIsi, fIsi, tyN, fAdd, fTT, fSub, fMulX, fMul, fRep, fII, fI0, bMul, bDiv, bMod, bPow, fDiv, fMod, fPow, fLt, fLe, fGt, fGe, fIs, fIsNot, fIsB, fNotB, fIsN, fNotN, isN, fNeg, fIx, mCall, mCallN, rtD, rtN, mgN, mg0, mg1, mgT, mO0, mO1, mSlT, mSlL, mYes, mR1, mR2, mNotT, mNotTQ, mInQ, mCatV, mCatX, mCatY, mSlV, Option.bind, tr_last, tr_set, c, c3, h1, isNodeF]

theorem last_some {α : Type} {xs : List α} {v : α} (h : xs.getLast? = some v) : xs = xs.dropLast ++ [v] := by
  obtain ⟨ys, rfl⟩ := List.getLast?_eq_some_iff.mp h
  simp
/-- the loop by the stack -/
theorem tr_loop (A : List Int) (w : Sl) (S0 : Sto) (PP : D → Prop) (hP : ∀ v, PP v → okv v = true) : ∀ (f : Nat) (stk : List D) (k : Int) (nd : Option Sl) (r : Bool), (∀ v ∈ stk, PP v) → (∀ v, PP v → nodeOk A v = true → ∀ u ∈ kids v, PP u) → stk.length + 2 * f ≤ 1000 → trRun A f stk k = some r →
    ∃ ρ' S', whRun trC (trB isNodeF) f [some (.d (dA A)), some w, some (.loc S0.length), some (.d (.int k)), nd] (S0 ++ [some stk]) = some (if r then .nx else .rt (.val (.bool false)), ρ', S0 ++ S')
  | 0, _, _, _, _, _, _, _, h => by cases h
  | f + 1, stk, k, nd, r, hok, hk, hl, h => by
    unfold trRun at h
    unfold whRun
    cases e : stk.getLast? with
    | none =>
      rw [e] at h
      cases h
      have e0 : stk = [] := List.getLast?_eq_none_iff.mp e
      subst e0
      exact ⟨[some (.d (dA A)), some w, some (.loc S0.length), some (.d (.int k)), nd], [some []], by simp [mDef, mSeq, mRet, mRetL, mRetV, mRetN, mIfS, mAsg, mNew, mAug, mSub, mApp, mExtN, mExtT, mPop, mDrop, mNext, mNever, mOp, mUn, mVar, mC, mQVar, mLVar, mIxV, mQE, mLE, mEN, asL, asQ, mTup, mLst, mDs, datas, mA0, mA1, mAV, mCat, mTB, mTru, tru, mTruQ, mAnd, mOr, mNot, mAndV, mOrV, mNotV, mIf, mChain, mLen, mAll, mAny, mBools, mSum, mList, mTuple, mB, fAbs, fInt, fMax2, fMin2, mIsi, fIsi, tyN, fAdd, fTT, fSub, fMulX, fMul, fRep, fII, fI0, bMul, bDiv, bMod, bPow, fDiv, fMod, fPow, fLt, fLe, fGt, fGe, fIs, fIsNot, fIsB, fNotB, fIsN, fNotN, isN, fNeg, fIx, mCall, mCallN, rtD, rtN, mgN, mg0, mg1, mgT, mO0, mO1, mSlT, mSlL, mYes, mR1, mR2, mNotT, mNotTQ, mInQ, mCatV, mCatX, mCatY, mSlV, Option.bind, tr_last]⟩
    | some v =>
      rw [e] at h
      simp only at h
      have es := last_some e
      have hvP : PP v := hok v (by rw [es]; simp)
      have hv : okv v = true := hP v hvP
      have hlen : stk.length = stk.dropLast.length + 1 := by
        have := congrArg List.length es
        simpa using this
      obtain ⟨ρ1, S1, e1⟩ := tr_body A w S0 stk.dropLast v k nd hv (by omega)
      have ec : trC [some (.d (dA A)), some w, some (.loc S0.length), some (.d (.int k)), nd] (S0 ++ [some stk]) = some (true, S0 ++ [some stk]) := by
        have : stk.isEmpty = false := by rw [es]; simp
        simp [trC, mDef, mSeq, mRet, mRetL, mRetV, mRetN, mIfS, mAsg, mNew, mAug, mSub, mApp, mExtN, mExtT, mPop, mDrop, mNext, mNever, mOp, mUn, mVar, mC, mQVar, mLVar, mIxV, mQE, mLE, mEN, asL, asQ, mTup, mLst, mDs, datas, mA0, mA1, mAV, mCat, mTB, mTru, tru, mTruQ, mAnd, mOr, mNot, mAndV, mOrV, mNotV, mIf, mChain, mLen, mAll, mAny, mBools, mSum, mList, mTuple, mB, fAbs, fInt, fMax2, fMin2, mIsi, fIsi, tyN, fAdd, fTT, fSub, fMulX, fMul, fRep, fII, fI0, bMul, bDiv, bMod, bPow, fDiv, fMod, fPow, fLt, fLe, fGt, fGe, fIs, fIsNot, fIsB, fNotB, fIsN, fNotN, isN, fNeg, fIx, mCall, mCallN, rtD, rtN, mgN, mg0, mg1, mgT, mO0, mO1, mSlT, mSlL, mYes, mR1, mR2, mNotT, mNotTQ, mInQ, mCatV, mCatX, mCatY, mSlV, Option.bind, tr_last, this]
      rw [ec, Option.bind_some, if_pos rfl]
      rw [← es] at e1
      by_cases c : 15 < k + 1 ∨ nodeOk A v = false
      · rw [if_pos c] at h e1
        cases h
        rw [e1, Option.bind_some]
        exact ⟨ρ1, S1, rfl⟩
      · rw [if_neg c] at h e1
        rw [e1, Option.bind_some]
        have c2 : nodeOk A v = true := by
          cases q : nodeOk A v with
          | true => rfl
          | false => exact absurd (.inr q) c
        obtain ⟨x, rr, rfl, hkk, hr⟩ := ok_kids c2
        refine tr_loop A w S0 PP hP f (stk.dropLast ++ kids _) (k + 1) _ r (fun u hu => ?_) hk ?_ h
        · rcases List.mem_append.mp hu with hu | hu
          · exact hok u (by rw [es]; exact List.mem_append_left _ hu)
          · exact hk _ hvP c2 u hu
        · rw [List.length_append, hkk]; omega
mutual
def dk : D → Bool
  | .dict _ => false
  | .tuple xs => dks xs && decide (xs.length ≤ 1000000)
  | _ => true
def dks : List D → Bool
  | [] => true
  | x :: r => dk x && dks r
end
theorem dks_mem : ∀ {xs : List D}, dks xs = true → ∀ x ∈ xs, dk x = true
  | y :: r, h, x, hx => by
    unfold dks at h
    rw [Bool.and_eq_true] at h
    rcases List.mem_cons.mp hx with e | hx
    · rw [e]; exact h.1
    · exact dks_mem h.2 x hx
theorem dk_nd {v : D} (h : dk v = true) : notDict v = true := by
  cases v with
  | dict _ => unfold dk at h; cases h
  | _ => rfl
theorem dk_ok {v : D} (h : dk v = true) : okv v = true := by
  cases v with
  | tuple xs =>
    unfold dk at h
    rw [Bool.and_eq_true] at h
    show (xs.all notDict && decide (xs.length ≤ 1000000)) = true
    rw [h.2, Bool.and_true, List.all_eq_true]
    exact fun x hx => dk_nd (dks_mem h.1 x hx)
  | dict _ => unfold dk at h; cases h
  | _ => rfl
theorem dk_kids {A : List Int} {v : D} (h : dk v = true) (c : nodeOk A v = true) : ∀ u ∈ kids v, dk u = true := by
  obtain ⟨x, r, rfl, hk, hr⟩ := ok_kids c
  rw [hk]
  unfold dk at h
  rw [Bool.and_eq_true] at h
  exact fun u hu => dks_mem h.1 u (List.mem_cons_of_mem _ hu)
theorem is_tree_run (A : List Int) (v : D) (S : Sto) (r : Bool) (hv : dk v = true) (h : trRun A 60 [v] 0 = some r) :
    d_is_tree isNodeF [.d (dA A), .d v] S = some (.val (.bool r), S) := by
  obtain ⟨ρ', S', e⟩ := tr_loop A (.d v) S (fun v => dk v = true) (fun v h => dk_ok h) 60 [v] 0 none r (fun u hu => by rw [List.mem_singleton.mp hu]; exact hv) (fun v h c u hu => dk_kids h c u hu) (by simp) h
  simp only [trC, trB, fGt] at e
  cases r <;> simp [d_is_tree, mDef, mSeq, mRet, mRetL, mRetV, mRetN, mIfS, mAsg, mNew, mAug, mSub, mApp, mExtN, mExtT, mPop, mDrop, mNext, mNever, mOp, mUn, mVar, mC, mQVar, mLVar, mIxV, mQE, mLE, mEN, asL, asQ, mTup, mLst, mDs, datas, mA0, mA1, mAV, mCat, mTB, mTru, tru, mTruQ, mAnd, mOr, mNot, mAndV, mOrV, mNotV, mIf, mChain, mLen, mAll, mAny, mBools, mSum, mList, mTuple, mB, fAbs, fInt, fMax2, fMin2, mIsi, fIsi, tyN, fAdd, fTT, fSub, fMulX, fMul, fRep, fII, fI0, bMul, bDiv, bMod, bPow, fDiv, fMod, fPow, fLt, fLe, fGt, fGe, fIs, fIsNot, fIsB, fNotB, fIsN, fNotN, isN, fNeg, fIx, mCall, mCallN, rtD, rtN, mgN, mg0, mg1, mgT, mO0, mO1, mSlT, mSlL, mYes, mR1, mR2, mNotT, mNotTQ, mInQ, mCatV, mCatX, mCatY, mSlV, Option.bind, e]
/-! trees -/
inductive T where
  | l (s : Nat)
  | u (s : Nat) (a : T)
  | b (s : Nat) (x y : T)
def T.d : T → D
  | .l s => .tuple [.int s]
  | .u s a => .tuple [.int s, a.d]
  | .b s x y => .tuple [.int s, x.d, y.d]
def T.n : T → Nat
  | .l _ => 1
  | .u _ a => a.n + 1
  | .b _ x y => x.n + y.n + 1
def T.ok (A : List Int) : T → Prop
  | .l s => A[s]? = some 0
  | .u s a => A[s]? = some 1 ∧ a.ok A
  | .b s x y => A[s]? = some 2 ∧ x.ok A ∧ y.ok A
def T.kids : T → List T
  | .l _ => []
  | .u _ a => [a]
  | .b _ x y => [x, y]
theorem T.dk : ∀ t : T, G.dk t.d = true
  | .l s => by simp [T.d, G.dk, G.dks]
  | .u s a => by simp [T.d, G.dk, G.dks, T.dk a]
  | .b s x y => by simp [T.d, G.dk, G.dks, T.dk x, T.dk y]
theorem T.kd (t : T) : G.kids t.d = t.kids.map T.d := by cases t <;> rfl
theorem T.n_pos (t : T) : 1 ≤ t.n := by cases t <;> simp [T.n]
def sumn (ts : List T) : Nat := (ts.map T.n).sum
theorem sumn_append (a b : List T) : sumn (a ++ b) = sumn a + sumn b := by simp [sumn]
theorem T.n_kids (t : T) : t.n = sumn t.kids + 1 := by cases t <;> simp [T.n, T.kids, sumn]
theorem nodeOk_mk {A : List Int} {s : Nat} {r : List D} {a : Nat} (h : A[s]? = some (a : Int)) (ha : a ≤ 2) (hr : r.length = a) : nodeOk A (.tuple (.int s :: r)) = true := by
  have hl := (List.getElem?_eq_some_iff.mp h).1
  unfold nodeOk
  have e : A.getD ((s : Int)).toNat 0 = (a : Int) := by
    rw [List.getD_eq_getElem?_getD, Int.toNat_natCast, h]
    rfl
  simp only [e, hr, decide_eq_true_eq, Bool.and_eq_true]
  exact ⟨ha, by omega, by omega, trivial⟩
theorem T.node {A : List Int} {t : T} (h : t.ok A) : nodeOk A t.d = true := by
  cases t with
  | l s => exact nodeOk_mk (a := 0) h (by omega) rfl
  | u s a => exact nodeOk_mk (a := 1) h.1 (by omega) rfl
  | b s x y => exact nodeOk_mk (a := 2) h.1 (by omega) rfl
theorem T.kok {A : List Int} {t : T} (h : t.ok A) : ∀ u ∈ t.kids, u.ok A := by
  cases t with
  | l s => intro u hu; cases hu
  | u s a => intro u hu; rw [List.mem_singleton.mp hu]; exact h.2
  | b s x y =>
    intro u hu
    rcases List.mem_cons.mp hu with e | hu
    · rw [e]; exact h.2.1
    · rw [List.mem_singleton.mp hu]; exact h.2.2
theorem tr_step {A : List Int} {f : Nat} {ts : List T} {t : T} {k : Int} (h : t.ok A) (hk : ¬ 15 < k + 1) : trRun A (f + 1) ((ts ++ [t]).map T.d) k = trRun A f ((ts ++ t.kids).map T.d) (k + 1) := by
  have e1 : ((ts ++ [t]).map T.d).getLast? = some t.d := by simp
  have e2 : ((ts ++ [t]).map T.d).dropLast = ts.map T.d := by simp
  show (match ((ts ++ [t]).map T.d).getLast? with | none => some true | some v => if 15 < k + 1 ∨ nodeOk A v = false then some false else trRun A f (((ts ++ [t]).map T.d).dropLast ++ G.kids v) (k + 1)) = _
  rw [e1]
  simp only
  rw [if_neg (by rw [T.node h]; simp; omega), e2, T.kd, List.map_append]
theorem tr_good {A : List Int} : ∀ (f : Nat) (ts : List T) (k : Int), (∀ t ∈ ts, t.ok A) → k + sumn ts ≤ 15 → sumn ts < f → trRun A f (ts.map T.d) k = some true
  | f + 1, ts, k, ho, hk, hf => by
    rcases List.eq_nil_or_concat ts with e | ⟨us, t, e⟩
    · subst e; rfl
    · rw [List.concat_eq_append] at e
      subst e
      rw [sumn_append] at hk hf
      have h1 : sumn [t] = t.n := by simp [sumn]
      have h2 := t.n_kids
      rw [tr_step (ho t (by simp)) (by omega)]
      refine tr_good f _ _ (fun u hu => ?_) ?_ ?_
      · rcases List.mem_append.mp hu with hu | hu
        · exact ho u (by simp [hu])
        · exact T.kok (ho t (by simp)) u hu
      · rw [sumn_append]; omega
      · rw [sumn_append]; omega
theorem tr_big {A : List Int} : ∀ (f : Nat) (ts : List T) (k : Int), (∀ t ∈ ts, t.ok A) → k ≤ 15 → 15 < k + sumn ts → 17 ≤ f + k → trRun A f (ts.map T.d) k = some false
  | 0, ts, k, ho, h15, hk, hf => by omega
  | f + 1, ts, k, ho, h15, hk, hf => by
    rcases List.eq_nil_or_concat ts with e | ⟨us, t, e⟩
    · subst e
      have : sumn [] = 0 := rfl
      omega
    · rw [List.concat_eq_append] at e
      subst e
      by_cases c : 15 < k + 1
      · show (match ((us ++ [t]).map T.d).getLast? with | none => some true | some v => if 15 < k + 1 ∨ nodeOk A v = false then some false else trRun A f (((us ++ [t]).map T.d).dropLast ++ G.kids v) (k + 1)) = _
        have e1 : ((us ++ [t]).map T.d).getLast? = some t.d := by simp
        rw [e1]
        simp only
        rw [if_pos (.inl c)]
      · rw [sumn_append] at hk
        have h1 : sumn [t] = t.n := by simp [sumn]
        have h2 := t.n_kids
        rw [tr_step (ho t (by simp)) c]
        refine tr_big f _ _ (fun u hu => ?_) (by omega) ?_ (by omega)
        · rcases List.mem_append.mp hu with hu | hu
          · exact ho u (by simp [hu])
          · exact T.kok (ho t (by simp)) u hu
        · rw [sumn_append]; omega
inductive Bad (A : List Int) : D → Prop
  | here {v : D} : nodeOk A v = false → Bad A v
  | kid {v u : D} : u ∈ kids v → Bad A u → Bad A v
theorem tr_bad {A : List Int} : ∀ (f : Nat) (stk : List D) (k : Int), (∃ v ∈ stk, Bad A v) → k ≤ 15 → 17 ≤ f + k → trRun A f stk k = some false
  | 0, stk, k, hb, h15, hf => by omega
  | f + 1, stk, k, hb, h15, hf => by
    obtain ⟨v, hv, bv⟩ := hb
    cases e : stk.getLast? with
    | none =>
      have e0 : stk = [] := List.getLast?_eq_none_iff.mp e
      subst e0
      cases hv
    | some x =>
      unfold trRun
      rw [e]
      simp only
      by_cases c : 15 < k + 1 ∨ nodeOk A x = false
      · rw [if_pos c]
      · rw [if_neg c]
        have es := last_some e
        refine tr_bad f _ _ ?_ (by omega) (by omega)
        rw [es] at hv
        rcases List.mem_append.mp hv with hv | hv
        · exact ⟨v, List.mem_append_left _ hv, bv⟩
        · rw [List.mem_singleton] at hv
          subst hv
          cases bv with
          | here h => exact absurd (.inr h) c
          | kid h1 h2 => exact ⟨_, List.mem_append_right _ h1, h2⟩
theorem is_tree_good {A : List Int} {t : T} (S : Sto) (h : t.ok A) (hn : t.n ≤ 15) : d_is_tree isNodeF [.d (dA A), .d t.d] S = some (.val (.bool true), S) :=
  is_tree_run A t.d S true t.dk (tr_good 60 [t] 0 (fun u hu => by rw [List.mem_singleton.mp hu]; exact h) (by simp [sumn]; omega) (by simp [sumn]; omega))
theorem is_tree_big {A : List Int} {t : T} (S : Sto) (h : t.ok A) (hn : 15 < t.n) : d_is_tree isNodeF [.d (dA A), .d t.d] S = some (.val (.bool false), S) :=
  is_tree_run A t.d S false t.dk (tr_big 60 [t] 0 (fun u hu => by rw [List.mem_singleton.mp hu]; exact h) (by omega) (by simp [sumn]; omega) (by omega))
theorem is_tree_bad {A : List Int} {v : D} (S : Sto) (hv : dk v = true) (h : Bad A v) : d_is_tree isNodeF [.d (dA A), .d v] S = some (.val (.bool false), S) :=
  is_tree_run A v S false hv (tr_bad 60 [v] 0 ⟨v, List.mem_singleton_self v, h⟩ (by omega) (by omega))
end G
set_option linter.all false
set_option autoImplicit false
set_option maxRecDepth 100000
set_option maxHeartbeats 2000000
namespace G
open PySem L2
abbrev Cell (ns : List Int) (c k : Int) : List D := [.list (ns.map .int), .int c, .int k]
def first (ns : List Int) (k : Int) : Int := if k < (ns.length : Int) then (if ns.getD k.toNat 0 < 0 then -(ns.getD k.toNat 0) else ns.getD k.toNat 0) else 7 + k
def mix (c k : Int) : Int := if c < 1000000000000000000 then ((c * 48271 + k * 69621 + 11) % 2147483647 * 16807 + 13) % 2147483647 * 65537 + (c * 48271 + k * 69621 + 11) % 2147483647 else c
def nxt (ns : List Int) (c k : Int) : Int × Int := if c = 0 then (mix (first ns k) k, k + 1) else (c, k)
theorem a30 {α : Type} (x y z : α) : atI [x, y, z] 0 = some x := rfl
theorem a31 {α : Type} (x y z : α) : atI [x, y, z] 1 = some y := rfl
theorem a32 {α : Type} (x y z : α) : atI [x, y, z] 2 = some z := rfl
theorem i31 : ixN 3 1 = some 1 := rfl
theorem i32 : ixN 3 2 = some 2 := rfl
theorem take_set {α : Type} (S : List α) (n : Nat) (x : α) : (S.set n x).take S.length = S.set n x := by
  have : S.length = (S.set n x).length := (List.length_set ..).symm
  rw [this, List.take_length]
theorem next_eq (ns : List Int) (c k m : Int) (n : Nat) (S : Sto) (hS : S[n]? = some (some (Cell ns c k))) (hk : 0 ≤ k) (hm : 0 < m) (hm2 : m < 1073741824) :
    d__law_next [.loc n, .d (.int m)] S = some (.val (.int ((nxt ns c k).1 % m)), S.set n (some (Cell ns ((nxt ns c k).1 / m) (nxt ns c k).2))) := by
  have hn : ∀ x, (S.set n x)[n]? = some x := fun x => List.getElem?_set_self (List.getElem?_eq_some_iff.mp hS).1
  by_cases c0 : c = 0
  · subst c0
    by_cases ck : k < (ns.length : Int)
    · have e1 : atI (ns.map PyData.int) k = some (.int (ns.getD k.toNat 0)) := by
        rw [atI_n hk (by rw [List.length_map]; exact ck), List.getElem?_map, List.getD_eq_getElem?_getD, List.getElem?_eq_getElem (by omega)]
        rfl
      have ef : first ns k = if ns.getD k.toNat 0 < 0 then -(ns.getD k.toNat 0) else ns.getD k.toNat 0 := by unfold first; rw [if_pos ck]
      obtain ⟨a, ha⟩ : ∃ a, ns.getD k.toNat 0 = a := ⟨_, rfl⟩
      rw [ha] at e1 ef
      obtain ⟨f, hf⟩ : ∃ f, (if a < 0 then -a else a) = f := ⟨_, rfl⟩
      rw [hf] at ef
      by_cases cm : f < 1000000000000000000
      · simp [d__law_next, mDef, mSeq, mRet, mRetL, mRetV, mRetN, mIfS, mAsg, mNew, mAug, mSub, mApp, mExtN, mExtT, mPop, mDrop, mNext, mNever, mOp, mUn, mVar, mC, mQVar, mLVar, mIxV, mQE, mLE, mEN, asL, asQ, mTup, mLst, mDs, datas, mA0, mA1, mAV, mCat, mTB, mTru, tru, mTruQ, mAnd, mOr, mNot, mAndV, mOrV, mNotV, mIf, mChain, mLen, mAll, mAny, mBools, mSum, mList, mTuple, mB, fAbs, fInt, fMax2, fMin2, mIsi, fIsi, tyN, fAdd, fTT, fSub, fMulX, fMul, fRep, fII, fI0, bMul, bDiv, bMod, bPow, fDiv, fMod, fPow, fLt, fLe, fGt, fGe, fIs, fIsNot, fIsB, fNotB, fIsN, fNotN, isN, fNeg, fIx, mCall, mCallN, rtD, rtN, mgN, mg0, mg1, mgT, mO0, mO1, mSlT, mSlL, mYes, mR1, mR2, mNotT, mNotTQ, mInQ, mCatV, mCatX, mCatY, mSlV, Option.bind, nxt, mix, ef, cm, hf, hS, hn, a30, a31, a32, i31, i32, fEq, sh_int, ev_int, ck, e1, hm, hm2, Option.or, take_set, Cell]
      · simp [d__law_next, mDef, mSeq, mRet, mRetL, mRetV, mRetN, mIfS, mAsg, mNew, mAug, mSub, mApp, mExtN, mExtT, mPop, mDrop, mNext, mNever, mOp, mUn, mVar, mC, mQVar, mLVar, mIxV, mQE, mLE, mEN, asL, asQ, mTup, mLst, mDs, datas, mA0, mA1, mAV, mCat, mTB, mTru, tru, mTruQ, mAnd, mOr, mNot, mAndV, mOrV, mNotV, mIf, mChain, mLen, mAll, mAny, mBools, mSum, mList, mTuple, mB, fAbs, fInt, fMax2, fMin2, mIsi, fIsi, tyN, fAdd, fTT, fSub, fMulX, fMul, fRep, fII, fI0, bMul, bDiv, bMod, bPow, fDiv, fMod, fPow, fLt, fLe, fGt, fGe, fIs, fIsNot, fIsB, fNotB, fIsN, fNotN, isN, fNeg, fIx, mCall, mCallN, rtD, rtN, mgN, mg0, mg1, mgT, mO0, mO1, mSlT, mSlL, mYes, mR1, mR2, mNotT, mNotTQ, mInQ, mCatV, mCatX, mCatY, mSlV, Option.bind, nxt, mix, ef, cm, hf, hS, hn, a30, a31, a32, i31, i32, fEq, sh_int, ev_int, ck, e1, hm, hm2, Option.or, take_set, Cell]
    · have ef : first ns k = 7 + k := by unfold first; rw [if_neg ck]
      by_cases cm : 7 + k < 1000000000000000000
      · simp [d__law_next, mDef, mSeq, mRet, mRetL, mRetV, mRetN, mIfS, mAsg, mNew, mAug, mSub, mApp, mExtN, mExtT, mPop, mDrop, mNext, mNever, mOp, mUn, mVar, mC, mQVar, mLVar, mIxV, mQE, mLE, mEN, asL, asQ, mTup, mLst, mDs, datas, mA0, mA1, mAV, mCat, mTB, mTru, tru, mTruQ, mAnd, mOr, mNot, mAndV, mOrV, mNotV, mIf, mChain, mLen, mAll, mAny, mBools, mSum, mList, mTuple, mB, fAbs, fInt, fMax2, fMin2, mIsi, fIsi, tyN, fAdd, fTT, fSub, fMulX, fMul, fRep, fII, fI0, bMul, bDiv, bMod, bPow, fDiv, fMod, fPow, fLt, fLe, fGt, fGe, fIs, fIsNot, fIsB, fNotB, fIsN, fNotN, isN, fNeg, fIx, mCall, mCallN, rtD, rtN, mgN, mg0, mg1, mgT, mO0, mO1, mSlT, mSlL, mYes, mR1, mR2, mNotT, mNotTQ, mInQ, mCatV, mCatX, mCatY, mSlV, Option.bind, nxt, mix, ef, cm, hS, hn, a30, a31, a32, i31, i32, fEq, sh_int, ev_int, ck, hm, hm2, Option.or, take_set, Cell]
      · simp [d__law_next, mDef, mSeq, mRet, mRetL, mRetV, mRetN, mIfS, mAsg, mNew, mAug, mSub, mApp, mExtN, mExtT, mPop, mDrop, mNext, mNever, mOp, mUn, mVar, mC, mQVar, mLVar, mIxV, mQE, mLE, mEN, asL, asQ, mTup, mLst, mDs, datas, mA0, mA1, mAV, mCat, mTB, mTru, tru, mTruQ, mAnd, mOr, mNot, mAndV, mOrV, mNotV, mIf, mChain, mLen, mAll, mAny, mBools, mSum, mList, mTuple, mB, fAbs, fInt, fMax2, fMin2, mIsi, fIsi, tyN, fAdd, fTT, fSub, fMulX, fMul, fRep, fII, fI0, bMul, bDiv, bMod, bPow, fDiv, fMod, fPow, fLt, fLe, fGt, fGe, fIs, fIsNot, fIsB, fNotB, fIsN, fNotN, isN, fNeg, fIx, mCall, mCallN, rtD, rtN, mgN, mg0, mg1, mgT, mO0, mO1, mSlT, mSlL, mYes, mR1, mR2, mNotT, mNotTQ, mInQ, mCatV, mCatX, mCatY, mSlV, Option.bind, nxt, mix, ef, cm, hS, hn, a30, a31, a32, i31, i32, fEq, sh_int, ev_int, ck, hm, hm2, Option.or, take_set, Cell]
  · simp [d__law_next, mDef, mSeq, mRet, mRetL, mRetV, mRetN, mIfS, mAsg, mNew, mAug, mSub, mApp, mExtN, mExtT, mPop, mDrop, mNext, mNever, mOp, mUn, mVar, mC, mQVar, mLVar, mIxV, mQE, mLE, mEN, asL, asQ, mTup, mLst, mDs, datas, mA0, mA1, mAV, mCat, mTB, mTru, tru, mTruQ, mAnd, mOr, mNot, mAndV, mOrV, mNotV, mIf, mChain, mLen, mAll, mAny, mBools, mSum, mList, mTuple, mB, fAbs, fInt, fMax2, fMin2, mIsi, fIsi, tyN, fAdd, fTT, fSub, fMulX, fMul, fRep, fII, fI0, bMul, bDiv, bMod, bPow, fDiv, fMod, fPow, fLt, fLe, fGt, fGe, fIs, fIsNot, fIsB, fNotB, fIsN, fNotN, isN, fNeg, fIx, mCall, mCallN, rtD, rtN, mgN, mg0, mg1, mgT, mO0, mO1, mSlT, mSlL, mYes, mR1, mR2, mNotT, mNotTQ, mInQ, mCatV, mCatX, mCatY, mSlV, Option.bind, nxt, c0, hS, hn, a30, a31, a32, i31, i32, fEq, sh_int, ev_int, hm, hm2, Option.or, take_set, Cell]
/-- a stream stands at n -/
structure Sg (n : Nat) (S : Sto) : Prop where
  is : ∃ ns c k, S[n]? = some (some (Cell ns c k)) ∧ 0 ≤ c ∧ 0 ≤ k
/-- .. and has gone on -/
structure Ad (n : Nat) (S S' : Sto) : Prop where
  is : ∃ ns c k, S' = S.set n (some (Cell ns c k)) ∧ 0 ≤ c ∧ 0 ≤ k ∧ n < S.length
theorem Sg.lt {n : Nat} {S : Sto} (h : Sg n S) : n < S.length := by obtain ⟨_, _, _, e, _⟩ := h.is; exact (List.getElem?_eq_some_iff.mp e).1
theorem Ad.sg {n : Nat} {S S' : Sto} (h : Ad n S S') : Sg n S' := by
  obtain ⟨ns, c, k, e, h1, h2, h3⟩ := h.is
  exact ⟨⟨ns, c, k, by rw [e, List.getElem?_set_self h3], h1, h2⟩⟩
theorem Ad.len {n : Nat} {S S' : Sto} (h : Ad n S S') : S'.length = S.length := by
  obtain ⟨ns, c, k, e, h1, h2, h3⟩ := h.is
  rw [e, List.length_set]
theorem Ad.ne {n j : Nat} {S S' : Sto} (h : Ad n S S') (hj : j ≠ n) : S'[j]? = S[j]? := by
  obtain ⟨ns, c, k, e, h1, h2, h3⟩ := h.is
  rw [e, List.getElem?_set_ne (Ne.symm hj)]
theorem Ad.trans {n : Nat} {S S' S'' : Sto} (h : Ad n S S') (g : Ad n S' S'') : Ad n S S'' := by
  obtain ⟨ns, c, k, e, h1, h2, h3⟩ := h.is
  obtain ⟨ns', c', k', e', h1', h2', h3'⟩ := g.is
  exact ⟨⟨ns', c', k', by rw [e', e, List.set_set], h1', h2', h3⟩⟩
theorem Ad.refl {n : Nat} {S : Sto} (h : Sg n S) : Ad n S S := by
  obtain ⟨ns, c, k, e, h1, h2⟩ := h.is
  have hl := h.lt
  refine ⟨⟨ns, c, k, ?_, h1, h2, hl⟩⟩
  rw [List.getElem?_eq_getElem hl] at e
  rw [← Option.some.inj e, List.set_getElem_self]
theorem Ad.take {n : Nat} {S S' : Sto} (h : Ad n S S') : S'.take S.length = S' := by rw [← h.len, List.take_length]
theorem first_nn (ns : List Int) (k : Int) (hk : 0 ≤ k) : 0 ≤ first ns k := by
  unfold first
  split
  · split <;> omega
  · omega
theorem mix_nn (c k : Int) (hc : 0 ≤ c) : 0 ≤ mix c k := by
  unfold mix
  split
  · have a1 := Int.emod_nonneg (c * 48271 + k * 69621 + 11) (show (2147483647 : Int) ≠ 0 by decide)
    have a2 := Int.emod_nonneg ((c * 48271 + k * 69621 + 11) % 2147483647 * 16807 + 13) (show (2147483647 : Int) ≠ 0 by decide)
    omega
  · exact hc
theorem next_sp (m : Int) (n : Nat) (S : Sto) (h : Sg n S) (hm : 0 < m) (hm2 : m < 1073741824) : ∃ g S', 0 ≤ g ∧ g < m ∧ Ad n S S' ∧ d__law_next [.loc n, .d (.int m)] S = some (.val (.int g), S') := by
  obtain ⟨ns, c, k, e, h1, h2⟩ := h.is
  have hx : 0 ≤ (nxt ns c k).1 ∧ 0 ≤ (nxt ns c k).2 := by
    unfold nxt
    split
    · exact ⟨mix_nn _ _ (first_nn ns k h2), by show 0 ≤ k + 1; omega⟩
    · exact ⟨h1, h2⟩
  exact ⟨_, _, Int.emod_nonneg _ (by omega), Int.emod_lt_of_pos _ hm, ⟨⟨ns, _, _, rfl, Int.ediv_nonneg hx.1 (by omega), hx.2, h.lt⟩⟩, next_eq ns c k m n S e h2 hm hm2⟩
end G
set_option linter.all false
set_option autoImplicit false
set_option maxRecDepth 100000
set_option maxHeartbeats 2000000
namespace G
open PySem L2
def ars : List (List Int) := [[0, 2], [0, 0, 2], [0, 1, 2], [0, 1], [1, 0, 0], [2, 0], [0, 0, 1, 2], [2, 1, 0]]
structure Ar (A : List Int) : Prop where
  leaf : ∃ i : Nat, A[i]? = some 0
  inner : ∃ (i : Nat) (a : Int), A[i]? = some a ∧ 0 < a
  le : ∀ a ∈ A, 0 ≤ a ∧ a ≤ 2
  len : 1 ≤ A.length ∧ A.length ≤ 4
theorem ars_ar : ∀ A ∈ ars, Ar A := by
  intro A h
  simp only [ars, List.mem_cons, List.not_mem_nil, or_false] at h
  rcases h with rfl | rfl | rfl | rfl | rfl | rfl | rfl | rfl
  · exact ⟨⟨0, rfl⟩, ⟨1, 2, rfl, by decide⟩, by decide, by decide⟩
  · exact ⟨⟨0, rfl⟩, ⟨2, 2, rfl, by decide⟩, by decide, by decide⟩
  · exact ⟨⟨0, rfl⟩, ⟨1, 1, rfl, by decide⟩, by decide, by decide⟩
  · exact ⟨⟨0, rfl⟩, ⟨1, 1, rfl, by decide⟩, by decide, by decide⟩
  · exact ⟨⟨1, rfl⟩, ⟨0, 1, rfl, by decide⟩, by decide, by decide⟩
  · exact ⟨⟨1, rfl⟩, ⟨0, 2, rfl, by decide⟩, by decide, by decide⟩
  · exact ⟨⟨0, rfl⟩, ⟨2, 1, rfl, by decide⟩, by decide, by decide⟩
  · exact ⟨⟨2, rfl⟩, ⟨0, 2, rfl, by decide⟩, by decide, by decide⟩
theorem at_get {α : Type} {xs : List α} {g : Int} (h0 : 0 ≤ g) (h1 : g < xs.length) : ∃ x, x ∈ xs ∧ atI xs g = some x := by
  have hg : g.toNat < xs.length := by omega
  exact ⟨xs[g.toNat], List.getElem_mem hg, by rw [atI_n h0 h1, List.getElem?_eq_getElem hg]⟩
theorem arities_sp (n : Nat) (S : Sto) (h : Sg n S) : ∃ A S', Ar A ∧ Ad n S S' ∧ d__law_arities d__law_next [.loc n] S = some (.val (dA A), S') := by
  obtain ⟨g, S', g0, g1, ad, e⟩ := next_sp 8 n S h (by omega) (by omega)
  obtain ⟨v, hv, e2⟩ := at_get (xs := ars.map dA) g0 (by simpa [ars] using g1)
  obtain ⟨A, hA, rfl⟩ := List.mem_map.mp hv
  refine ⟨A, S', ars_ar A hA, ad, ?_⟩
  simp only [ars, dA, List.map_cons, List.map_nil] at e2
  simp [d__law_arities, mDef, mSeq, mRet, mRetL, mRetV, mRetN, mIfS, mAsg, mNew, mAug, mSub, mApp, mExtN, mExtT, mPop, mDrop, mNext, mNever, mOp, mUn, mVar, mC, mQVar, mLVar, mIxV, mQE, mLE, mEN, asL, asQ, mTup, mLst, mDs, datas, mA0, mA1, mAV, mCat, mTB, mTru, tru, mTruQ, mAnd, mOr, mNot, mAndV, mOrV, mNotV, mIf, mChain, mLen, mAll, mAny, mBools, mSum, mList, mTuple, mB, fAbs, fInt, fMax2, fMin2, mIsi, fIsi, tyN, fAdd, fTT, fSub, fMulX, fMul, fRep, fII, fI0, bMul, bDiv, bMod, bPow, fDiv, fMod, fPow, fLt, fLe, fGt, fGe, fIs, fIsNot, fIsB, fNotB, fIsN, fNotN, isN, fNeg, fIx, mCall, mCallN, rtD, rtN, mgN, mg0, mg1, mgT, mO0, mO1, mSlT, mSlL, mYes, mR1, mR2, mNotT, mNotTQ, mInQ, mCatV, mCatX, mCatY, mSlV, Option.bind, e, e2, ad.take]
/-! a stream gone on, and cells behind -/
structure AtX (n : Nat) (S0 X S : Sto) : Prop where
  is : ∃ ns c k, S = S0.set n (some (Cell ns c k)) ++ X ∧ 0 ≤ c ∧ 0 ≤ k ∧ n < S0.length
section
variable {n : Nat} {S0 X S S' : Sto}
theorem AtX.start (h : Sg n S) : AtX n S [] S := by
  obtain ⟨ns, c, k, e, h1, h2, h3⟩ := (Ad.refl h).is
  exact ⟨⟨ns, c, k, by rw [List.append_nil]; exact e, h1, h2, h3⟩⟩
theorem AtX.sg (h : AtX n S0 X S) : Sg n S := by
  obtain ⟨ns, c, k, e, h1, h2, h3⟩ := h.is
  refine ⟨⟨ns, c, k, ?_, h1, h2⟩⟩
  rw [e, List.getElem?_append_left (by rw [List.length_set]; exact h3), List.getElem?_set_self h3]
theorem AtX.next (h : AtX n S0 X S) (ad : Ad n S S') : AtX n S0 X S' := by
  obtain ⟨ns, c, k, e, h1, h2, h3⟩ := h.is
  obtain ⟨ns', c', k', e', h1', h2', h3'⟩ := ad.is
  refine ⟨⟨ns', c', k', ?_, h1', h2', h3⟩⟩
  rw [e', e, List.set_append_left _ _ (by rw [List.length_set]; exact h3), List.set_set]
theorem AtX.len (h : AtX n S0 X S) : S.length = S0.length + X.length := by
  obtain ⟨ns, c, k, e, h1, h2, h3⟩ := h.is
  rw [e, List.length_append, List.length_set]
theorem AtX.app (h : AtX n S0 X S) (c : Option (List D)) : AtX n S0 (X ++ [c]) (S ++ [c]) := by
  obtain ⟨ns, c', k, e, h1, h2, h3⟩ := h.is
  exact ⟨⟨ns, c', k, by rw [e, List.append_assoc], h1, h2, h3⟩⟩
theorem AtX.get (h : AtX n S0 X S) (i : Nat) : S[S0.length + i]? = X[i]? := by
  obtain ⟨ns, c', k, e, h1, h2, h3⟩ := h.is
  rw [e, List.getElem?_append_right (by rw [List.length_set]; omega), List.length_set]
  congr 1
  omega
theorem AtX.put (h : AtX n S0 X S) (i : Nat) (c : Option (List D)) : AtX n S0 (X.set i c) (S.set (S0.length + i) c) := by
  obtain ⟨ns, c', k, e, h1, h2, h3⟩ := h.is
  refine ⟨⟨ns, c', k, ?_, h1, h2, h3⟩⟩
  rw [e, List.set_append_right _ _ (by rw [List.length_set]; omega), List.length_set]
  congr 2
  omega
theorem AtX.fin (h : AtX n S0 X S) : Ad n S0 (S.take S0.length) := by
  obtain ⟨ns, c', k, e, h1, h2, h3⟩ := h.is
  refine ⟨⟨ns, c', k, ?_, h1, h2, h3⟩⟩
  rw [e, List.take_append_of_le_length (by rw [List.length_set]; omega), List.take_of_length_le (by rw [List.length_set]; omega)]
end
/-! tables -/
abbrev pD (p : List Nat) : D := .tuple (p.map fun (i : Nat) => PyData.int (i : Int))
abbrev En := Option (List Nat)
def enD : En → D
  | none => .none
  | some cs => pD cs
def rwD (r : List En) : D := .tuple (r.map enD)
def tbD (q : Nat) (rows : List (List En)) : D := .tuple [.int q, .tuple (rows.map rwD)]
def enOk (m : Nat) (a : Int) : En → Prop
  | none => True
  | some cs => (cs.length : Int) = a ∧ ∀ c ∈ cs, c < m
inductive RwOk (m : Nat) : List Int → List En → Prop
  | nil : RwOk m [] []
  | cons {a : Int} {e : En} {A : List Int} {r : List En} : enOk m a e → RwOk m A r → RwOk m (a :: A) (e :: r)
theorem RwOk.len {m : Nat} {A : List Int} {r : List En} (h : RwOk m A r) : r.length = A.length := by
  induction h with
  | nil => rfl
  | cons _ _ ih => simp [ih]
theorem drawn_sp (n m : Nat) (hm : 0 < m) (hm2 : m < 1000) (w1 w2 w4 w5 w6 w7 w8 : Option Sl) : ∀ (xs : List D) (S : Sto), Sg n S → ∃ (row : List Nat) (S' : Sto), row.length = xs.length ∧ (∀ x ∈ row, x < m) ∧ Ad n S S' ∧
    lcRun (mgN 8) mYes (mCall 2 d__law_next (mAV 0 (mAV 3 mA0))) xs [some (.loc n), w1, w2, some (.d (.int m)), w4, w5, w6, w7, w8] S = some (row.map fun (i : Nat) => PyData.int (i : Int), S')
  | [], S, h => ⟨[], S, rfl, (fun x hx => by cases hx), Ad.refl h, rfl⟩
  | x :: xs, S, h => by
    obtain ⟨g, S1, g0, g1, ad, e⟩ := next_sp m n S h (by omega) (by omega)
    obtain ⟨row, S2, hl, hr, ad2, e2⟩ := drawn_sp n m hm hm2 w1 w2 w4 w5 w6 w7 w8 xs S1 ad.sg
    refine ⟨g.toNat :: row, S2, by simp [hl], fun y hy => ?_, ad.trans ad2, ?_⟩
    · rcases List.mem_cons.mp hy with rfl | hy
      · omega
      · exact hr y hy
    · simp [lcRun, mgN, mYes, mCall, mAV, mA0, e, e2, rtD, show ((g.toNat : Nat) : Int) = g by omega]
abbrev tbIn : MS := mIfS (mTB (mOp fEq (mCall 2 d__law_next (mAV 0 (mA1 (mC (.int 3)) mA0))) (mC (.int 0)))) (mDrop (mApp 6 (mC .none))) (mDrop (mApp 6 (mTuple (mLc (mR1 (mVar 7)) (mgN 8) mYes (mCall 2 d__law_next (mAV 0 (mAV 3 mA0))) [8]))))
theorem last_get {X : Sto} {c : Option (List D)} : (X ++ [c])[X.length]? = some c := by simp
theorem last_set {X : Sto} {c d : Option (List D)} : (X ++ [c]).set X.length d = X ++ [d] := by simp
theorem tb_in (n m : Nat) (hm : 0 < m) (hm2 : m < 1000) (S0 X : Sto) (w1 w2 w4 w5 : Option Sl) : ∀ (As : List Int) (acc : List En) (S : Sto) (w7 w8 : Option Sl), AtX n S0 (X ++ [some (acc.map enD)]) S → (∀ a ∈ As, 0 ≤ a ∧ a ≤ 2) → acc.length + As.length ≤ 1000 →
    ∃ (r : List En) (w7' : Option Sl) (S' : Sto), RwOk m As r ∧ AtX n S0 (X ++ [some ((acc ++ r).map enD)]) S' ∧
      forRun (mgN 7) tbIn (As.map .int) [some (.loc n), w1, w2, some (.d (.int m)), w4, w5, some (.loc (S0.length + X.length)), w7, w8] S = some (.nx, [some (.loc n), w1, w2, some (.d (.int m)), w4, w5, some (.loc (S0.length + X.length)), w7', w8], S')
  | [], acc, S, w7, w8, h, ha, hl => ⟨[], w7, S, .nil, by rw [List.append_nil]; exact h, rfl⟩
  | a :: As, acc, S, w7, w8, h, ha, hl => by
    obtain ⟨g, S1, g0, g1, ad, e⟩ := next_sp 3 n S h.sg (by omega) (by omega)
    have h1 := h.next ad
    have eg : S1[S0.length + X.length]? = some (some (acc.map enD)) := by rw [h1.get, last_get]
    have eg0 : S[S0.length + X.length]? = some (some (acc.map enD)) := by rw [h.get, last_get]
    have ha1 := ha a List.mem_cons_self
    have hl1 : acc.length < 1000000 := by simp at hl; omega
    by_cases cg : g = 0
    · subst cg
      have h2 : AtX n S0 (X ++ [some ((acc ++ [none]).map enD)]) (S1.set (S0.length + X.length) (some (acc.map enD ++ [PyData.none]))) := by
        have := h1.put X.length (some (acc.map enD ++ [PyData.none]))
        rw [last_set] at this
        simpa [enD] using this
      obtain ⟨r, w7', S', hr, h3, e3⟩ := tb_in n m hm hm2 S0 X w1 w2 w4 w5 As (acc ++ [none]) _ (some (.d (.int a))) w8 h2 (fun b hb => ha b (List.mem_cons_of_mem _ hb)) (by simp at hl ⊢; omega)
      refine ⟨none :: r, w7', S', .cons trivial hr, by simpa using h3, ?_⟩
      rw [List.map_cons]
      unfold forRun
      simp [tbIn, mDef, mSeq, mRet, mRetL, mRetV, mRetN, mIfS, mAsg, mNew, mAug, mSub, mApp, mExtN, mExtT, mPop, mDrop, mNext, mNever, mOp, mUn, mVar, mC, mQVar, mLVar, mIxV, mQE, mLE, mEN, asL, asQ, mTup, mLst, mDs, datas, mA0, mA1, mAV, mCat, mTB, mTru, tru, mTruQ, mAnd, mOr, mNot, mAndV, mOrV, mNotV, mIf, mChain, mLen, mAll, mAny, mBools, mSum, mList, mTuple, mB, fAbs, fInt, fMax2, fMin2, mIsi, fIsi, tyN, fAdd, fTT, fSub, fMulX, fMul, fRep, fII, fI0, bMul, bDiv, bMod, bPow, fDiv, fMod, fPow, fLt, fLe, fGt, fGe, fIs, fIsNot, fIsB, fNotB, fIsN, fNotN, isN, fNeg, fIx, mCall, mCallN, rtD, rtN, mgN, mg0, mg1, mgT, mO0, mO1, mSlT, mSlL, mYes, mR1, mR2, mNotT, mNotTQ, mInQ, mCatV, mCatX, mCatY, mSlV, Option.bind, mApp, e, sh_int, ev_int, fEq, eg, hl1]
      exact e3
    · obtain ⟨row, S2, hrl, hrm, ad2, e2⟩ := drawn_sp n m hm hm2 w1 w2 w4 w5 (some (.loc (S0.length + X.length))) (some (.d (.int a))) none (rng 0 a.toNat) S1 ad.sg
      have h2 := h1.next ad2
      have eg2 : S2[S0.length + X.length]? = some (some (acc.map enD)) := by rw [h2.get, last_get]
      have h4 : AtX n S0 (X ++ [some ((acc ++ [some row]).map enD)]) (S2.set (S0.length + X.length) (some (acc.map enD ++ [pD row]))) := by
        have := h2.put X.length (some (acc.map enD ++ [pD row]))
        rw [last_set] at this
        simpa [enD] using this
      obtain ⟨r, w7', S', hr, h3, e3⟩ := tb_in n m hm hm2 S0 X w1 w2 w4 w5 As (acc ++ [some row]) _ (some (.d (.int a))) w8 h4 (fun b hb => ha b (List.mem_cons_of_mem _ hb)) (by simp at hl ⊢; omega)
      rw [rng_len] at hrl
      refine ⟨some row :: r, w7', S', .cons ⟨by rw [hrl]; omega, hrm⟩ hr, by simpa using h3, ?_⟩
      rw [List.map_cons]
      unfold forRun
      have hb : bRng a = true := by unfold bRng; exact decide_eq_true (by omega)
      simp [tbIn, mDef, mSeq, mRet, mRetL, mRetV, mRetN, mIfS, mAsg, mNew, mAug, mSub, mApp, mExtN, mExtT, mPop, mDrop, mNext, mNever, mOp, mUn, mVar, mC, mQVar, mLVar, mIxV, mQE, mLE, mEN, asL, asQ, mTup, mLst, mDs, datas, mA0, mA1, mAV, mCat, mTB, mTru, tru, mTruQ, mAnd, mOr, mNot, mAndV, mOrV, mNotV, mIf, mChain, mLen, mAll, mAny, mBools, mSum, mList, mTuple, mB, fAbs, fInt, fMax2, fMin2, mIsi, fIsi, tyN, fAdd, fTT, fSub, fMulX, fMul, fRep, fII, fI0, bMul, bDiv, bMod, bPow, fDiv, fMod, fPow, fLt, fLe, fGt, fGe, fIs, fIsNot, fIsB, fNotB, fIsN, fNotN, isN, fNeg, fIx, mCall, mCallN, rtD, rtN, mgN, mg0, mg1, mgT, mO0, mO1, mSlT, mSlL, mYes, mR1, mR2, mNotT, mNotTQ, mInQ, mCatV, mCatX, mCatY, mSlV, Option.bind, mApp, e, sh_int, ev_int, fEq, eg, eg0, eg2, hl1, cg, mLc, wipeR, hb, rng_len, e2, show a ≤ 1000000 by omega]
      exact e3
end G
set_option linter.all false
set_option autoImplicit false
set_option maxRecDepth 100000
set_option maxHeartbeats 2000000
namespace G
open PySem L2
def tbOk (A : List Int) (q : Nat) (rows : List (List En)) : Prop := q < rows.length ∧ rows.length ≤ 4 ∧ ∀ r ∈ rows, RwOk rows.length A r
abbrev tbOut : MS := mSeq (mNew 6 (mLst mA0)) (mSeq (mFor (mQE (mVar 1)) (mgN 7) tbIn) (mDrop (mApp 4 (mTuple (mQVar 6)))))
theorem tb_out (n m : Nat) (hm : 0 < m) (hm2 : m < 1000) (A : List Int) (hA : ∀ a ∈ A, 0 ≤ a ∧ a ≤ 2) (hAl : A.length ≤ 4) (S0 : Sto) (w2 : Option Sl) : ∀ (xs : List D) (acc : List (List En)) (X S : Sto) (w5 w6 w7 w8 : Option Sl), AtX n S0 (some (acc.map rwD) :: X) S → acc.length + xs.length ≤ 1000 →
    ∃ (rows : List (List En)) (X' : Sto) (w5' w6' w7' : Option Sl) (S' : Sto), rows.length = xs.length ∧ (∀ r ∈ rows, RwOk m A r) ∧ AtX n S0 (some ((acc ++ rows).map rwD) :: X') S' ∧
      forRun (mgN 5) tbOut xs [some (.loc n), some (.d (dA A)), w2, some (.d (.int m)), some (.loc S0.length), w5, w6, w7, w8] S = some (.nx, [some (.loc n), some (.d (dA A)), w2, some (.d (.int m)), some (.loc S0.length), w5', w6', w7', w8], S')
  | [], acc, X, S, w5, w6, w7, w8, h, hl => ⟨[], X, w5, w6, w7, S, rfl, (fun r hr => by cases hr), by rw [List.append_nil]; exact h, rfl⟩
  | x :: xs, acc, X, S, w5, w6, w7, w8, h, hl => by
    have hl1 : acc.length < 1000000 := by simp at hl; omega
    have h1 := h.app (some ([] : List D))
    obtain ⟨r, w7', S2, hr, h2, e2⟩ := tb_in n m hm hm2 S0 (some (acc.map rwD) :: X) (some (.d (dA A))) w2 (some (.loc S0.length)) (some (.d x)) A [] (S ++ [some []]) w7 w8 (by simpa using h1) hA (by simp; omega)
    have hlen : S.length = S0.length + (some (acc.map rwD) :: X).length := h.len
    rw [← hlen] at e2
    have eg6 : S2[S.length]? = some (some (r.map enD)) := by rw [hlen, h2.get, last_get]; rfl
    have eg4 : S2[S0.length]? = some (some (acc.map rwD)) := by have := h2.get 0; simpa using this
    have h3 : AtX n S0 (some ((acc ++ [r]).map rwD) :: (X ++ [some (r.map enD)])) (S2.set S0.length (some (acc.map rwD ++ [.tuple (r.map enD)]))) := by
      have := h2.put 0 (some (acc.map rwD ++ [.tuple (r.map enD)]))
      simpa [rwD] using this
    obtain ⟨rows, X', w5', w6', w7'', S', hrl, hrr, h4, e4⟩ := tb_out n m hm hm2 A hA hAl S0 w2 xs (acc ++ [r]) _ _ (some (.d x)) (some (.loc S.length)) w7' w8 h3 (by simp at hl ⊢; omega)
    refine ⟨r :: rows, X', w5', w6', w7'', S', by simp [hrl], fun y hy => ?_, by simpa using h4, ?_⟩
    · rcases List.mem_cons.mp hy with rfl | hy
      · exact hr
      · exact hrr y hy
    · unfold forRun
      simp only [tbIn] at e2
      simp [tbOut, mDef, mSeq, mRet, mRetL, mRetV, mRetN, mIfS, mAsg, mNew, mAug, mSub, mApp, mExtN, mExtT, mPop, mDrop, mNext, mNever, mOp, mUn, mVar, mC, mQVar, mLVar, mIxV, mQE, mLE, mEN, asL, asQ, mTup, mLst, mDs, datas, mA0, mA1, mAV, mCat, mTB, mTru, tru, mTruQ, mAnd, mOr, mNot, mAndV, mOrV, mNotV, mIf, mChain, mLen, mAll, mAny, mBools, mSum, mList, mTuple, mB, fAbs, fInt, fMax2, fMin2, mIsi, fIsi, tyN, fAdd, fTT, fSub, fMulX, fMul, fRep, fII, fI0, bMul, bDiv, bMod, bPow, fDiv, fMod, fPow, fLt, fLe, fGt, fGe, fIs, fIsNot, fIsB, fNotB, fIsN, fNotN, isN, fNeg, fIx, mCall, mCallN, rtD, rtN, mgN, mg0, mg1, mgT, mO0, mO1, mSlT, mSlL, mYes, mR1, mR2, mNotT, mNotTQ, mInQ, mCatV, mCatX, mCatY, mSlV, Option.bind, mApp, mFor, mDrop, e2, eg6, eg4, hl1]
      exact e4
theorem table_sp (n : Nat) (S : Sto) (A : List Int) (hA : Ar A) (h : Sg n S) : ∃ q rows S', tbOk A q rows ∧ Ad n S S' ∧ d__law_table d__law_next [.loc n, .d (dA A), .d (.int 4)] S = some (.val (tbD q rows), S') := by
  obtain ⟨g, S1, g0, g1, ad, e⟩ := next_sp 4 n S h (by omega) (by omega)
  have h1 := (AtX.start h).next ad
  have h2 := h1.app (some ([] : List D))
  have l1 := h1.len
  rw [List.length_nil, Nat.add_zero] at l1
  obtain ⟨rows, X', w5, w6, w7, S2, hrl, hrr, h3, e3⟩ := tb_out n (1 + g).toNat (by omega) (by omega) A hA.le hA.len.2 S (some (.d (.int 4))) (rng 0 (1 + g).toNat) [] [] (S1 ++ [some []]) none none none none (by simpa using h2) (by rw [rng_len]; simp; omega)
  rw [rng_len] at hrl
  rw [show (((1 + g).toNat : Nat) : Int) = 1 + g by omega, ← l1] at e3
  obtain ⟨g2, S3, k0, k1, ad3, e4⟩ := next_sp (1 + g) n S2 h3.sg (by omega) (by omega)
  have h4 := h3.next ad3
  have eg : S3[S1.length]? = some (some (rows.map rwD)) := by have := h4.get 0; rw [l1]; simpa using this
  refine ⟨g2.toNat, rows, S3.take S.length, ⟨by omega, by omega, by rw [hrl]; exact hrr⟩, h4.fin, ?_⟩
  have hb : bRng (1 + g) = true := by unfold bRng; exact decide_eq_true (by omega)
  simp only [tbOut, tbIn] at e3
  simp [d__law_table, mDef, mSeq, mRet, mRetL, mRetV, mRetN, mIfS, mAsg, mNew, mAug, mSub, mApp, mExtN, mExtT, mPop, mDrop, mNext, mNever, mOp, mUn, mVar, mC, mQVar, mLVar, mIxV, mQE, mLE, mEN, asL, asQ, mTup, mLst, mDs, datas, mA0, mA1, mAV, mCat, mTB, mTru, tru, mTruQ, mAnd, mOr, mNot, mAndV, mOrV, mNotV, mIf, mChain, mLen, mAll, mAny, mBools, mSum, mList, mTuple, mB, fAbs, fInt, fMax2, fMin2, mIsi, fIsi, tyN, fAdd, fTT, fSub, fMulX, fMul, fRep, fII, fI0, bMul, bDiv, bMod, bPow, fDiv, fMod, fPow, fLt, fLe, fGt, fGe, fIs, fIsNot, fIsB, fNotB, fIsN, fNotN, isN, fNeg, fIx, mCall, mCallN, rtD, rtN, mgN, mg0, mg1, mgT, mO0, mO1, mSlT, mSlL, mYes, mR1, mR2, mNotT, mNotTQ, mInQ, mCatV, mCatX, mCatY, mSlV, Option.bind, mFor, e, hb, e3, e4, eg, tbD, show ((g2.toNat : Nat) : Int) = g2 by omega]
end G
set_option linter.all false
set_option autoImplicit false
set_option maxRecDepth 100000
set_option maxHeartbeats 2000000
namespace G
open PySem L2
def symp (A : List Int) (q : Int → Bool) (d : D) : Bool := match d with
  | .int i => q (A.getD i.toNat 0)
  | _ => false
def syms (A : List Int) (q : Int → Bool) : List D := (rng 0 A.length).filter (symp A q)
theorem syms_mem {A : List Int} {q : Int → Bool} {v : D} : v ∈ syms A q ↔ ∃ i : Nat, v = .int i ∧ ∃ a, A[i]? = some a ∧ q a = true := by
  unfold syms rng
  rw [List.mem_filter, List.mem_map]
  constructor
  · rintro ⟨⟨i, hi, rfl⟩, h⟩
    rw [List.mem_range] at hi
    have h : q (A.getD ((0 + (i : Int))).toNat 0) = true := h
    rw [Int.zero_add, Int.toNat_natCast, List.getD_eq_getElem?_getD, List.getElem?_eq_getElem hi] at h
    exact ⟨i, by rw [Int.zero_add], A[i], List.getElem?_eq_getElem hi, h⟩
  · rintro ⟨i, rfl, a, e, h⟩
    have hi := (List.getElem?_eq_some_iff.mp e).1
    refine ⟨⟨i, List.mem_range.mpr hi, by rw [Int.zero_add]⟩, ?_⟩
    show q (A.getD ((i : Int)).toNat 0) = true
    rw [Int.toNat_natCast, List.getD_eq_getElem?_getD, e]
    exact h
theorem rng_mem {n : Nat} {v : D} (h : v ∈ rng 0 n) : ∃ i : Nat, v = .int i ∧ i < n := by
  unfold rng at h
  rw [List.mem_map] at h
  obtain ⟨i, hi, rfl⟩ := h
  exact ⟨i, by rw [Int.zero_add], List.mem_range.mp hi⟩
theorem syms_len {A : List Int} {q : Int → Bool} : (syms A q).length ≤ A.length := by
  unfold syms
  exact Nat.le_trans (List.length_filter_le ..) (by rw [rng_len]; exact Nat.le_refl _)
theorem at_A {A : List Int} {i : Nat} {a : Int} (e : A[i]? = some a) : atI (A.map PyData.int) (i : Int) = some (.int a) := by
  have hi := (List.getElem?_eq_some_iff.mp e).1
  rw [atI_n (by omega) (by rw [List.length_map]; omega), Int.toNat_natCast, List.getElem?_map, e]
  rfl
theorem syms_lc {q : Int → Bool} {mt : MT} (A : List Int) (S : Sto) (w0 w2 w3 w5 w6 w7 w8 : Option Sl)
    (ht : ∀ (i : Nat) (a : Int), A[i]? = some a → mt [w0, some (.d (dA A)), w2, w3, some (.d (.int i)), w5, w6, w7, w8] S = some (q a, S)) :
    lcRun (mgN 4) mt (mVar 4) (rng 0 A.length) [w0, some (.d (dA A)), w2, w3, none, w5, w6, w7, w8] S = some (syms A q, S) := by
  have := lc_filter (mg := mgN 4) (mt := mt) (me := mVar 4) (ρ := [w0, some (.d (dA A)), w2, w3, none, w5, w6, w7, w8]) (S := S) (fun x => x) (symp A q) (fun x => [w0, some (.d (dA A)), w2, w3, some (.d x), w5, w6, w7, w8]) (xs := rng 0 A.length)
    (fun x _ => by simp [mgN]) (fun x hx => by
      obtain ⟨i, rfl, hi⟩ := rng_mem hx
      rw [ht i _ (List.getElem?_eq_getElem hi)]
      simp [symp, List.getElem?_eq_getElem hi]) (fun x _ => by simp [mVar])
  rw [this]
  simp [syms]
def q0 (a : Int) : Bool := decide (a = 0)
def q1 (a : Int) : Bool := decide (0 < a)
abbrev lfB : MS := mDrop (mApp 6 (mTup (mA1 (mIxV 3 (mCall 2 d__law_next (mAV 0 (mA1 (mLen (mQVar 3)) mA0)))) mA0)))
theorem sumn_1 (t : T) : sumn [t] = t.n := by simp [sumn]
theorem lf_for (n : Nat) {A : List Int} (hA : Ar A) (S0 : Sto) (w2 w4 w5 w8 : Option Sl) : ∀ (xs : List D) (ts : List T) (S : Sto) (w7 : Option Sl), AtX n S0 [some (ts.map T.d)] S → (∀ t ∈ ts, t.ok A) → sumn ts = ts.length → ts.length + xs.length ≤ 1000 →
    ∃ (ts' : List T) (w7' : Option Sl) (S' : Sto), (∀ t ∈ ts', t.ok A) ∧ sumn ts' = ts'.length ∧ ts'.length = ts.length + xs.length ∧ AtX n S0 [some (ts'.map T.d)] S' ∧
      forRun (mgN 7) lfB xs [some (.loc n), some (.d (dA A)), w2, some (.d (.list (syms A q0))), w4, w5, some (.loc S0.length), w7, w8] S = some (.nx, [some (.loc n), some (.d (dA A)), w2, some (.d (.list (syms A q0))), w4, w5, some (.loc S0.length), w7', w8], S')
  | [], ts, S, w7, h, ho, hs, hl => ⟨ts, w7, S, ho, hs, rfl, h, rfl⟩
  | x :: xs, ts, S, w7, h, ho, hs, hl => by
    have hl' := hA.len
    have l1 := syms_len (A := A) (q := q0)
    have l0 : 0 < (syms A q0).length := by
      obtain ⟨i, hi⟩ := hA.leaf
      exact List.length_pos_iff.mpr fun z => by
        have : PyData.int i ∈ syms A q0 := syms_mem.mpr ⟨i, rfl, 0, hi, rfl⟩
        rw [z] at this; cases this
    obtain ⟨g, S1, g0, g1, ad, e⟩ := next_sp (syms A q0).length n S h.sg (by omega) (by omega)
    obtain ⟨v, hv, e2⟩ := at_get g0 g1
    obtain ⟨s, rfl, a, ea, hq⟩ := syms_mem.mp hv
    have : a = 0 := of_decide_eq_true hq
    subst this
    have h1 := h.next ad
    have eg0 : S[S0.length]? = some (some (ts.map T.d)) := by have := h.get 0; simpa using this
    have eg : S1[S0.length]? = some (some (ts.map T.d)) := by have := h1.get 0; simpa using this
    have h2 : AtX n S0 [some ((ts ++ [T.l s]).map T.d)] (S1.set S0.length (some (ts.map T.d ++ [.tuple [.int s]]))) := by
      have := h1.put 0 (some (ts.map T.d ++ [.tuple [.int s]]))
      simpa [T.d] using this
    have hl1 : ts.length < 1000000 := by simp at hl; omega
    obtain ⟨ts', w7', S', a1, a2, a3, a4, a5⟩ := lf_for n hA S0 w2 w4 w5 w8 xs (ts ++ [T.l s]) _ (some (.d x)) h2 (fun t ht => by
      rcases List.mem_append.mp ht with ht | ht
      · exact ho t ht
      · rw [List.mem_singleton.mp ht]; exact ea) (by rw [sumn_append, hs, sumn_1]; simp [T.n]) (by simp at hl ⊢; omega)
    refine ⟨ts', w7', S', a1, a2, by rw [a3]; simp; omega, a4, ?_⟩
    unfold forRun
    simp [lfB, mDef, mSeq, mRet, mRetL, mRetV, mRetN, mIfS, mAsg, mNew, mAug, mSub, mApp, mExtN, mExtT, mPop, mDrop, mNext, mNever, mOp, mUn, mVar, mC, mQVar, mLVar, mIxV, mQE, mLE, mEN, asL, asQ, mTup, mLst, mDs, datas, mA0, mA1, mAV, mCat, mTB, mTru, tru, mTruQ, mAnd, mOr, mNot, mAndV, mOrV, mNotV, mIf, mChain, mLen, mAll, mAny, mBools, mSum, mList, mTuple, mB, fAbs, fInt, fMax2, fMin2, mIsi, fIsi, tyN, fAdd, fTT, fSub, fMulX, fMul, fRep, fII, fI0, bMul, bDiv, bMod, bPow, fDiv, fMod, fPow, fLt, fLe, fGt, fGe, fIs, fIsNot, fIsB, fNotB, fIsN, fNotN, isN, fNeg, fIx, mCall, mCallN, rtD, rtN, mgN, mg0, mg1, mgT, mO0, mO1, mSlT, mSlL, mYes, mR1, mR2, mNotT, mNotTQ, mInQ, mCatV, mCatX, mCatY, mSlV, Option.bind, mApp, e, e2, eg0, eg, hl1]
    exact a5
theorem split2 {α : Type} {xs : List α} {i : Nat} (h : i + 1 < xs.length) : ∃ pre x y post, xs = pre ++ x :: y :: post ∧ pre.length = i := by
  refine ⟨xs.take i, xs[i], xs[i + 1], xs.drop (i + 2), ?_, by rw [List.length_take]; omega⟩
  rw [← List.drop_eq_getElem_cons h, ← List.drop_eq_getElem_cons (by omega), List.take_append_drop]
theorem split1 {α : Type} {xs : List α} {i : Nat} (h : i < xs.length) : ∃ pre x post, xs = pre ++ x :: post ∧ pre.length = i := by
  refine ⟨xs.take i, xs[i], xs.drop (i + 1), ?_, by rw [List.length_take]; omega⟩
  rw [← List.drop_eq_getElem_cons h, List.take_append_drop]
theorem at_mid {α : Type} {pre post : List α} {x : α} : atI (pre ++ x :: post) (pre.length : Int) = some x := by
  rw [atI_n (by omega) (by simp; omega), Int.toNat_natCast]
  simp
theorem at_mid1 {α : Type} {pre post : List α} {x y : α} : atI (pre ++ x :: y :: post) ((pre.length : Int) + 1) = some y := by
  have e : (pre.length : Int) + 1 = ((pre ++ [x]).length : Int) := by simp
  have e2 : pre ++ x :: y :: post = (pre ++ [x]) ++ y :: post := by simp
  rw [e, e2, at_mid]
theorem cut_pre {α : Type} {pre post : List α} : cut (pre ++ post) none (some (pre.length : Int)) = pre := by rw [cut_to, List.take_left]
theorem cut_post2 {α : Type} {pre post : List α} {x y : α} : cut (pre ++ x :: y :: post) (some ((pre.length : Int) + 2)) none = post := by
  have e : (pre.length : Int) + 2 = ((pre.length + 2 : Nat) : Int) := by omega
  rw [e, cut_from, List.drop_append]
  simp
theorem ixN_mid {α : Type} {pre post : List α} {x : α} : ixN (pre ++ x :: post).length (pre.length : Int) = some pre.length := by
  unfold ixN
  rw [if_pos (by omega), if_pos (by simp; omega), Int.toNat_natCast]
theorem set_mid {α : Type} {pre post : List α} {x y : α} : (pre ++ x :: post).set pre.length y = pre ++ y :: post := by simp
end G
set_option linter.all false
set_option autoImplicit false
set_option maxRecDepth 100000
set_option maxHeartbeats 2000000
namespace G
open PySem L2
abbrev ndB : MS := (mSeq (mAsg (mIxV 5 (mCall 2 d__law_next (mAV 0 (mA1 (mLen (mQVar 5)) mA0)))) (mgN 4))
  (mSeq (mIfS (mAnd (mTB (mOp fEq (mIxV 1 (mVar 4)) (mC (.int 2)))) (mTB (mOp fGt (mLen (mQVar 6)) (mC (.int 1))))) (mSeq (mAsg (mCall 2 d__law_next (mAV 0 (mA1 (mOp fSub (mLen (mQVar 6)) (mC (.int 1))) mA0))) (mgN 8))
  (mNew 6 (mCat (mCat (mSlV 6 mO0 (mO1 (mVar 8))) (mLst (mA1 (mTup (mA1 (mVar 4) (mA1 (mIxV 6 (mVar 8)) (mA1 (mIxV 6 (mOp fAdd (mVar 8) (mC (.int 1)))) mA0)))) mA0))) (mSlV 6 (mO1 (mOp fAdd (mVar 8) (mC (.int 2)))) mO0)))) mNext)
  (mIfS (mTB (mOp fEq (mIxV 1 (mVar 4)) (mC (.int 1)))) (mSeq (mAsg (mCall 2 d__law_next (mAV 0 (mA1 (mLen (mQVar 6)) mA0))) (mgN 8))
  (mSub 6 (mVar 8) (mTup (mA1 (mVar 4) (mA1 (mIxV 6 (mVar 8)) mA0))))) mNext)))
theorem nd_step (n : Nat) {A : List Int} (hA : Ar A) (S0 : Sto) (w2 w3 : Option Sl) (ts : List T) (i : Nat) (X S : Sto) (w4 w7 w8 : Option Sl) (h : AtX n S0 X S) (hX : X[i]? = some (some (ts.map T.d))) (ho : ∀ t ∈ ts, t.ok A) (h0 : 0 < ts.length) (hl : ts.length ≤ 1000) :
    ∃ (ts' : List T) (i' : Nat) (X' S' : Sto) (w4' w8' : Option Sl), (∀ t ∈ ts', t.ok A) ∧ 0 < ts'.length ∧ ts'.length ≤ ts.length ∧ sumn ts' ≤ sumn ts + 1 ∧ AtX n S0 X' S' ∧ X'[i']? = some (some (ts'.map T.d)) ∧
      ndB [some (.loc n), some (.d (dA A)), w2, w3, w4, some (.d (.list (syms A q1))), some (.loc (S0.length + i)), w7, w8] S = some (.nx, [some (.loc n), some (.d (dA A)), w2, w3, w4', some (.d (.list (syms A q1))), some (.loc (S0.length + i')), w7, w8'], S') := by
  have hl' := hA.len
  have l1 := syms_len (A := A) (q := q1)
  have l0 : 0 < (syms A q1).length := by
    obtain ⟨i, a, hi, ha⟩ := hA.inner
    exact List.length_pos_iff.mpr fun z => by
      have : PyData.int i ∈ syms A q1 := syms_mem.mpr ⟨i, rfl, a, hi, decide_eq_true ha⟩
      rw [z] at this; cases this
  obtain ⟨g, S1, g0, g1, ad, e⟩ := next_sp (syms A q1).length n S h.sg (by omega) (by omega)
  obtain ⟨v, hv, e2⟩ := at_get g0 g1
  obtain ⟨s, rfl, a, ea, hq⟩ := syms_mem.mp hv
  have ha0 : 0 < a := of_decide_eq_true hq
  have ha2 := (hA.le a (List.mem_of_getElem? ea)).2
  have h1 := h.next ad
  have eA := at_A ea
  have eg1 : S1[S0.length + i]? = some (some (ts.map T.d)) := by rw [h1.get, hX]
  have hi : i < X.length := (List.getElem?_eq_some_iff.mp hX).1
  by_cases c2 : a = 2
  · subst c2
    by_cases c1 : 1 < ts.length
    · obtain ⟨g2, S2, k0, k1, ad2, e3⟩ := next_sp ((ts.length : Int) - 1) n S1 ad.sg (by omega) (by omega)
      have h2 := h1.next ad2
      have eg2 : S2[S0.length + i]? = some (some (ts.map T.d)) := by rw [h2.get, hX]
      obtain ⟨pre, x, y, post, ets, hp⟩ := split2 (xs := ts) (i := g2.toNat) (by omega)
      have eg : g2 = ((pre.map T.d).length : Int) := by rw [List.length_map]; omega
      have em : ts.map T.d = pre.map T.d ++ x.d :: y.d :: post.map T.d := by rw [ets]; simp
      rw [em] at eg1 eg2
      have h3 := h2.app (some (pre.map T.d ++ .tuple [.int s, x.d, y.d] :: post.map T.d))
      have hlen := h2.len
      refine ⟨pre ++ T.b s x y :: post, X.length, _, _, some (.d (.int s)), some (.d (.int g2)), fun t ht => ?_, by simp; omega, by rw [ets]; simp, ?_, h3, ?_, ?_⟩
      · have hx : x.ok A := ho x (by rw [ets]; simp)
        have hy : y.ok A := ho y (by rw [ets]; simp)
        rcases List.mem_append.mp ht with ht | ht
        · exact ho t (by rw [ets]; simp [ht])
        · rcases List.mem_cons.mp ht with rfl | ht
          · exact ⟨ea, hx, hy⟩
          · exact ho t (by rw [ets]; simp [ht])
      · rw [ets]; simp [sumn, T.n]; omega
      · rw [last_get]; simp [T.d]
      · have hl2 : pre.length + (post.length + 1 + 1) ≤ 1000 := by rw [ets] at hl; simpa using hl
        have e3' : d__law_next [.loc n, .d (.int ((pre.length : Int) + ((post.length : Int) + 1 + 1) - 1))] S1 = some (.val (.int g2), S2) := by
          rw [← e3, ets]; simp
        simp only [List.length_map] at eg
        have q1' := at_mid (pre := pre.map T.d) (post := y.d :: post.map T.d) (x := x.d)
        have q2' := at_mid1 (pre := pre.map T.d) (post := post.map T.d) (x := x.d) (y := y.d)
        have q3' := cut_pre (pre := pre.map T.d) (post := x.d :: y.d :: post.map T.d)
        have q4' := cut_post2 (pre := pre.map T.d) (post := post.map T.d) (x := x.d) (y := y.d)
        simp only [List.length_map, ← eg] at q1' q2' q3' q4'
        simp [ndB, mDef, mSeq, mRet, mRetL, mRetV, mRetN, mIfS, mAsg, mNew, mAug, mSub, mApp, mExtN, mExtT, mPop, mDrop, mNext, mNever, mOp, mUn, mVar, mC, mQVar, mLVar, mIxV, mQE, mLE, mEN, asL, asQ, mTup, mLst, mDs, datas, mA0, mA1, mAV, mCat, mTB, mTru, tru, mTruQ, mAnd, mOr, mNot, mAndV, mOrV, mNotV, mIf, mChain, mLen, mAll, mAny, mBools, mSum, mList, mTuple, mB, fAbs, fInt, fMax2, fMin2, mIsi, fIsi, tyN, fAdd, fTT, fSub, fMulX, fMul, fRep, fII, fI0, bMul, bDiv, bMod, bPow, fDiv, fMod, fPow, fLt, fLe, fGt, fGe, fIs, fIsNot, fIsB, fNotB, fIsN, fNotN, isN, fNeg, fIx, mCall, mCallN, rtD, rtN, mgN, mg0, mg1, mgT, mO0, mO1, mSlT, mSlL, mYes, mR1, mR2, mNotT, mNotTQ, mInQ, mCatV, mCatX, mCatY, mSlV, Option.bind, e, e2, eA, fEq, sh_int, ev_int, eg1, eg2, e3', show (1 : Int) < (pre.length : Int) + ((post.length : Int) + 1 + 1) by omega, Option.or, q1', q2', q3', q4', show pre.length + 1 ≤ 1000000 by omega, show pre.length + 1 + post.length ≤ 1000000 by omega, hlen]
    · have c1' : ts.length = 1 := by omega
      refine ⟨ts, i, X, S1, some (.d (.int s)), w8, ho, h0, Nat.le_refl _, by omega, h1, hX, ?_⟩
      simp [ndB, mDef, mSeq, mRet, mRetL, mRetV, mRetN, mIfS, mAsg, mNew, mAug, mSub, mApp, mExtN, mExtT, mPop, mDrop, mNext, mNever, mOp, mUn, mVar, mC, mQVar, mLVar, mIxV, mQE, mLE, mEN, asL, asQ, mTup, mLst, mDs, datas, mA0, mA1, mAV, mCat, mTB, mTru, tru, mTruQ, mAnd, mOr, mNot, mAndV, mOrV, mNotV, mIf, mChain, mLen, mAll, mAny, mBools, mSum, mList, mTuple, mB, fAbs, fInt, fMax2, fMin2, mIsi, fIsi, tyN, fAdd, fTT, fSub, fMulX, fMul, fRep, fII, fI0, bMul, bDiv, bMod, bPow, fDiv, fMod, fPow, fLt, fLe, fGt, fGe, fIs, fIsNot, fIsB, fNotB, fIsN, fNotN, isN, fNeg, fIx, mCall, mCallN, rtD, rtN, mgN, mg0, mg1, mgT, mO0, mO1, mSlT, mSlL, mYes, mR1, mR2, mNotT, mNotTQ, mInQ, mCatV, mCatX, mCatY, mSlV, Option.bind, e, e2, eA, fEq, sh_int, ev_int, eg1, c1']
  · have c1 : a = 1 := by omega
    subst c1
    obtain ⟨g2, S2, k0, k1, ad2, e3⟩ := next_sp (ts.length : Int) n S1 ad.sg (by omega) (by omega)
    have h2 := h1.next ad2
    have eg2 : S2[S0.length + i]? = some (some (ts.map T.d)) := by rw [h2.get, hX]
    obtain ⟨pre, x, post, ets, hp⟩ := split1 (xs := ts) (i := g2.toNat) (by omega)
    have eg : g2 = (pre.length : Int) := by omega
    have em : ts.map T.d = pre.map T.d ++ x.d :: post.map T.d := by rw [ets]; simp
    rw [em] at eg1 eg2
    have h3 := h2.put i (some (pre.map T.d ++ .tuple [.int s, x.d] :: post.map T.d))
    refine ⟨pre ++ T.u s x :: post, i, _, _, some (.d (.int s)), some (.d (.int g2)), fun t ht => ?_, by simp; omega, by rw [ets]; simp, ?_, h3, ?_, ?_⟩
    · have hx : x.ok A := ho x (by rw [ets]; simp)
      rcases List.mem_append.mp ht with ht | ht
      · exact ho t (by rw [ets]; simp [ht])
      · rcases List.mem_cons.mp ht with rfl | ht
        · exact ⟨ea, hx⟩
        · exact ho t (by rw [ets]; simp [ht])
    · rw [ets]; simp [sumn, T.n]; omega
    · rw [List.getElem?_set_self hi]; simp [T.d]
    · have e3' : d__law_next [.loc n, .d (.int ((pre.length : Int) + ((post.length : Int) + 1)))] S1 = some (.val (.int g2), S2) := by
        rw [← e3, ets]; simp
      have q1' := at_mid (pre := pre.map T.d) (post := post.map T.d) (x := x.d)
      have q2' := ixN_mid (pre := pre.map T.d) (post := post.map T.d) (x := x.d)
      have q3' := fun y => set_mid (pre := pre.map T.d) (post := post.map T.d) (x := x.d) (y := y)
      simp only [List.length_map, List.length_append, List.length_cons, ← eg] at q1' q2' q3'
      simp [ndB, mDef, mSeq, mRet, mRetL, mRetV, mRetN, mIfS, mAsg, mNew, mAug, mSub, mApp, mExtN, mExtT, mPop, mDrop, mNext, mNever, mOp, mUn, mVar, mC, mQVar, mLVar, mIxV, mQE, mLE, mEN, asL, asQ, mTup, mLst, mDs, datas, mA0, mA1, mAV, mCat, mTB, mTru, tru, mTruQ, mAnd, mOr, mNot, mAndV, mOrV, mNotV, mIf, mChain, mLen, mAll, mAny, mBools, mSum, mList, mTuple, mB, fAbs, fInt, fMax2, fMin2, mIsi, fIsi, tyN, fAdd, fTT, fSub, fMulX, fMul, fRep, fII, fI0, bMul, bDiv, bMod, bPow, fDiv, fMod, fPow, fLt, fLe, fGt, fGe, fIs, fIsNot, fIsB, fNotB, fIsN, fNotN, isN, fNeg, fIx, mCall, mCallN, rtD, rtN, mgN, mg0, mg1, mgT, mO0, mO1, mSlT, mSlL, mYes, mR1, mR2, mNotT, mNotTQ, mInQ, mCatV, mCatX, mCatY, mSlV, Option.bind, e, e2, eA, fEq, sh_int, ev_int, eg1, eg2, e3', Option.or, q1', q2', q3']
theorem nd_for (n : Nat) {A : List Int} (hA : Ar A) (S0 : Sto) (w2 w3 : Option Sl) : ∀ (xs : List D) (ts : List T) (i : Nat) (X S : Sto) (w4 w7 w8 : Option Sl), AtX n S0 X S → X[i]? = some (some (ts.map T.d)) → (∀ t ∈ ts, t.ok A) → 0 < ts.length → ts.length ≤ 1000 →
    ∃ (ts' : List T) (i' : Nat) (X' S' : Sto) (w4' w7' w8' : Option Sl), (∀ t ∈ ts', t.ok A) ∧ 0 < ts'.length ∧ ts'.length ≤ ts.length ∧ sumn ts' ≤ sumn ts + xs.length ∧ AtX n S0 X' S' ∧ X'[i']? = some (some (ts'.map T.d)) ∧
      forRun (mgN 7) ndB xs [some (.loc n), some (.d (dA A)), w2, w3, w4, some (.d (.list (syms A q1))), some (.loc (S0.length + i)), w7, w8] S = some (.nx, [some (.loc n), some (.d (dA A)), w2, w3, w4', some (.d (.list (syms A q1))), some (.loc (S0.length + i')), w7', w8'], S')
  | [], ts, i, X, S, w4, w7, w8, h, hX, ho, h0, hl => ⟨ts, i, X, S, w4, w7, w8, ho, h0, Nat.le_refl _, Nat.le_refl _, h, hX, rfl⟩
  | x :: xs, ts, i, X, S, w4, w7, w8, h, hX, ho, h0, hl => by
    obtain ⟨ts1, i1, X1, S1, w41, w81, a1, a2, a3, a4, a5, a6, a7⟩ := nd_step n hA S0 w2 w3 ts i X S w4 (some (.d x)) w8 h hX ho h0 hl
    obtain ⟨ts2, i2, X2, S2, w42, w72, w82, b1, b2, b3, b4, b5, b6, b7⟩ := nd_for n hA S0 w2 w3 xs ts1 i1 X1 S1 w41 (some (.d x)) w81 a5 a6 a1 a2 (by omega)
    refine ⟨ts2, i2, X2, S2, w42, w72, w82, b1, b2, by omega, by simp; omega, b5, b6, ?_⟩
    rw [← b7]
    unfold forRun
    have e1 : mgN 7 x [some (.loc n), some (.d (dA A)), w2, w3, w4, some (.d (.list (syms A q1))), some (.loc (S0.length + i)), w7, w8] = some [some (.loc n), some (.d (dA A)), w2, w3, w4, some (.d (.list (syms A q1))), some (.loc (S0.length + i)), some (.d x), w8] := by simp [mgN]
    rw [e1, Option.bind_some, a7, Option.bind_some]
    cases xs <;> rfl

theorem tree_sp (n : Nat) (S : Sto) {A : List Int} (hA : Ar A) (h : Sg n S) : ∃ (t : T) (S' : Sto), t.ok A ∧ t.n ≤ 10 ∧ Ad n S S' ∧ d__law_tree d__law_next [.loc n, .d (dA A), .d (.int 5)] S = some (.val t.d, S') := by
  have hl := hA.len
  have h1 := (AtX.start h).app (some ([] : List D))
  have hbr : bRng (A.length : Int) = true := by unfold bRng; exact decide_eq_true (by omega)
  have t0 : ∀ (w0 w2 w3 w5 w6 w7 w8 : Option Sl) (i : Nat) (a : Int), A[i]? = some a → mTB (mOp fEq (mIxV 1 (mVar 4)) (mC (.int 0))) [w0, some (.d (dA A)), w2, w3, some (.d (.int i)), w5, w6, w7, w8] S = some (q0 a, S) := fun w0 w2 w3 w5 w6 w7 w8 i a e => by
    simp [mDef, mSeq, mRet, mRetL, mRetV, mRetN, mIfS, mAsg, mNew, mAug, mSub, mApp, mExtN, mExtT, mPop, mDrop, mNext, mNever, mOp, mUn, mVar, mC, mQVar, mLVar, mIxV, mQE, mLE, mEN, asL, asQ, mTup, mLst, mDs, datas, mA0, mA1, mAV, mCat, mTB, mTru, tru, mTruQ, mAnd, mOr, mNot, mAndV, mOrV, mNotV, mIf, mChain, mLen, mAll, mAny, mBools, mSum, mList, mTuple, mB, fAbs, fInt, fMax2, fMin2, mIsi, fIsi, tyN, fAdd, fTT, fSub, fMulX, fMul, fRep, fII, fI0, bMul, bDiv, bMod, bPow, fDiv, fMod, fPow, fLt, fLe, fGt, fGe, fIs, fIsNot, fIsB, fNotB, fIsN, fNotN, isN, fNeg, fIx, mCall, mCallN, rtD, rtN, mgN, mg0, mg1, mgT, mO0, mO1, mSlT, mSlL, mYes, mR1, mR2, mNotT, mNotTQ, mInQ, mCatV, mCatX, mCatY, mSlV, Option.bind, at_A e, fEq, sh_int, ev_int, q0]
  have t1 : ∀ (w0 w2 w3 w5 w6 w7 w8 : Option Sl) (i : Nat) (a : Int), A[i]? = some a → mTB (mOp fGt (mIxV 1 (mVar 4)) (mC (.int 0))) [w0, some (.d (dA A)), w2, w3, some (.d (.int i)), w5, w6, w7, w8] S = some (q1 a, S) := fun w0 w2 w3 w5 w6 w7 w8 i a e => by
    simp [mDef, mSeq, mRet, mRetL, mRetV, mRetN, mIfS, mAsg, mNew, mAug, mSub, mApp, mExtN, mExtT, mPop, mDrop, mNext, mNever, mOp, mUn, mVar, mC, mQVar, mLVar, mIxV, mQE, mLE, mEN, asL, asQ, mTup, mLst, mDs, datas, mA0, mA1, mAV, mCat, mTB, mTru, tru, mTruQ, mAnd, mOr, mNot, mAndV, mOrV, mNotV, mIf, mChain, mLen, mAll, mAny, mBools, mSum, mList, mTuple, mB, fAbs, fInt, fMax2, fMin2, mIsi, fIsi, tyN, fAdd, fTT, fSub, fMulX, fMul, fRep, fII, fI0, bMul, bDiv, bMod, bPow, fDiv, fMod, fPow, fLt, fLe, fGt, fGe, fIs, fIsNot, fIsB, fNotB, fIsN, fNotN, isN, fNeg, fIx, mCall, mCallN, rtD, rtN, mgN, mg0, mg1, mgT, mO0, mO1, mSlT, mSlL, mYes, mR1, mR2, mNotT, mNotTQ, mInQ, mCatV, mCatX, mCatY, mSlV, Option.bind, at_A e, q1]
  have s0 := fun w0 w2 w3 w5 w6 w7 w8 => syms_lc A S w0 w2 w3 w5 w6 w7 w8 (t0 w0 w2 w3 w5 w6 w7 w8)
  have s1 := fun w0 w2 w3 w5 w6 w7 w8 => syms_lc A S w0 w2 w3 w5 w6 w7 w8 (t1 w0 w2 w3 w5 w6 w7 w8)
  obtain ⟨g, S1, g0, g1, ad, e⟩ := next_sp 5 n (S ++ [some []]) h1.sg (by omega) (by omega)
  have hb2 : bRng (1 + g) = true := by unfold bRng; exact decide_eq_true (by omega)
  obtain ⟨ts, w7, S2, a1, a2, a3, a4, a5⟩ := lf_for n hA S (some (.d (.int 5))) none (some (.d (.list (syms A q1)))) none (rng 0 (1 + g).toNat) [] S1 none (h1.next ad) (fun t ht => by cases ht) rfl (by rw [rng_len]; simp; omega)
  rw [rng_len] at a3
  simp at a3
  have hb3 : bRng (5 : Int) = true := by decide
  obtain ⟨ts2, i2, X2, S3, w4, w72, w8, b1, b2, b3, b4, b5, b6, b7⟩ := nd_for n hA S (some (.d (.int 5))) (some (.d (.list (syms A q0)))) (rng 0 5) ts 0 _ S2 none w7 none a4 rfl a1 (by omega) (by omega)
  have e5 : (rng 0 5).length = 5 := rfl
  rw [e5] at b4
  obtain ⟨g2, S4, k0, k1, ad2, e4⟩ := next_sp (ts2.length : Int) n S3 b5.sg (by omega) (by omega)
  have h4 := b5.next ad2
  have eg3 : S3[S.length + i2]? = some (some (ts2.map T.d)) := by rw [b5.get, b6]
  have eg : S4[S.length + i2]? = some (some (ts2.map T.d)) := by rw [h4.get, b6]
  obtain ⟨v, hv, e6⟩ := at_get (xs := ts2.map T.d) k0 (by simpa using k1)
  obtain ⟨t, ht, rfl⟩ := List.mem_map.mp hv
  have hn : t.n ≤ sumn ts2 := by
    obtain ⟨p, q, e⟩ := List.append_of_mem ht
    rw [e, sumn_append]
    have : sumn (t :: q) = t.n + sumn q := by simp [sumn]
    omega
  refine ⟨t, S4.take S.length, b1 t ht, by omega, h4.fin, ?_⟩
  have hA0 : S.length + 0 = S.length := rfl
  rw [hA0] at b7
  simp only [lfB] at a5
  simp only [ndB] at b7
  simp [d__law_tree, mLc, mFor, mDef, mSeq, mRet, mRetL, mRetV, mRetN, mIfS, mAsg, mNew, mAug, mSub, mApp, mExtN, mExtT, mPop, mDrop, mNext, mNever, mOp, mUn, mVar, mC, mQVar, mLVar, mIxV, mQE, mLE, mEN, asL, asQ, mTup, mLst, mDs, datas, mA0, mA1, mAV, mCat, mTB, mTru, tru, mTruQ, mAnd, mOr, mNot, mAndV, mOrV, mNotV, mIf, mChain, mLen, mAll, mAny, mBools, mSum, mList, mTuple, mB, fAbs, fInt, fMax2, fMin2, mIsi, fIsi, tyN, fAdd, fTT, fSub, fMulX, fMul, fRep, fII, fI0, bMul, bDiv, bMod, bPow, fDiv, fMod, fPow, fLt, fLe, fGt, fGe, fIs, fIsNot, fIsB, fNotB, fIsN, fNotN, isN, fNeg, fIx, mCall, mCallN, rtD, rtN, mgN, mg0, mg1, mgT, mO0, mO1, mSlT, mSlL, mYes, mR1, mR2, mNotT, mNotTQ, mInQ, mCatV, mCatX, mCatY, mSlV, Option.bind, wipeR, hbr, hl, rng_len, show A.length ≤ 1000000 by omega, s0, s1, e, hb2, hb3, a5, b7, eg3, eg, e4, e6]
end G
set_option linter.all false
set_option autoImplicit false
set_option maxRecDepth 100000
set_option maxHeartbeats 2000000
namespace G
open PySem L2
theorem sh_ints : ∀ p : List Nat, PyData.canLayAll0 (p.map fun (i : Nat) => PyData.int (i : Int)) = true ∧ PyData.depthAll (p.map fun (i : Nat) => PyData.int (i : Int)) = 0
  | [] => ⟨rfl, rfl⟩
  | i :: p => by
    obtain ⟨h1, h2⟩ := sh_ints p
    refine ⟨?_, ?_⟩
    · show (true && PyData.canLayAll0 _) = true
      rw [h1]; rfl
    · show max 0 (PyData.depthAll _) = 0
      rw [h2]; rfl
theorem sh_place (p : List Nat) : SeqAt.shaped (pD p) = true := by
  obtain ⟨h1, h2⟩ := sh_ints p
  show (PyData.canLayAll0 _ && decide (PyData.depthAll _ + 1 ≤ 64)) = true
  rw [h1, h2]
  rfl
theorem sh_nil : SeqAt.shaped (.tuple []) = true := rfl
theorem ev_nil (p : List Nat) : PyData.eqv (pD p) (.tuple []) = p.isEmpty := by
  cases p <;> rfl
theorem c_t1 {α : Type} (xs : List α) : cut xs none (some 1) = xs.take 1 := cut_to xs 1
theorem c_t2 {α : Type} (xs : List α) : cut xs none (some 2) = xs.take 2 := cut_to xs 2
theorem c_f2 {α : Type} (xs : List α) : cut xs (some 2) none = xs.drop 2 := cut_from xs 2
theorem c_f3 {α : Type} (xs : List α) : cut xs (some 3) none = xs.drop 3 := cut_from xs 3
theorem lev_put (k : Nat) : (lev (k + 1))._law_put = d__law_put (lev k)._law_put := rfl
def T.has : T → List Nat → Prop
  | _, [] => True
  | .u _ a, 0 :: p => a.has p
  | .b _ x _, 0 :: p => x.has p
  | .b _ _ y, 1 :: p => y.has p
  | _, _ => False
def T.putD (x : D) : T → List Nat → D
  | _, [] => x
  | .l s, _ :: _ => x
  | .u s a, _ :: p => .tuple [.int s, a.putD x p]
  | .b s a y, 0 :: p => .tuple [.int s, a.putD x p, y.d]
  | .b s a y, _ :: p => .tuple [.int s, a.d, y.putD x p]
theorem a21 {α : Type} (x y : α) : atI [x, y] 1 = some y := rfl
theorem put_eq (x : D) : ∀ (p : List Nat) (t : T) (k : Nat) (S : Sto), t.has p → p.length + 1 ≤ k → (lev k)._law_put [.d t.d, .d (pD p), .d x] S = some (.val (t.putD x p), S)
  | [], t, k + 1, S, hp, hk => by
    rw [lev_put]
    have h1 := sh_place []
    have e1 : t.putD x [] = x := by cases t <;> rfl
    have h2 := ev_nil []
    simp [d__law_put, mDef, mSeq, mRet, mRetL, mRetV, mRetN, mIfS, mAsg, mNew, mAug, mSub, mApp, mExtN, mExtT, mPop, mDrop, mNext, mNever, mOp, mUn, mVar, mC, mQVar, mLVar, mIxV, mQE, mLE, mEN, asL, asQ, mTup, mLst, mDs, datas, mA0, mA1, mAV, mCat, mTB, mTru, tru, mTruQ, mAnd, mOr, mNot, mAndV, mOrV, mNotV, mIf, mChain, mLen, mAll, mAny, mBools, mSum, mList, mTuple, mB, fAbs, fInt, fMax2, fMin2, mIsi, fIsi, tyN, fAdd, fTT, fSub, fMulX, fMul, fRep, fII, fI0, bMul, bDiv, bMod, bPow, fDiv, fMod, fPow, fLt, fLe, fGt, fGe, fIs, fIsNot, fIsB, fNotB, fIsN, fNotN, isN, fNeg, fIx, mCall, mCallN, rtD, rtN, mgN, mg0, mg1, mgT, mO0, mO1, mSlT, mSlL, mYes, mR1, mR2, mNotT, mNotTQ, mInQ, mCatV, mCatX, mCatY, mSlV, Option.bind, fEq, sh_nil, e1, h1, h2]
  | i :: p, t, k + 1, S, hp, hk => by
    rw [lev_put]
    have h1 := sh_place (i :: p)
    have h2 := ev_nil (i :: p)
    simp only [List.length_cons] at hk
    cases t with
    | l s => cases i <;> exact absurd hp (by simp [T.has])
    | u s a =>
      cases i with
      | succ i => exact absurd hp (by simp [T.has])
      | zero =>
        have e := put_eq x p a k S hp (by omega)
        simp at h1 h2 e
        simp [d__law_put, mDef, mSeq, mRet, mRetL, mRetV, mRetN, mIfS, mAsg, mNew, mAug, mSub, mApp, mExtN, mExtT, mPop, mDrop, mNext, mNever, mOp, mUn, mVar, mC, mQVar, mLVar, mIxV, mQE, mLE, mEN, asL, asQ, mTup, mLst, mDs, datas, mA0, mA1, mAV, mCat, mTB, mTru, tru, mTruQ, mAnd, mOr, mNot, mAndV, mOrV, mNotV, mIf, mChain, mLen, mAll, mAny, mBools, mSum, mList, mTuple, mB, fAbs, fInt, fMax2, fMin2, mIsi, fIsi, tyN, fAdd, fTT, fSub, fMulX, fMul, fRep, fII, fI0, bMul, bDiv, bMod, bPow, fDiv, fMod, fPow, fLt, fLe, fGt, fGe, fIs, fIsNot, fIsB, fNotB, fIsN, fNotN, isN, fNeg, fIx, mCall, mCallN, rtD, rtN, mgN, mg0, mg1, mgT, mO0, mO1, mSlT, mSlL, mYes, mR1, mR2, mNotT, mNotTQ, mInQ, mCatV, mCatX, mCatY, mSlV, Option.bind, fEq, sh_nil, h1, h2, T.d, atI_0, a21, c_t1, c_f2, cut_f1, e, Option.or, T.putD]
    | b s a b' =>
      cases i with
      | zero =>
        have e := put_eq x p a k S hp (by omega)
        simp at h1 h2 e
        simp [d__law_put, mDef, mSeq, mRet, mRetL, mRetV, mRetN, mIfS, mAsg, mNew, mAug, mSub, mApp, mExtN, mExtT, mPop, mDrop, mNext, mNever, mOp, mUn, mVar, mC, mQVar, mLVar, mIxV, mQE, mLE, mEN, asL, asQ, mTup, mLst, mDs, datas, mA0, mA1, mAV, mCat, mTB, mTru, tru, mTruQ, mAnd, mOr, mNot, mAndV, mOrV, mNotV, mIf, mChain, mLen, mAll, mAny, mBools, mSum, mList, mTuple, mB, fAbs, fInt, fMax2, fMin2, mIsi, fIsi, tyN, fAdd, fTT, fSub, fMulX, fMul, fRep, fII, fI0, bMul, bDiv, bMod, bPow, fDiv, fMod, fPow, fLt, fLe, fGt, fGe, fIs, fIsNot, fIsB, fNotB, fIsN, fNotN, isN, fNeg, fIx, mCall, mCallN, rtD, rtN, mgN, mg0, mg1, mgT, mO0, mO1, mSlT, mSlL, mYes, mR1, mR2, mNotT, mNotTQ, mInQ, mCatV, mCatX, mCatY, mSlV, Option.bind, fEq, sh_nil, h1, h2, T.d, atI_0, a31, a32, c_t1, c_f2, cut_f1, e, Option.or, T.putD]
      | succ i =>
        cases i with
        | succ i => exact absurd hp (by simp [T.has])
        | zero =>
          have e := put_eq x p b' k S hp (by omega)
          simp at h1 h2 e
          simp [d__law_put, mDef, mSeq, mRet, mRetL, mRetV, mRetN, mIfS, mAsg, mNew, mAug, mSub, mApp, mExtN, mExtT, mPop, mDrop, mNext, mNever, mOp, mUn, mVar, mC, mQVar, mLVar, mIxV, mQE, mLE, mEN, asL, asQ, mTup, mLst, mDs, datas, mA0, mA1, mAV, mCat, mTB, mTru, tru, mTruQ, mAnd, mOr, mNot, mAndV, mOrV, mNotV, mIf, mChain, mLen, mAll, mAny, mBools, mSum, mList, mTuple, mB, fAbs, fInt, fMax2, fMin2, mIsi, fIsi, tyN, fAdd, fTT, fSub, fMulX, fMul, fRep, fII, fI0, bMul, bDiv, bMod, bPow, fDiv, fMod, fPow, fLt, fLe, fGt, fGe, fIs, fIsNot, fIsB, fNotB, fIsN, fNotN, isN, fNeg, fIx, mCall, mCallN, rtD, rtN, mgN, mg0, mg1, mgT, mO0, mO1, mSlT, mSlL, mYes, mR1, mR2, mNotT, mNotTQ, mInQ, mCatV, mCatX, mCatY, mSlV, Option.bind, fEq, sh_nil, h1, h2, T.d, atI_0, a31, a32, c_t2, c_f3, cut_f1, e, Option.or, T.putD]

/-! nodes -/
theorem lev_nodes (k : Nat) : (lev (k + 1))._law_nodes = d__law_nodes (lev k)._law_nodes := rfl
theorem nodes_eq : ∀ (t : T) (k : Nat) (S : Sto), t.n ≤ k → (lev k)._law_nodes [.d t.d] S = some (.val (.int t.n), S)
  | .l s, 0, S, hk => by simp [T.n] at hk
  | .u s a, 0, S, hk => by simp [T.n] at hk
  | .b s x y, 0, S, hk => by simp [T.n] at hk
  | .l s, k + 1, S, hk => by
    rw [lev_nodes]
    simp [d__law_nodes, mDef, mSeq, mRet, mRetL, mRetV, mRetN, mIfS, mAsg, mNew, mAug, mSub, mApp, mExtN, mExtT, mPop, mDrop, mNext, mNever, mOp, mUn, mVar, mC, mQVar, mLVar, mIxV, mQE, mLE, mEN, asL, asQ, mTup, mLst, mDs, datas, mA0, mA1, mAV, mCat, mTB, mTru, tru, mTruQ, mAnd, mOr, mNot, mAndV, mOrV, mNotV, mIf, mChain, mLen, mAll, mAny, mBools, mSum, mList, mTuple, mB, fAbs, fInt, fMax2, fMin2, mIsi, fIsi, tyN, fAdd, fTT, fSub, fMulX, fMul, fRep, fII, fI0, bMul, bDiv, bMod, bPow, fDiv, fMod, fPow, fLt, fLe, fGt, fGe, fIs, fIsNot, fIsB, fNotB, fIsN, fNotN, isN, fNeg, fIx, mCall, mCallN, rtD, rtN, mgN, mg0, mg1, mgT, mO0, mO1, mSlT, mSlL, mYes, mR1, mR2, mNotT, mNotTQ, mInQ, mCatV, mCatX, mCatY, mSlV, Option.bind, T.d, cut_f1, mLc, wipeR, lcRun, intL, T.n]
  | .u s a, k + 1, S, hk => by
    rw [lev_nodes]
    have e := nodes_eq a k S (by simp [T.n] at hk; omega)
    simp [d__law_nodes, mDef, mSeq, mRet, mRetL, mRetV, mRetN, mIfS, mAsg, mNew, mAug, mSub, mApp, mExtN, mExtT, mPop, mDrop, mNext, mNever, mOp, mUn, mVar, mC, mQVar, mLVar, mIxV, mQE, mLE, mEN, asL, asQ, mTup, mLst, mDs, datas, mA0, mA1, mAV, mCat, mTB, mTru, tru, mTruQ, mAnd, mOr, mNot, mAndV, mOrV, mNotV, mIf, mChain, mLen, mAll, mAny, mBools, mSum, mList, mTuple, mB, fAbs, fInt, fMax2, fMin2, mIsi, fIsi, tyN, fAdd, fTT, fSub, fMulX, fMul, fRep, fII, fI0, bMul, bDiv, bMod, bPow, fDiv, fMod, fPow, fLt, fLe, fGt, fGe, fIs, fIsNot, fIsB, fNotB, fIsN, fNotN, isN, fNeg, fIx, mCall, mCallN, rtD, rtN, mgN, mg0, mg1, mgT, mO0, mO1, mSlT, mSlL, mYes, mR1, mR2, mNotT, mNotTQ, mInQ, mCatV, mCatX, mCatY, mSlV, Option.bind, T.d, cut_f1, mLc, wipeR, lcRun, intL, T.n, e, Option.or]
    omega
  | .b s x y, k + 1, S, hk => by
    rw [lev_nodes]
    have e := nodes_eq x k S (by simp [T.n] at hk; omega)
    have e' := nodes_eq y k S (by simp [T.n] at hk; omega)
    simp [d__law_nodes, mDef, mSeq, mRet, mRetL, mRetV, mRetN, mIfS, mAsg, mNew, mAug, mSub, mApp, mExtN, mExtT, mPop, mDrop, mNext, mNever, mOp, mUn, mVar, mC, mQVar, mLVar, mIxV, mQE, mLE, mEN, asL, asQ, mTup, mLst, mDs, datas, mA0, mA1, mAV, mCat, mTB, mTru, tru, mTruQ, mAnd, mOr, mNot, mAndV, mOrV, mNotV, mIf, mChain, mLen, mAll, mAny, mBools, mSum, mList, mTuple, mB, fAbs, fInt, fMax2, fMin2, mIsi, fIsi, tyN, fAdd, fTT, fSub, fMulX, fMul, fRep, fII, fI0, bMul, bDiv, bMod, bPow, fDiv, fMod, fPow, fLt, fLe, fGt, fGe, fIs, fIsNot, fIsB, fNotB, fIsN, fNotN, isN, fNeg, fIx, mCall, mCallN, rtD, rtN, mgN, mg0, mg1, mgT, mO0, mO1, mSlT, mSlL, mYes, mR1, mR2, mNotT, mNotTQ, mInQ, mCatV, mCatX, mCatY, mSlV, Option.bind, T.d, cut_f1, mLc, wipeR, lcRun, intL, T.n, e, e', Option.or]
    omega
/-! places -/
def T.places : T → List (List Nat)
  | .l _ => [[]]
  | .u _ a => [] :: a.places.map (0 :: ·)
  | .b _ x y => [] :: (x.places.map (0 :: ·) ++ y.places.map (1 :: ·))
theorem T.places_len : ∀ t : T, t.places.length = t.n
  | .l s => rfl
  | .u s a => by simp [T.places, T.n, T.places_len a]
  | .b s x y => by simp [T.places, T.n, T.places_len x, T.places_len y]
theorem places_plen : ∀ (t : T), ∀ z ∈ t.places, z.length < t.n
  | .l s, z, hz => by rw [List.mem_singleton.mp hz]; simp [T.n]
  | .u s a, z, hz => by
    rcases List.mem_cons.mp hz with e | hz
    · rw [e]; simp [T.n]
    · obtain ⟨y, hy, rfl⟩ := List.mem_map.mp hz
      have := places_plen a y hy
      simp [T.n]; omega
  | .b s x y, z, hz => by
    rcases List.mem_cons.mp hz with e | hz
    · rw [e]; simp [T.n]
    · rcases List.mem_append.mp hz with hz | hz
      · obtain ⟨w, hw, rfl⟩ := List.mem_map.mp hz
        have := places_plen x w hw
        simp [T.n]; omega
      · obtain ⟨w, hw, rfl⟩ := List.mem_map.mp hz
        have := places_plen y w hw
        simp [T.n]; omega
theorem places_has : ∀ (t : T), ∀ z ∈ t.places, t.has z
  | .l s, z, hz => by rw [List.mem_singleton.mp hz]; trivial
  | .u s a, z, hz => by
    rcases List.mem_cons.mp hz with e | hz
    · rw [e]; trivial
    · obtain ⟨y, hy, rfl⟩ := List.mem_map.mp hz
      exact places_has a y hy
  | .b s x y, z, hz => by
    rcases List.mem_cons.mp hz with e | hz
    · rw [e]; trivial
    · rcases List.mem_append.mp hz with hz | hz
      · obtain ⟨w, hw, rfl⟩ := List.mem_map.mp hz
        exact places_has x w hw
      · obtain ⟨w, hw, rfl⟩ := List.mem_map.mp hz
        exact places_has y w hw
def plf (j : Int) (d : D) : D := match d with
  | .tuple p => .tuple (.int j :: p)
  | _ => .none
theorem places_lc (ps : List (List Nat)) (j : Int) (jn : Nat) (hj : j = jn) (S : Sto) (w0 w1 : Option Sl) (h : ∀ z ∈ ps, z.length ≤ 1000) :
    lcRun (mgN 3) mYes (mOp fAdd (mTup (mA1 (mVar 2) mA0)) (mVar 3)) (ps.map pD) [w0, w1, some (.d (.int j)), none] S = some ((ps.map (jn :: ·)).map pD, S) := by
  subst hj
  have := lc_map (mg := mgN 3) (me := mOp fAdd (mTup (mA1 (mVar 2) mA0)) (mVar 3)) (ρ := [w0, w1, some (.d (.int jn)), none]) (S := S) (plf jn) (fun d => [w0, w1, some (.d (.int jn)), some (.d d)]) (xs := ps.map pD)
    (fun x hx => by obtain ⟨z, hz, rfl⟩ := List.mem_map.mp hx; simp [mgN])
    (fun x hx => by
      obtain ⟨z, hz, rfl⟩ := List.mem_map.mp hx
      have hl := h z hz
      simp [mDef, mSeq, mRet, mRetL, mRetV, mRetN, mIfS, mAsg, mNew, mAug, mSub, mApp, mExtN, mExtT, mPop, mDrop, mNext, mNever, mOp, mUn, mVar, mC, mQVar, mLVar, mIxV, mQE, mLE, mEN, asL, asQ, mTup, mLst, mDs, datas, mA0, mA1, mAV, mCat, mTB, mTru, tru, mTruQ, mAnd, mOr, mNot, mAndV, mOrV, mNotV, mIf, mChain, mLen, mAll, mAny, mBools, mSum, mList, mTuple, mB, fAbs, fInt, fMax2, fMin2, mIsi, fIsi, tyN, fAdd, fTT, fSub, fMulX, fMul, fRep, fII, fI0, bMul, bDiv, bMod, bPow, fDiv, fMod, fPow, fLt, fLe, fGt, fGe, fIs, fIsNot, fIsB, fNotB, fIsN, fNotN, isN, fNeg, fIx, mCall, mCallN, rtD, rtN, mgN, mg0, mg1, mgT, mO0, mO1, mSlT, mSlL, mYes, mR1, mR2, mNotT, mNotTQ, mInQ, mCatV, mCatX, mCatY, mSlV, Option.bind, plf, Option.or, show 1 + z.length ≤ 1000000 by omega])
  rw [this, List.map_map, List.map_map]
  rfl
theorem lev_places (k : Nat) : (lev (k + 1))._law_places = d__law_places (lev k)._law_places := rfl
theorem r00 : rng 0 0 = [] := rfl
theorem r01 : rng 0 1 = [.int 0] := rfl
theorem r02 : rng 0 2 = [.int 0, .int 1] := rfl
theorem places_eq : ∀ (t : T) (k : Nat) (S : Sto), t.n ≤ 1000 → t.n ≤ k → (lev k)._law_places [.d t.d] S = some (.val (.list (t.places.map pD)), S)
  | .l s, 0, S, hn, hk => by simp [T.n] at hk
  | .u s a, 0, S, hn, hk => by simp [T.n] at hk
  | .b s x y, 0, S, hn, hk => by simp [T.n] at hk
  | .l s, k + 1, S, hn, hk => by
    rw [lev_places]
    simp [d__law_places, mFor, forRun, mDef, mSeq, mRet, mRetL, mRetV, mRetN, mIfS, mAsg, mNew, mAug, mSub, mApp, mExtN, mExtT, mPop, mDrop, mNext, mNever, mOp, mUn, mVar, mC, mQVar, mLVar, mIxV, mQE, mLE, mEN, asL, asQ, mTup, mLst, mDs, datas, mA0, mA1, mAV, mCat, mTB, mTru, tru, mTruQ, mAnd, mOr, mNot, mAndV, mOrV, mNotV, mIf, mChain, mLen, mAll, mAny, mBools, mSum, mList, mTuple, mB, fAbs, fInt, fMax2, fMin2, mIsi, fIsi, tyN, fAdd, fTT, fSub, fMulX, fMul, fRep, fII, fI0, bMul, bDiv, bMod, bPow, fDiv, fMod, fPow, fLt, fLe, fGt, fGe, fIs, fIsNot, fIsB, fNotB, fIsN, fNotN, isN, fNeg, fIx, mCall, mCallN, rtD, rtN, mgN, mg0, mg1, mgT, mO0, mO1, mSlT, mSlL, mYes, mR1, mR2, mNotT, mNotTQ, mInQ, mCatV, mCatX, mCatY, mSlV, Option.bind, T.d, bRng, r00, T.places]
  | .u s a, k + 1, S, hn, hk => by
    rw [lev_places]
    simp only [T.n] at hn hk
    have e := fun S => places_eq a k S (by omega) (by omega)
    have h1 := a.places_len
    have h0 : ∀ z ∈ a.places, z.length ≤ 1000 := fun z hz => by have := places_plen a z hz; omega
    have hl := fun S w0 w1 => places_lc a.places 0 0 rfl S w0 w1 h0
    simp [d__law_places, mFor, forRun, mDef, mSeq, mRet, mRetL, mRetV, mRetN, mIfS, mAsg, mNew, mAug, mSub, mApp, mExtN, mExtT, mPop, mDrop, mNext, mNever, mOp, mUn, mVar, mC, mQVar, mLVar, mIxV, mQE, mLE, mEN, asL, asQ, mTup, mLst, mDs, datas, mA0, mA1, mAV, mCat, mTB, mTru, tru, mTruQ, mAnd, mOr, mNot, mAndV, mOrV, mNotV, mIf, mChain, mLen, mAll, mAny, mBools, mSum, mList, mTuple, mB, fAbs, fInt, fMax2, fMin2, mIsi, fIsi, tyN, fAdd, fTT, fSub, fMulX, fMul, fRep, fII, fI0, bMul, bDiv, bMod, bPow, fDiv, fMod, fPow, fLt, fLe, fGt, fGe, fIs, fIsNot, fIsB, fNotB, fIsN, fNotN, isN, fNeg, fIx, mCall, mCallN, rtD, rtN, mgN, mg0, mg1, mgT, mO0, mO1, mSlT, mSlL, mYes, mR1, mR2, mNotT, mNotTQ, mInQ, mCatV, mCatX, mCatY, mSlV, Option.bind, T.d, bRng, r01, T.places, a21, mLc, wipeR, e, hl, h1, show a.n ≤ 1000000 by omega, show 1 + a.n ≤ 1000000 by omega, Option.or]
  | .b s x y, k + 1, S, hn, hk => by
    rw [lev_places]
    simp only [T.n] at hn hk
    have e := fun S => places_eq x k S (by omega) (by omega)
    have e' := fun S => places_eq y k S (by omega) (by omega)
    have h1 := x.places_len
    have h1' := y.places_len
    have h0 : ∀ z ∈ x.places, z.length ≤ 1000 := fun z hz => by have := places_plen x z hz; omega
    have h0' : ∀ z ∈ y.places, z.length ≤ 1000 := fun z hz => by have := places_plen y z hz; omega
    have hl := fun S w0 w1 => places_lc x.places 0 0 rfl S w0 w1 h0
    have hl' := fun S w0 w1 => places_lc y.places 1 1 rfl S w0 w1 h0'
    simp [d__law_places, mFor, forRun, mDef, mSeq, mRet, mRetL, mRetV, mRetN, mIfS, mAsg, mNew, mAug, mSub, mApp, mExtN, mExtT, mPop, mDrop, mNext, mNever, mOp, mUn, mVar, mC, mQVar, mLVar, mIxV, mQE, mLE, mEN, asL, asQ, mTup, mLst, mDs, datas, mA0, mA1, mAV, mCat, mTB, mTru, tru, mTruQ, mAnd, mOr, mNot, mAndV, mOrV, mNotV, mIf, mChain, mLen, mAll, mAny, mBools, mSum, mList, mTuple, mB, fAbs, fInt, fMax2, fMin2, mIsi, fIsi, tyN, fAdd, fTT, fSub, fMulX, fMul, fRep, fII, fI0, bMul, bDiv, bMod, bPow, fDiv, fMod, fPow, fLt, fLe, fGt, fGe, fIs, fIsNot, fIsB, fNotB, fIsN, fNotN, isN, fNeg, fIx, mCall, mCallN, rtD, rtN, mgN, mg0, mg1, mgT, mO0, mO1, mSlT, mSlL, mYes, mR1, mR2, mNotT, mNotTQ, mInQ, mCatV, mCatX, mCatY, mSlV, Option.bind, T.d, bRng, r02, T.places, a21, a31, a32, mLc, wipeR, e, e', hl, hl', h1, h1', show x.n ≤ 1000000 by omega, show y.n ≤ 1000000 by omega, show 1 + x.n ≤ 1000000 by omega, show 1 + (x.n + y.n) ≤ 1000000 by omega, show x.n + 1 + y.n ≤ 1000000 by omega, show x.n + 1 ≤ 1000000 by omega, Option.or]
/-! part, alike -/
def T.sub : T → List Nat → T
  | t, [] => t
  | .l s, _ :: _ => .l s
  | .u _ a, _ :: p => a.sub p
  | .b _ x _, 0 :: p => x.sub p
  | .b _ _ y, _ :: p => y.sub p
theorem part_for (S : Sto) (w1 : Option Sl) : ∀ (p : List Nat) (t : T) (w2 : Option Sl), t.has p → ∃ w2', forRun (mgN 2) (mAsg (mIxV 0 (mOp fAdd (mVar 2) (mC (.int 1)))) (mgN 0)) (p.map fun (i : Nat) => PyData.int (i : Int)) [some (.d t.d), w1, w2] S = some (.nx, [some (.d (t.sub p).d), w1, w2'], S)
  | [], t, w2, h => ⟨w2, by cases t <;> rfl⟩
  | i :: p, .l s, w2, h => by cases i <;> exact absurd h (by simp [T.has])
  | i :: p, .u s a, w2, h => by
    cases i with
    | succ i => exact absurd h (by simp [T.has])
    | zero =>
      obtain ⟨w, e⟩ := part_for S w1 p a (some (.d (.int 0))) h
      refine ⟨w, ?_⟩
      rw [List.map_cons]
      unfold forRun
      simp [mDef, mSeq, mRet, mRetL, mRetV, mRetN, mIfS, mAsg, mNew, mAug, mSub, mApp, mExtN, mExtT, mPop, mDrop, mNext, mNever, mOp, mUn, mVar, mC, mQVar, mLVar, mIxV, mQE, mLE, mEN, asL, asQ, mTup, mLst, mDs, datas, mA0, mA1, mAV, mCat, mTB, mTru, tru, mTruQ, mAnd, mOr, mNot, mAndV, mOrV, mNotV, mIf, mChain, mLen, mAll, mAny, mBools, mSum, mList, mTuple, mB, fAbs, fInt, fMax2, fMin2, mIsi, fIsi, tyN, fAdd, fTT, fSub, fMulX, fMul, fRep, fII, fI0, bMul, bDiv, bMod, bPow, fDiv, fMod, fPow, fLt, fLe, fGt, fGe, fIs, fIsNot, fIsB, fNotB, fIsN, fNotN, isN, fNeg, fIx, mCall, mCallN, rtD, rtN, mgN, mg0, mg1, mgT, mO0, mO1, mSlT, mSlL, mYes, mR1, mR2, mNotT, mNotTQ, mInQ, mCatV, mCatX, mCatY, mSlV, Option.bind, T.d, a21, Option.or]
      exact e
  | i :: p, .b s x y, w2, h => by
    cases i with
    | zero =>
      obtain ⟨w, e⟩ := part_for S w1 p x (some (.d (.int 0))) h
      refine ⟨w, ?_⟩
      rw [List.map_cons]
      unfold forRun
      simp [mDef, mSeq, mRet, mRetL, mRetV, mRetN, mIfS, mAsg, mNew, mAug, mSub, mApp, mExtN, mExtT, mPop, mDrop, mNext, mNever, mOp, mUn, mVar, mC, mQVar, mLVar, mIxV, mQE, mLE, mEN, asL, asQ, mTup, mLst, mDs, datas, mA0, mA1, mAV, mCat, mTB, mTru, tru, mTruQ, mAnd, mOr, mNot, mAndV, mOrV, mNotV, mIf, mChain, mLen, mAll, mAny, mBools, mSum, mList, mTuple, mB, fAbs, fInt, fMax2, fMin2, mIsi, fIsi, tyN, fAdd, fTT, fSub, fMulX, fMul, fRep, fII, fI0, bMul, bDiv, bMod, bPow, fDiv, fMod, fPow, fLt, fLe, fGt, fGe, fIs, fIsNot, fIsB, fNotB, fIsN, fNotN, isN, fNeg, fIx, mCall, mCallN, rtD, rtN, mgN, mg0, mg1, mgT, mO0, mO1, mSlT, mSlL, mYes, mR1, mR2, mNotT, mNotTQ, mInQ, mCatV, mCatX, mCatY, mSlV, Option.bind, T.d, a31, Option.or]
      exact e
    | succ i =>
      cases i with
      | succ i => exact absurd h (by simp [T.has])
      | zero =>
        obtain ⟨w, e⟩ := part_for S w1 p y (some (.d (.int 1))) h
        refine ⟨w, ?_⟩
        rw [List.map_cons]
        unfold forRun
        simp [mDef, mSeq, mRet, mRetL, mRetV, mRetN, mIfS, mAsg, mNew, mAug, mSub, mApp, mExtN, mExtT, mPop, mDrop, mNext, mNever, mOp, mUn, mVar, mC, mQVar, mLVar, mIxV, mQE, mLE, mEN, asL, asQ, mTup, mLst, mDs, datas, mA0, mA1, mAV, mCat, mTB, mTru, tru, mTruQ, mAnd, mOr, mNot, mAndV, mOrV, mNotV, mIf, mChain, mLen, mAll, mAny, mBools, mSum, mList, mTuple, mB, fAbs, fInt, fMax2, fMin2, mIsi, fIsi, tyN, fAdd, fTT, fSub, fMulX, fMul, fRep, fII, fI0, bMul, bDiv, bMod, bPow, fDiv, fMod, fPow, fLt, fLe, fGt, fGe, fIs, fIsNot, fIsB, fNotB, fIsN, fNotN, isN, fNeg, fIx, mCall, mCallN, rtD, rtN, mgN, mg0, mg1, mgT, mO0, mO1, mSlT, mSlL, mYes, mR1, mR2, mNotT, mNotTQ, mInQ, mCatV, mCatX, mCatY, mSlV, Option.bind, T.d, a32, Option.or]
        exact e
theorem part_eq (S : Sto) (t : T) (p : List Nat) (h : t.has p) : d__law_part [.d t.d, .d (pD p)] S = some (.val (t.sub p).d, S) := by
  obtain ⟨w, e⟩ := part_for S (some (.d (pD p))) p t none h
  simp [d__law_part, mFor, mDef, mSeq, mRet, mRetL, mRetV, mRetN, mIfS, mAsg, mNew, mAug, mSub, mApp, mExtN, mExtT, mPop, mDrop, mNext, mNever, mOp, mUn, mVar, mC, mQVar, mLVar, mIxV, mQE, mLE, mEN, asL, asQ, mTup, mLst, mDs, datas, mA0, mA1, mAV, mCat, mTB, mTru, tru, mTruQ, mAnd, mOr, mNot, mAndV, mOrV, mNotV, mIf, mChain, mLen, mAll, mAny, mBools, mSum, mList, mTuple, mB, fAbs, fInt, fMax2, fMin2, mIsi, fIsi, tyN, fAdd, fTT, fSub, fMulX, fMul, fRep, fII, fI0, bMul, bDiv, bMod, bPow, fDiv, fMod, fPow, fLt, fLe, fGt, fGe, fIs, fIsNot, fIsB, fNotB, fIsN, fNotN, isN, fNeg, fIx, mCall, mCallN, rtD, rtN, mgN, mg0, mg1, mgT, mO0, mO1, mSlT, mSlL, mYes, mR1, mR2, mNotT, mNotTQ, mInQ, mCatV, mCatX, mCatY, mSlV, Option.bind, e]
def T.sy : T → Nat
  | .l s => s
  | .u s _ => s
  | .b s _ _ => s
def T.kid : T → Nat → T
  | .l s, _ => .l s
  | .u _ a, _ => a
  | .b _ x _, 0 => x
  | .b _ _ y, _ => y
def alike : T → T → List Nat → Bool
  | _, _, [] => true
  | a, b, i :: p => decide (a.sy = b.sy) && alike (a.kid i) (b.kid i) p
theorem has_kid {t : T} {i : Nat} {p : List Nat} (h : t.has (i :: p)) : (t.kid i).has p ∧ ∃ (r : List D), t.d = .tuple (.int t.sy :: r) ∧ atI (PyData.int t.sy :: r) ((i : Int) + 1) = some (t.kid i).d := by
  cases t with
  | l s => cases i <;> exact absurd h (by simp [T.has])
  | u s a =>
    cases i with
    | succ i => exact absurd h (by simp [T.has])
    | zero => exact ⟨h, _, rfl, rfl⟩
  | b s x y =>
    cases i with
    | zero => exact ⟨h, _, rfl, rfl⟩
    | succ i =>
      cases i with
      | succ i => exact absurd h (by simp [T.has])
      | zero => exact ⟨h, _, rfl, rfl⟩
theorem alike_for (S : Sto) (w2 : Option Sl) : ∀ (p : List Nat) (a b : T) (w3 : Option Sl), a.has p → b.has p → ∃ ρ', forRun (mgN 3) (mSeq (mIfS (mTB (mOp fNe (mIxV 0 (mC (.int 0))) (mIxV 1 (mC (.int 0))))) (mRet (mC (.bool false))) mNext)
  (mSeq (mAsg (mIxV 0 (mOp fAdd (mVar 3) (mC (.int 1)))) (mgN 0))
  (mAsg (mIxV 1 (mOp fAdd (mVar 3) (mC (.int 1)))) (mgN 1)))) (p.map fun (i : Nat) => PyData.int (i : Int)) [some (.d a.d), some (.d b.d), w2, w3] S = some (if alike a b p then .nx else .rt (.val (.bool false)), ρ', S)
  | [], a, b, w3, h, h' => ⟨_, rfl⟩
  | i :: p, a, b, w3, h, h' => by
    obtain ⟨h1, r, e1, e2⟩ := has_kid h
    obtain ⟨h1', r', e1', e2'⟩ := has_kid h'
    by_cases c : a.sy = b.sy
    · obtain ⟨ρ', e⟩ := alike_for S w2 p (a.kid i) (b.kid i) (some (.d (.int i))) h1 h1'
      refine ⟨ρ', ?_⟩
      rw [List.map_cons, e1, e1']
      unfold forRun
      rw [c] at e2 ⊢
      simp [mDef, mSeq, mRet, mRetL, mRetV, mRetN, mIfS, mAsg, mNew, mAug, mSub, mApp, mExtN, mExtT, mPop, mDrop, mNext, mNever, mOp, mUn, mVar, mC, mQVar, mLVar, mIxV, mQE, mLE, mEN, asL, asQ, mTup, mLst, mDs, datas, mA0, mA1, mAV, mCat, mTB, mTru, tru, mTruQ, mAnd, mOr, mNot, mAndV, mOrV, mNotV, mIf, mChain, mLen, mAll, mAny, mBools, mSum, mList, mTuple, mB, fAbs, fInt, fMax2, fMin2, mIsi, fIsi, tyN, fAdd, fTT, fSub, fMulX, fMul, fRep, fII, fI0, bMul, bDiv, bMod, bPow, fDiv, fMod, fPow, fLt, fLe, fGt, fGe, fIs, fIsNot, fIsB, fNotB, fIsN, fNotN, isN, fNeg, fIx, mCall, mCallN, rtD, rtN, mgN, mg0, mg1, mgT, mO0, mO1, mSlT, mSlL, mYes, mR1, mR2, mNotT, mNotTQ, mInQ, mCatV, mCatX, mCatY, mSlV, Option.bind, fNe, sh_int, ev_int, atI_0, Option.or, e2, e2', c, alike]
      exact e
    · have c' : ¬ ((a.sy : Int) = (b.sy : Int)) := by omega
      refine ⟨[some (.d a.d), some (.d b.d), w2, some (.d (.int i))], ?_⟩
      rw [List.map_cons, e1, e1']
      unfold forRun
      simp [mDef, mSeq, mRet, mRetL, mRetV, mRetN, mIfS, mAsg, mNew, mAug, mSub, mApp, mExtN, mExtT, mPop, mDrop, mNext, mNever, mOp, mUn, mVar, mC, mQVar, mLVar, mIxV, mQE, mLE, mEN, asL, asQ, mTup, mLst, mDs, datas, mA0, mA1, mAV, mCat, mTB, mTru, tru, mTruQ, mAnd, mOr, mNot, mAndV, mOrV, mNotV, mIf, mChain, mLen, mAll, mAny, mBools, mSum, mList, mTuple, mB, fAbs, fInt, fMax2, fMin2, mIsi, fIsi, tyN, fAdd, fTT, fSub, fMulX, fMul, fRep, fII, fI0, bMul, bDiv, bMod, bPow, fDiv, fMod, fPow, fLt, fLe, fGt, fGe, fIs, fIsNot, fIsB, fNotB, fIsN, fNotN, isN, fNeg, fIx, mCall, mCallN, rtD, rtN, mgN, mg0, mg1, mgT, mO0, mO1, mSlT, mSlL, mYes, mR1, mR2, mNotT, mNotTQ, mInQ, mCatV, mCatX, mCatY, mSlV, Option.bind, fNe, sh_int, ev_int, atI_0, Option.or, c, c', alike]
theorem alike_eq (S : Sto) (a b : T) (p : List Nat) (h : a.has p) (h' : b.has p) : d__law_is_alike [.d a.d, .d b.d, .d (pD p)] S = some (.val (.bool (alike a b p)), S) := by
  obtain ⟨ρ', e⟩ := alike_for S (some (.d (pD p))) p a b none h h'
  cases c : alike a b p <;> rw [c] at e <;> simp at e <;> simp [d__law_is_alike, mFor, mDef, mSeq, mRet, mRetL, mRetV, mRetN, mIfS, mAsg, mNew, mAug, mSub, mApp, mExtN, mExtT, mPop, mDrop, mNext, mNever, mOp, mUn, mVar, mC, mQVar, mLVar, mIxV, mQE, mLE, mEN, asL, asQ, mTup, mLst, mDs, datas, mA0, mA1, mAV, mCat, mTB, mTru, tru, mTruQ, mAnd, mOr, mNot, mAndV, mOrV, mNotV, mIf, mChain, mLen, mAll, mAny, mBools, mSum, mList, mTuple, mB, fAbs, fInt, fMax2, fMin2, mIsi, fIsi, tyN, fAdd, fTT, fSub, fMulX, fMul, fRep, fII, fI0, bMul, bDiv, bMod, bPow, fDiv, fMod, fPow, fLt, fLe, fGt, fGe, fIs, fIsNot, fIsB, fNotB, fIsN, fNotN, isN, fNeg, fIx, mCall, mCallN, rtD, rtN, mgN, mg0, mg1, mgT, mO0, mO1, mSlT, mSlL, mYes, mR1, mR2, mNotT, mNotTQ, mInQ, mCatV, mCatX, mCatY, mSlV, Option.bind, e]
end G
set_option linter.all false
set_option autoImplicit false
set_option maxRecDepth 100000
set_option maxHeartbeats 2000000
namespace G
open PySem L2
theorem enD_nd (e : En) : notDict (enD e) = true := by cases e <;> rfl
theorem isAr_dA {A : List Int} (hA : Ar A) : isAr (dA A) = true ∧ okv (dA A) = true := by
  have hl := hA.len
  refine ⟨?_, ?_⟩
  · show (decide (1 ≤ (A.map PyData.int).length) && decide ((A.map PyData.int).length ≤ 4) && (A.map PyData.int).all fun x => isInt x 0 2) = true
    rw [Bool.and_eq_true, Bool.and_eq_true, decide_eq_true_eq, decide_eq_true_eq, List.length_map, List.all_eq_true]
    refine ⟨hl, fun x hx => ?_⟩
    obtain ⟨a, ha, rfl⟩ := List.mem_map.mp hx
    have := hA.le a ha
    show (decide (0 ≤ a) && decide (a ≤ 2)) = true
    rw [Bool.and_eq_true, decide_eq_true_eq, decide_eq_true_eq]
    exact this
  · show ((A.map PyData.int).all notDict && decide ((A.map PyData.int).length ≤ 1000000)) = true
    rw [Bool.and_eq_true, decide_eq_true_eq, List.length_map, List.all_eq_true]
    refine ⟨fun x hx => ?_, by omega⟩
    obtain ⟨a, ha, rfl⟩ := List.mem_map.mp hx
    rfl
abbrev arInts : Fn := d_are_integers d_is_integer
theorem entry_eq {m : Nat} {a : Int} {e : En} (h : enOk m a e) (ha : 0 ≤ a ∧ a ≤ 2) (S : Sto) : d__is_entry d_is_tuple arInts [.d (enD e), .d (.int a), .d (.int m)] S = some (.val (.bool true), S) := by
  cases e with
  | none => simp [d__is_entry, mDef, mSeq, mRet, mRetL, mRetV, mRetN, mIfS, mAsg, mNew, mAug, mSub, mApp, mExtN, mExtT, mPop, mDrop, mNext, mNever, mOp, mUn, mVar, mC, mQVar, mLVar, mIxV, mQE, mLE, mEN, asL, asQ, mTup, mLst, mDs, datas, mA0, mA1, mAV, mCat, mTB, mTru, tru, mTruQ, mAnd, mOr, mNot, mAndV, mOrV, mNotV, mIf, mChain, mLen, mAll, mAny, mBools, mSum, mList, mTuple, mB, fAbs, fInt, fMax2, fMin2, mIsi, fIsi, tyN, fAdd, fTT, fSub, fMulX, fMul, fRep, fII, fI0, bMul, bDiv, bMod, bPow, fDiv, fMod, fPow, fLt, fLe, fGt, fGe, fIs, fIsNot, fIsB, fNotB, fIsN, fNotN, isN, fNeg, fIx, mCall, mCallN, rtD, rtN, mgN, mg0, mg1, mgT, mO0, mO1, mSlT, mSlL, mYes, mR1, mR2, mNotT, mNotTQ, mInQ, mCatV, mCatX, mCatY, mSlV, Option.bind, enD, Option.or]
  | some cs =>
    obtain ⟨h1, h2⟩ := h
    have e1 := is_tuple_eq (pD cs) a a S rfl
    have e2 := are_integers_eq (cs.map fun (i : Nat) => PyData.int (i : Int)) 0 ((m : Int) - 1) S (fun x hx => by obtain ⟨i, _, rfl⟩ := List.mem_map.mp hx; rfl) (by rw [List.length_map]; omega)
    have e3 : (cs.map fun (i : Nat) => PyData.int (i : Int)).all (fun x => isInt x 0 ((m : Int) - 1)) = true := by
      rw [List.all_eq_true]
      intro x hx
      obtain ⟨i, hi, rfl⟩ := List.mem_map.mp hx
      have := h2 i hi
      show (decide (0 ≤ (i : Int)) && decide ((i : Int) ≤ (m : Int) - 1)) = true
      rw [Bool.and_eq_true, decide_eq_true_eq, decide_eq_true_eq]
      omega
    rw [e3] at e2
    simp [d__is_entry, mDef, mSeq, mRet, mRetL, mRetV, mRetN, mIfS, mAsg, mNew, mAug, mSub, mApp, mExtN, mExtT, mPop, mDrop, mNext, mNever, mOp, mUn, mVar, mC, mQVar, mLVar, mIxV, mQE, mLE, mEN, asL, asQ, mTup, mLst, mDs, datas, mA0, mA1, mAV, mCat, mTB, mTru, tru, mTruQ, mAnd, mOr, mNot, mAndV, mOrV, mNotV, mIf, mChain, mLen, mAll, mAny, mBools, mSum, mList, mTuple, mB, fAbs, fInt, fMax2, fMin2, mIsi, fIsi, tyN, fAdd, fTT, fSub, fMulX, fMul, fRep, fII, fI0, bMul, bDiv, bMod, bPow, fDiv, fMod, fPow, fLt, fLe, fGt, fGe, fIs, fIsNot, fIsB, fNotB, fIsN, fNotN, isN, fNeg, fIx, mCall, mCallN, rtD, rtN, mgN, mg0, mg1, mgT, mO0, mO1, mSlT, mSlL, mYes, mR1, mR2, mNotT, mNotTQ, mInQ, mCatV, mCatX, mCatY, mSlV, Option.bind, enD, e1, e2, isTup, h1, Option.or, arInts]
theorem rw_mem {m : Nat} {A : List Int} {r : List En} (h : RwOk m A r) : ∀ x ∈ zipD (r.map enD) (A.map .int), ∃ e a, x = .tuple [enD e, .int a] ∧ enOk m a e ∧ a ∈ A := by
  induction h with
  | nil => intro x hx; cases hx
  | @cons a e A r h1 h2 ih =>
    intro x hx
    rcases List.mem_cons.mp hx with rfl | hx
    · exact ⟨e, a, rfl, h1, List.mem_cons_self⟩
    · obtain ⟨e', a', e1, e2, e3⟩ := ih x hx
      exact ⟨e', a', e1, e2, List.mem_cons_of_mem _ e3⟩
theorem bools_tt (xs : List D) : bools (xs.map fun _ => PyData.bool true) = some (xs.map fun _ => true) := bools_map (fun _ => true) xs
theorem all_tt {α : Type} (xs : List α) : (xs.map fun _ => true).all id = true := by rw [List.all_eq_true]; intro x hx; obtain ⟨_, _, rfl⟩ := List.mem_map.mp hx; rfl
theorem row_eq {m : Nat} {A : List Int} {r : List En} (h : RwOk m A r) (hA : Ar A) (S : Sto) : d__is_row d_is_tuple (d__is_entry d_is_tuple arInts) [.d (dA A), .d (rwD r), .d (.int m)] S = some (.val (.bool true), S) := by
  have hl := hA.len
  have e1 := is_tuple_eq (rwD r) A.length A.length S rfl
  have key : lcRun (mgT 2 (mg1 (mgN 3) (mg1 (mgN 4) mg0))) mYes (mCall 3 (d__is_entry d_is_tuple arInts) (mAV 3 (mAV 4 (mAV 2 mA0)))) (zipD (r.map enD) (A.map .int)) [some (.d (dA A)), some (.d (rwD r)), some (.d (.int m)), none, none] S = some ((zipD (r.map enD) (A.map .int)).map (fun _ => .bool true), S) := by
    refine lc_map _ (fun d => match d with | .tuple [x, y] => [some (.d (dA A)), some (.d (rwD r)), some (.d (.int m)), some (.d x), some (.d y)] | _ => []) (fun x hx => ?_) fun x hx => ?_
    · obtain ⟨e, a, rfl, _, _⟩ := rw_mem h x hx
      simp [mgT, mg1, mg0, mgN, Option.bind]
    · obtain ⟨e, a, rfl, he, ha⟩ := rw_mem h x hx
      simp [mCall, mAV, mA0, entry_eq he (hA.le a ha) S, rtD]
  have hz : (zipD (r.map enD) (A.map PyData.int)).length ≤ 1000000 := by rw [zipD_len, List.length_map, List.length_map]; omega
  simp only [rwD] at key e1
  simp [d__is_row, mDef, mSeq, mRet, mRetL, mRetV, mRetN, mIfS, mAsg, mNew, mAug, mSub, mApp, mExtN, mExtT, mPop, mDrop, mNext, mNever, mOp, mUn, mVar, mC, mQVar, mLVar, mIxV, mQE, mLE, mEN, asL, asQ, mTup, mLst, mDs, datas, mA0, mA1, mAV, mCat, mTB, mTru, tru, mTruQ, mAnd, mOr, mNot, mAndV, mOrV, mNotV, mIf, mChain, mLen, mAll, mAny, mBools, mSum, mList, mTuple, mB, fAbs, fInt, fMax2, fMin2, mIsi, fIsi, tyN, fAdd, fTT, fSub, fMulX, fMul, fRep, fII, fI0, bMul, bDiv, bMod, bPow, fDiv, fMod, fPow, fLt, fLe, fGt, fGe, fIs, fIsNot, fIsB, fNotB, fIsN, fNotN, isN, fNeg, fIx, mCall, mCallN, rtD, rtN, mgN, mg0, mg1, mgT, mO0, mO1, mSlT, mSlL, mYes, mR1, mR2, mNotT, mNotTQ, mInQ, mCatV, mCatX, mCatY, mSlV, Option.bind, rwD, e1, isTup, h.len, mLc, wipeR, mZip, hz, key, bools_tt]
theorem require_eq (s : String) (S : Sto) : d_require [.d (.bool true), .d (.str s)] S = some (.val .none, S) := by simp [d_require, mDef, mSeq, mRet, mRetL, mRetV, mRetN, mIfS, mAsg, mNew, mAug, mSub, mApp, mExtN, mExtT, mPop, mDrop, mNext, mNever, mOp, mUn, mVar, mC, mQVar, mLVar, mIxV, mQE, mLE, mEN, asL, asQ, mTup, mLst, mDs, datas, mA0, mA1, mAV, mCat, mTB, mTru, tru, mTruQ, mAnd, mOr, mNot, mAndV, mOrV, mNotV, mIf, mChain, mLen, mAll, mAny, mBools, mSum, mList, mTuple, mB, fAbs, fInt, fMax2, fMin2, mIsi, fIsi, tyN, fAdd, fTT, fSub, fMulX, fMul, fRep, fII, fI0, bMul, bDiv, bMod, bPow, fDiv, fMod, fPow, fLt, fLe, fGt, fGe, fIs, fIsNot, fIsB, fNotB, fIsN, fNotN, isN, fNeg, fIx, mCall, mCallN, rtD, rtN, mgN, mg0, mg1, mgT, mO0, mO1, mSlT, mSlL, mYes, mR1, mR2, mNotT, mNotTQ, mInQ, mCatV, mCatX, mCatY, mSlV, Option.bind]
abbrev isTbl : Fn := d_is_table d_require (d_is_arities d_is_tuple arInts) d_is_tuple d_is_integer (d__is_row d_is_tuple (d__is_entry d_is_tuple arInts))
theorem table_eq {A : List Int} {q : Nat} {rows : List (List En)} (h : tbOk A q rows) (hA : Ar A) (S : Sto) : isTbl [.d (dA A), .d (tbD q rows)] S = some (.val (.bool true), S) := by
  have hl := hA.len
  obtain ⟨h1, h2, h3⟩ := h
  have e0 := is_arities_eq (dA A) S (isAr_dA hA).2
  rw [(isAr_dA hA).1] at e0
  have e1 := is_tuple_eq (tbD q rows) 2 2 S rfl
  have e2 := is_tuple_eq (.tuple (rows.map rwD)) 1 4 S rfl
  have e3 := is_integer_eq (.int q) 0 ((rows.length : Int) - 1) S rfl
  have e4 : isInt (.int q) 0 ((rows.length : Int) - 1) = true := by
    show (decide (0 ≤ (q : Int)) && decide ((q : Int) ≤ (rows.length : Int) - 1)) = true
    rw [Bool.and_eq_true, decide_eq_true_eq, decide_eq_true_eq]
    omega
  rw [e4] at e3
  have key : lcRun (mgN 4) mYes (mCall 3 (d__is_row d_is_tuple (d__is_entry d_is_tuple arInts)) (mAV 0 (mAV 4 (mA1 (mLen (mQVar 3)) mA0)))) (rows.map rwD) [some (.d (dA A)), some (.d (tbD q rows)), some (.d (.int q)), some (.d (.tuple (rows.map rwD))), none] S = some ((rows.map rwD).map (fun _ => .bool true), S) := by
    refine lc_map _ (fun d => [some (.d (dA A)), some (.d (tbD q rows)), some (.d (.int q)), some (.d (.tuple (rows.map rwD))), some (.d d)]) (fun x hx => by simp [mgN]) fun x hx => ?_
    obtain ⟨r, hr, rfl⟩ := List.mem_map.mp hx
    simp [mDef, mSeq, mRet, mRetL, mRetV, mRetN, mIfS, mAsg, mNew, mAug, mSub, mApp, mExtN, mExtT, mPop, mDrop, mNext, mNever, mOp, mUn, mVar, mC, mQVar, mLVar, mIxV, mQE, mLE, mEN, asL, asQ, mTup, mLst, mDs, datas, mA0, mA1, mAV, mCat, mTB, mTru, tru, mTruQ, mAnd, mOr, mNot, mAndV, mOrV, mNotV, mIf, mChain, mLen, mAll, mAny, mBools, mSum, mList, mTuple, mB, fAbs, fInt, fMax2, fMin2, mIsi, fIsi, tyN, fAdd, fTT, fSub, fMulX, fMul, fRep, fII, fI0, bMul, bDiv, bMod, bPow, fDiv, fMod, fPow, fLt, fLe, fGt, fGe, fIs, fIsNot, fIsB, fNotB, fIsN, fNotN, isN, fNeg, fIx, mCall, mCallN, rtD, rtN, mgN, mg0, mg1, mgT, mO0, mO1, mSlT, mSlL, mYes, mR1, mR2, mNotT, mNotTQ, mInQ, mCatV, mCatX, mCatY, mSlV, Option.bind, row_eq (h3 r hr) hA S]
  have em : bools (List.map ((fun x => PyData.bool true) ∘ rwD) rows) = some (rows.map fun _ => true) := by
    have := bools_map (fun _ : List En => true) rows
    exact this
  simp only [tbD] at e1 key
  simp [isTbl, d_is_table, mDef, mSeq, mRet, mRetL, mRetV, mRetN, mIfS, mAsg, mNew, mAug, mSub, mApp, mExtN, mExtT, mPop, mDrop, mNext, mNever, mOp, mUn, mVar, mC, mQVar, mLVar, mIxV, mQE, mLE, mEN, asL, asQ, mTup, mLst, mDs, datas, mA0, mA1, mAV, mCat, mTB, mTru, tru, mTruQ, mAnd, mOr, mNot, mAndV, mOrV, mNotV, mIf, mChain, mLen, mAll, mAny, mBools, mSum, mList, mTuple, mB, fAbs, fInt, fMax2, fMin2, mIsi, fIsi, tyN, fAdd, fTT, fSub, fMulX, fMul, fRep, fII, fI0, bMul, bDiv, bMod, bPow, fDiv, fMod, fPow, fLt, fLe, fGt, fGe, fIs, fIsNot, fIsB, fNotB, fIsN, fNotN, isN, fNeg, fIx, mCall, mCallN, rtD, rtN, mgN, mg0, mg1, mgT, mO0, mO1, mSlT, mSlL, mYes, mR1, mR2, mNotT, mNotTQ, mInQ, mCatV, mCatX, mCatY, mSlV, Option.bind, tbD, e0, e1, e2, e3, isTup, require_eq, show (1 : Int) ≤ rows.length by omega, show (rows.length : Int) ≤ 4 by omega, mLc, wipeR, show rows.length ≤ 1000000 by omega, a21, key, em, all_tt]
end G
set_option linter.all false
set_option autoImplicit false
set_option maxRecDepth 100000
set_option maxHeartbeats 2000000
namespace G
open PySem L2
def ent (rows : List (List En)) (q s : Nat) : En := ((rows.getD q []).getD s none)
theorem RwOk.get {m : Nat} {A : List Int} {r : List En} (h : RwOk m A r) : ∀ {s : Nat} {a : Int}, A[s]? = some a → ∃ e, r[s]? = some e ∧ enOk m a e := by
  induction h with
  | nil => intro s a e; cases e
  | cons h1 h2 ih =>
    intro s a e
    cases s with
    | zero => cases e; exact ⟨_, rfl, h1⟩
    | succ s => exact ih e
theorem ent_get {A : List Int} {q0 : Nat} {rows : List (List En)} (h : tbOk A q0 rows) {q s : Nat} {a : Int} (hq : q < rows.length) (ha : A[s]? = some a) :
    ∃ r, rows[q]? = some r ∧ r[s]? = some (ent rows q s) ∧ enOk rows.length a (ent rows q s) := by
  obtain ⟨h1, h2, h3⟩ := h
  have e1 : rows[q]? = some rows[q] := List.getElem?_eq_getElem hq
  obtain ⟨e, e2, e3⟩ := (h3 rows[q] (List.getElem_mem hq)).get ha
  have ee : ent rows q s = e := by
    unfold ent
    rw [List.getD_eq_getElem?_getD, List.getD_eq_getElem?_getD, e1, Option.getD_some, e2]
    rfl
  exact ⟨rows[q], e1, by rw [ee]; exact e2, by rw [ee]; exact e3⟩
def nth (cs : List Nat) (i : Nat) : Nat := cs.getD i 0
abbrev Vs := List Nat × Nat × Bool
def vsD (z : Vs) : D := .tuple [pD z.1, .int z.2.1, .bool z.2.2]
def vis (rows : List (List En)) : T → Nat → List Nat → List Vs
  | .l s, q, p => [(p, q, (ent rows q s).isNone)]
  | .u s a, q, p => (p, q, (ent rows q s).isNone) :: (match ent rows q s with | none => [] | some cs => vis rows a (nth cs 0) (p ++ [0]))
  | .b s x y, q, p => (p, q, (ent rows q s).isNone) :: (match ent rows q s with | none => [] | some cs => vis rows x (nth cs 0) (p ++ [0]) ++ vis rows y (nth cs 1) (p ++ [1]))
def acc (rows : List (List En)) : T → Nat → Bool
  | .l s, q => (ent rows q s).isSome
  | .u s a, q => match ent rows q s with | none => false | some cs => acc rows a (nth cs 0)
  | .b s x y, q => match ent rows q s with | none => false | some cs => acc rows x (nth cs 0) && acc rows y (nth cs 1)
theorem vis_acc (rows : List (List En)) : ∀ (t : T) (q : Nat) (p : List Nat), (vis rows t q p).any (fun z => z.2.2) = !acc rows t q
  | .l s, q, p => by cases e : ent rows q s <;> simp [vis, acc, e]
  | .u s a, q, p => by
    cases e : ent rows q s with
    | none => simp [vis, acc, e]
    | some cs => simp only [vis, acc, e, List.any_cons]; rw [vis_acc rows a]; rfl
  | .b s x y, q, p => by
    cases e : ent rows q s with
    | none => simp [vis, acc, e]
    | some cs => simp only [vis, acc, e, List.any_cons, List.any_append]; rw [vis_acc rows x, vis_acc rows y, Bool.not_and]; rfl
theorem vis_len (rows : List (List En)) : ∀ (t : T) (q : Nat) (p : List Nat), (vis rows t q p).length ≤ t.n
  | .l s, q, p => by simp [vis, T.n]
  | .u s a, q, p => by
    cases e : ent rows q s with
    | none => simp [vis, e, T.n]
    | some cs => have := vis_len rows a (nth cs 0) (p ++ [0]); simp only [vis, e, T.n, List.length_cons]; omega
  | .b s x y, q, p => by
    cases e : ent rows q s with
    | none => simp [vis, e, T.n]
    | some cs => have := vis_len rows x (nth cs 0) (p ++ [0]); have := vis_len rows y (nth cs 1) (p ++ [1]); simp only [vis, e, T.n, List.length_cons, List.length_append]; omega
theorem lev_visits (k : Nat) : (lev (k + 1))._visits = d__visits (lev k)._visits := rfl
abbrev rwsD (rows : List (List En)) : D := .tuple (rows.map rwD)
theorem at_ent {A : List Int} {q0 : Nat} {rows : List (List En)} (h : tbOk A q0 rows) {q s : Nat} {a : Int} (hq : q < rows.length) (ha : A[s]? = some a) :
    ∃ r : List En, atI (rows.map rwD) (q : Int) = some (.tuple (r.map enD)) ∧ atI (r.map enD) (s : Int) = some (enD (ent rows q s)) ∧ enOk rows.length a (ent rows q s) := by
  obtain ⟨r, e1, e2, e3⟩ := ent_get h hq ha
  have hs := (List.getElem?_eq_some_iff.mp e2).1
  refine ⟨r, ?_, ?_, e3⟩
  · rw [atI_n (by omega) (by rw [List.length_map]; omega), Int.toNat_natCast, List.getElem?_map, e1]; rfl
  · rw [atI_n (by omega) (by rw [List.length_map]; omega), Int.toNat_natCast, List.getElem?_map, e2]; rfl
theorem at_cs {cs : List Nat} {i : Nat} (h : i < cs.length) : atI (cs.map fun (i : Nat) => PyData.int (i : Int)) (i : Int) = some (.int (nth cs i : Nat)) := by
  unfold nth
  rw [atI_n (by omega) (by rw [List.length_map]; omega), Int.toNat_natCast, List.getElem?_map, List.getElem?_eq_getElem h, List.getD_eq_getElem?_getD, List.getElem?_eq_getElem h]
  rfl
theorem getD_lt {cs : List Nat} {m i : Nat} (h : ∀ c ∈ cs, c < m) (hi : i < cs.length) : nth cs i < m := by
  unfold nth
  rw [List.getD_eq_getElem?_getD, List.getElem?_eq_getElem hi]
  exact h _ (List.getElem_mem hi)
theorem visits_eq {A : List Int} {q0 : Nat} {rows : List (List En)} (h : tbOk A q0 rows) : ∀ (t : T) (k q : Nat) (p : List Nat) (S : Sto), t.ok A → t.n ≤ k → q < rows.length → p.length + t.n ≤ 1000 →
    (lev k)._visits [.d (rwsD rows), .d t.d, .d (.int q), .d (pD p)] S = some (.new ((vis rows t q p).map vsD), S)
  | .l s, 0, q, p, S, ho, hk, hq, hp => by simp [T.n] at hk
  | .u s a, 0, q, p, S, ho, hk, hq, hp => by simp [T.n] at hk
  | .b s x y, 0, q, p, S, ho, hk, hq, hp => by simp [T.n] at hk
  | .l s, k + 1, q, p, S, ho, hk, hq, hp => by
    rw [lev_visits]
    obtain ⟨r, e1, e2, e3⟩ := at_ent h hq ho
    cases e : ent rows q s with
    | none =>
      rw [e] at e2
      simp [d__visits, mDef, mSeq, mRet, mRetL, mRetV, mRetN, mIfS, mAsg, mNew, mAug, mSub, mApp, mExtN, mExtT, mPop, mDrop, mNext, mNever, mOp, mUn, mVar, mC, mQVar, mLVar, mIxV, mQE, mLE, mEN, asL, asQ, mTup, mLst, mDs, datas, mA0, mA1, mAV, mCat, mTB, mTru, tru, mTruQ, mAnd, mOr, mNot, mAndV, mOrV, mNotV, mIf, mChain, mLen, mAll, mAny, mBools, mSum, mList, mTuple, mB, fAbs, fInt, fMax2, fMin2, mIsi, fIsi, tyN, fAdd, fTT, fSub, fMulX, fMul, fRep, fII, fI0, bMul, bDiv, bMod, bPow, fDiv, fMod, fPow, fLt, fLe, fGt, fGe, fIs, fIsNot, fIsB, fNotB, fIsN, fNotN, isN, fNeg, fIx, mCall, mCallN, rtD, rtN, mgN, mg0, mg1, mgT, mO0, mO1, mSlT, mSlL, mYes, mR1, mR2, mNotT, mNotTQ, mInQ, mCatV, mCatX, mCatY, mSlV, Option.bind, mEnum, T.d, e1, e2, atI_0, enD, tr_last, vis, e, vsD, Option.or]
    | some cs =>
      rw [e] at e2
      simp [d__visits, mDef, mSeq, mRet, mRetL, mRetV, mRetN, mIfS, mAsg, mNew, mAug, mSub, mApp, mExtN, mExtT, mPop, mDrop, mNext, mNever, mOp, mUn, mVar, mC, mQVar, mLVar, mIxV, mQE, mLE, mEN, asL, asQ, mTup, mLst, mDs, datas, mA0, mA1, mAV, mCat, mTB, mTru, tru, mTruQ, mAnd, mOr, mNot, mAndV, mOrV, mNotV, mIf, mChain, mLen, mAll, mAny, mBools, mSum, mList, mTuple, mB, fAbs, fInt, fMax2, fMin2, mIsi, fIsi, tyN, fAdd, fTT, fSub, fMulX, fMul, fRep, fII, fI0, bMul, bDiv, bMod, bPow, fDiv, fMod, fPow, fLt, fLe, fGt, fGe, fIs, fIsNot, fIsB, fNotB, fIsN, fNotN, isN, fNeg, fIx, mCall, mCallN, rtD, rtN, mgN, mg0, mg1, mgT, mO0, mO1, mSlT, mSlL, mYes, mR1, mR2, mNotT, mNotTQ, mInQ, mCatV, mCatX, mCatY, mSlV, Option.bind, mEnum, mFor, forRun, T.d, e1, e2, atI_0, enD, tr_last, vis, e, vsD, cut_f1, enumD, Option.or]
  | .u s a, k + 1, q, p, S, ho, hk, hq, hp => by
    rw [lev_visits]
    obtain ⟨ha, ho⟩ := ho
    obtain ⟨r, e1, e2, e3⟩ := at_ent h hq ha
    simp only [T.n] at hk hp
    cases e : ent rows q s with
    | none =>
      rw [e] at e2
      simp [d__visits, mDef, mSeq, mRet, mRetL, mRetV, mRetN, mIfS, mAsg, mNew, mAug, mSub, mApp, mExtN, mExtT, mPop, mDrop, mNext, mNever, mOp, mUn, mVar, mC, mQVar, mLVar, mIxV, mQE, mLE, mEN, asL, asQ, mTup, mLst, mDs, datas, mA0, mA1, mAV, mCat, mTB, mTru, tru, mTruQ, mAnd, mOr, mNot, mAndV, mOrV, mNotV, mIf, mChain, mLen, mAll, mAny, mBools, mSum, mList, mTuple, mB, fAbs, fInt, fMax2, fMin2, mIsi, fIsi, tyN, fAdd, fTT, fSub, fMulX, fMul, fRep, fII, fI0, bMul, bDiv, bMod, bPow, fDiv, fMod, fPow, fLt, fLe, fGt, fGe, fIs, fIsNot, fIsB, fNotB, fIsN, fNotN, isN, fNeg, fIx, mCall, mCallN, rtD, rtN, mgN, mg0, mg1, mgT, mO0, mO1, mSlT, mSlL, mYes, mR1, mR2, mNotT, mNotTQ, mInQ, mCatV, mCatX, mCatY, mSlV, Option.bind, mEnum, T.d, e1, e2, atI_0, enD, tr_last, vis, e, vsD, Option.or]
    | some cs =>
      rw [e] at e2 e3
      obtain ⟨c1, c2⟩ := e3
      have c0 : 0 < cs.length := by omega
      have ih := fun S => visits_eq h a k (nth cs 0) (p ++ [0]) S ho (by omega) (getD_lt c2 c0) (by simp; omega)
      have ec := at_cs c0
      have hl := vis_len rows a (nth cs 0) (p ++ [0])
      simp only [Int.natCast_zero, List.map_append, List.map_cons, List.map_nil, pD, Int.ofNat_zero] at ec ih
      simp [d__visits, mDef, mSeq, mRet, mRetL, mRetV, mRetN, mIfS, mAsg, mNew, mAug, mSub, mApp, mExtN, mExtT, mPop, mDrop, mNext, mNever, mOp, mUn, mVar, mC, mQVar, mLVar, mIxV, mQE, mLE, mEN, asL, asQ, mTup, mLst, mDs, datas, mA0, mA1, mAV, mCat, mTB, mTru, tru, mTruQ, mAnd, mOr, mNot, mAndV, mOrV, mNotV, mIf, mChain, mLen, mAll, mAny, mBools, mSum, mList, mTuple, mB, fAbs, fInt, fMax2, fMin2, mIsi, fIsi, tyN, fAdd, fTT, fSub, fMulX, fMul, fRep, fII, fI0, bMul, bDiv, bMod, bPow, fDiv, fMod, fPow, fLt, fLe, fGt, fGe, fIs, fIsNot, fIsB, fNotB, fIsN, fNotN, isN, fNeg, fIx, mCall, mCallN, rtD, rtN, mgN, mg0, mg1, mgT, mO0, mO1, mSlT, mSlL, mYes, mR1, mR2, mNotT, mNotTQ, mInQ, mCatV, mCatX, mCatY, mSlV, Option.bind, mEnum, mFor, forRun, T.d, e1, e2, atI_0, enD, tr_last, tr_set, vis, e, vsD, cut_f1, enumD, Option.or, ec, ih, show p.length + 1 ≤ 1000000 by omega, show 1 + (vis rows a (nth cs 0) (p ++ [0])).length ≤ 1000000 by omega]
  | .b s x y, k + 1, q, p, S, ho, hk, hq, hp => by
    rw [lev_visits]
    obtain ⟨ha, ho1, ho2⟩ := ho
    obtain ⟨r, e1, e2, e3⟩ := at_ent h hq ha
    simp only [T.n] at hk hp
    cases e : ent rows q s with
    | none =>
      rw [e] at e2
      simp [d__visits, mDef, mSeq, mRet, mRetL, mRetV, mRetN, mIfS, mAsg, mNew, mAug, mSub, mApp, mExtN, mExtT, mPop, mDrop, mNext, mNever, mOp, mUn, mVar, mC, mQVar, mLVar, mIxV, mQE, mLE, mEN, asL, asQ, mTup, mLst, mDs, datas, mA0, mA1, mAV, mCat, mTB, mTru, tru, mTruQ, mAnd, mOr, mNot, mAndV, mOrV, mNotV, mIf, mChain, mLen, mAll, mAny, mBools, mSum, mList, mTuple, mB, fAbs, fInt, fMax2, fMin2, mIsi, fIsi, tyN, fAdd, fTT, fSub, fMulX, fMul, fRep, fII, fI0, bMul, bDiv, bMod, bPow, fDiv, fMod, fPow, fLt, fLe, fGt, fGe, fIs, fIsNot, fIsB, fNotB, fIsN, fNotN, isN, fNeg, fIx, mCall, mCallN, rtD, rtN, mgN, mg0, mg1, mgT, mO0, mO1, mSlT, mSlL, mYes, mR1, mR2, mNotT, mNotTQ, mInQ, mCatV, mCatX, mCatY, mSlV, Option.bind, mEnum, T.d, e1, e2, atI_0, enD, tr_last, vis, e, vsD, Option.or]
    | some cs =>
      rw [e] at e2 e3
      obtain ⟨c1, c2⟩ := e3
      have c0 : 0 < cs.length := by omega
      have c0' : 1 < cs.length := by omega
      have ih := fun S => visits_eq h x k (nth cs 0) (p ++ [0]) S ho1 (by omega) (getD_lt c2 c0) (by simp; omega)
      have ih' := fun S => visits_eq h y k (nth cs 1) (p ++ [1]) S ho2 (by omega) (getD_lt c2 c0') (by simp; omega)
      have ec := at_cs c0
      have ec' := at_cs c0'
      have hl := vis_len rows x (nth cs 0) (p ++ [0])
      have hl' := vis_len rows y (nth cs 1) (p ++ [1])
      simp only [List.map_append, List.map_cons, List.map_nil, pD, Int.ofNat_zero, show ((1 : Nat) : Int) = 1 from rfl] at ec ec' ih ih'
      simp [d__visits, mDef, mSeq, mRet, mRetL, mRetV, mRetN, mIfS, mAsg, mNew, mAug, mSub, mApp, mExtN, mExtT, mPop, mDrop, mNext, mNever, mOp, mUn, mVar, mC, mQVar, mLVar, mIxV, mQE, mLE, mEN, asL, asQ, mTup, mLst, mDs, datas, mA0, mA1, mAV, mCat, mTB, mTru, tru, mTruQ, mAnd, mOr, mNot, mAndV, mOrV, mNotV, mIf, mChain, mLen, mAll, mAny, mBools, mSum, mList, mTuple, mB, fAbs, fInt, fMax2, fMin2, mIsi, fIsi, tyN, fAdd, fTT, fSub, fMulX, fMul, fRep, fII, fI0, bMul, bDiv, bMod, bPow, fDiv, fMod, fPow, fLt, fLe, fGt, fGe, fIs, fIsNot, fIsB, fNotB, fIsN, fNotN, isN, fNeg, fIx, mCall, mCallN, rtD, rtN, mgN, mg0, mg1, mgT, mO0, mO1, mSlT, mSlL, mYes, mR1, mR2, mNotT, mNotTQ, mInQ, mCatV, mCatX, mCatY, mSlV, Option.bind, mEnum, mFor, forRun, T.d, e1, e2, atI_0, enD, tr_last, tr_set, vis, e, vsD, cut_f1, enumD, Option.or, ec, ec', ih, ih', show p.length + 1 ≤ 1000000 by omega, show 1 + (vis rows x (nth cs 0) (p ++ [0])).length ≤ 1000000 by omega, show (vis rows x (nth cs 0) (p ++ [0])).length + 1 + (vis rows y (nth cs 1) (p ++ [1])).length ≤ 1000000 by omega]

/-! run -/
abbrev reqTT : Fn := d__require_table_and_tree d_require isTbl (d_is_tree isNodeF)
theorem req_eq {A : List Int} {q : Nat} {rows : List (List En)} {t : T} (h : tbOk A q rows) (hA : Ar A) (ho : t.ok A) (hn : t.n ≤ 15) (S : Sto) : reqTT [.d (dA A), .d (tbD q rows), .d t.d] S = some (.val .none, S) := by
  have e1 := table_eq h hA S
  have e2 := is_tree_good S ho hn
  simp [reqTT, d__require_table_and_tree, mDef, mSeq, mRet, mRetL, mRetV, mRetN, mIfS, mAsg, mNew, mAug, mSub, mApp, mExtN, mExtT, mPop, mDrop, mNext, mNever, mOp, mUn, mVar, mC, mQVar, mLVar, mIxV, mQE, mLE, mEN, asL, asQ, mTup, mLst, mDs, datas, mA0, mA1, mAV, mCat, mTB, mTru, tru, mTruQ, mAnd, mOr, mNot, mAndV, mOrV, mNotV, mIf, mChain, mLen, mAll, mAny, mBools, mSum, mList, mTuple, mB, fAbs, fInt, fMax2, fMin2, mIsi, fIsi, tyN, fAdd, fTT, fSub, fMulX, fMul, fRep, fII, fI0, bMul, bDiv, bMod, bPow, fDiv, fMod, fPow, fLt, fLe, fGt, fGe, fIs, fIsNot, fIsB, fNotB, fIsN, fNotN, isN, fNeg, fIx, mCall, mCallN, rtD, rtN, mgN, mg0, mg1, mgT, mO0, mO1, mSlT, mSlL, mYes, mR1, mR2, mNotT, mNotTQ, mInQ, mCatV, mCatX, mCatY, mSlV, Option.bind, e1, e2, require_eq]
def vP (d : D) : Bool := match d with
  | .tuple [_, _, .bool b] => b
  | _ => false
def v1 (d : D) : D := match d with
  | .tuple [a, _, _] => a
  | _ => .none
def v12 (d : D) : D := match d with
  | .tuple [a, b, _] => .tuple [a, b]
  | _ => .none
theorem run_eq {A : List Int} {q : Nat} {rows : List (List En)} {t : T} (h : tbOk A q rows) (hA : Ar A) (ho : t.ok A) (hn : t.n ≤ 15) (k : Nat) (hk : 15 ≤ k) (S : Sto) :
    ∃ X Y, d_run reqTT (lev k)._visits [.d (dA A), .d (tbD q rows), .d t.d] S = some (.val (.tuple [.bool (acc rows t q), X, Y]), S) := by
  have e1 := req_eq h hA ho hn S
  have e2 := visits_eq h t k q [] S ho (by omega) h.1 (by simp; omega)
  obtain ⟨v, hv⟩ : ∃ v, vis rows t q [] = v := ⟨_, rfl⟩
  have hvl := vis_len rows t q []
  have hva := vis_acc rows t q []
  rw [hv] at e2 hvl hva
  have k1 := fun w0 w1 w2 w3 w4 w8 => lc_filter (mg := mgT 3 (mg1 (mgN 5) (mg1 (mgN 6) (mg1 (mgN 7) mg0)))) (mt := mTru (mVar 7)) (me := mVar 5) (ρ := [w0, w1, w2, w3, w4, none, none, none, w8]) (S := S) v1 vP (fun d => match d with | .tuple [x, y, z] => [w0, w1, w2, w3, w4, some (.d x), some (.d y), some (.d z), w8] | _ => []) (xs := v.map vsD)
    (fun x hx => by obtain ⟨z, hz, rfl⟩ := List.mem_map.mp hx; simp [mgT, mg1, mg0, mgN, vsD, Option.bind])
    (fun x hx => by obtain ⟨z, hz, rfl⟩ := List.mem_map.mp hx; simp [vsD, mTru, mVar, tru, vP])
    (fun x hx => by obtain ⟨z, hz, rfl⟩ := List.mem_map.mp hx; simp [vsD, mVar, v1])
  have k2 := fun w0 w1 w2 w3 w4 w8 => lc_map (mg := mgT 3 (mg1 (mgN 5) (mg1 (mgN 6) (mg1 (mgN 7) mg0)))) (me := mTup (mA1 (mVar 5) (mA1 (mVar 6) mA0))) (ρ := [w0, w1, w2, w3, w4, none, none, none, w8]) (S := S) v12 (fun d => match d with | .tuple [x, y, z] => [w0, w1, w2, w3, w4, some (.d x), some (.d y), some (.d z), w8] | _ => []) (xs := v.map vsD)
    (fun x hx => by obtain ⟨z, hz, rfl⟩ := List.mem_map.mp hx; simp [mgT, mg1, mg0, mgN, vsD, Option.bind])
    (fun x hx => by obtain ⟨z, hz, rfl⟩ := List.mem_map.mp hx; simp [mDef, mSeq, mRet, mRetL, mRetV, mRetN, mIfS, mAsg, mNew, mAug, mSub, mApp, mExtN, mExtT, mPop, mDrop, mNext, mNever, mOp, mUn, mVar, mC, mQVar, mLVar, mIxV, mQE, mLE, mEN, asL, asQ, mTup, mLst, mDs, datas, mA0, mA1, mAV, mCat, mTB, mTru, tru, mTruQ, mAnd, mOr, mNot, mAndV, mOrV, mNotV, mIf, mChain, mLen, mAll, mAny, mBools, mSum, mList, mTuple, mB, fAbs, fInt, fMax2, fMin2, mIsi, fIsi, tyN, fAdd, fTT, fSub, fMulX, fMul, fRep, fII, fI0, bMul, bDiv, bMod, bPow, fDiv, fMod, fPow, fLt, fLe, fGt, fGe, fIs, fIsNot, fIsB, fNotB, fIsN, fNotN, isN, fNeg, fIx, mCall, mCallN, rtD, rtN, mgN, mg0, mg1, mgT, mO0, mO1, mSlT, mSlL, mYes, mR1, mR2, mNotT, mNotTQ, mInQ, mCatV, mCatX, mCatY, mSlV, Option.bind, vsD, v12])
  obtain ⟨fl, hfl⟩ : ∃ fl, ((v.map vsD).filter vP).map v1 = fl := ⟨_, rfl⟩
  obtain ⟨ys, hys⟩ : ∃ ys, (v.map vsD).map v12 = ys := ⟨_, rfl⟩
  have he : fl.isEmpty = acc rows t q := by
    have h1 : (v.any fun z => z.2.2) = !fl.isEmpty := by
      rw [← hfl]
      clear hva hvl e2 hv k1 k2 hfl hys
      induction v with
      | nil => rfl
      | cons z v ih =>
        obtain ⟨a, b, c⟩ := z
        cases c with
        | true => simp [vsD, vP]
        | false => simpa [vsD, vP] using ih
    rw [h1] at hva
    exact Bool.not_inj hva
  simp only [hfl] at k1
  simp only [hys] at k2
  have e2' : (lev k)._visits [.d (.tuple (rows.map rwD)), .d t.d, .d (.int q), .d (.tuple [])] S = some (.new (v.map vsD), S) := e2
  simp only [tbD] at e1
  cases fl with
  | nil =>
    refine ⟨.none, .tuple ys, ?_⟩
    rw [← he]
    simp [d_run, mDef, mSeq, mRet, mRetL, mRetV, mRetN, mIfS, mAsg, mNew, mAug, mSub, mApp, mExtN, mExtT, mPop, mDrop, mNext, mNever, mOp, mUn, mVar, mC, mQVar, mLVar, mIxV, mQE, mLE, mEN, asL, asQ, mTup, mLst, mDs, datas, mA0, mA1, mAV, mCat, mTB, mTru, tru, mTruQ, mAnd, mOr, mNot, mAndV, mOrV, mNotV, mIf, mChain, mLen, mAll, mAny, mBools, mSum, mList, mTuple, mB, fAbs, fInt, fMax2, fMin2, mIsi, fIsi, tyN, fAdd, fTT, fSub, fMulX, fMul, fRep, fII, fI0, bMul, bDiv, bMod, bPow, fDiv, fMod, fPow, fLt, fLe, fGt, fGe, fIs, fIsNot, fIsB, fNotB, fIsN, fNotN, isN, fNeg, fIx, mCall, mCallN, rtD, rtN, mgN, mg0, mg1, mgT, mO0, mO1, mSlT, mSlL, mYes, mR1, mR2, mNotT, mNotTQ, mInQ, mCatV, mCatX, mCatY, mSlV, Option.bind, e1, tbD, a21, atI_0, e2', mLc, wipeR, show v.length ≤ 1000000 by omega, k1, k2]
  | cons y fl =>
    refine ⟨y, .tuple ys, ?_⟩
    rw [← he]
    simp [d_run, mDef, mSeq, mRet, mRetL, mRetV, mRetN, mIfS, mAsg, mNew, mAug, mSub, mApp, mExtN, mExtT, mPop, mDrop, mNext, mNever, mOp, mUn, mVar, mC, mQVar, mLVar, mIxV, mQE, mLE, mEN, asL, asQ, mTup, mLst, mDs, datas, mA0, mA1, mAV, mCat, mTB, mTru, tru, mTruQ, mAnd, mOr, mNot, mAndV, mOrV, mNotV, mIf, mChain, mLen, mAll, mAny, mBools, mSum, mList, mTuple, mB, fAbs, fInt, fMax2, fMin2, mIsi, fIsi, tyN, fAdd, fTT, fSub, fMulX, fMul, fRep, fII, fI0, bMul, bDiv, bMod, bPow, fDiv, fMod, fPow, fLt, fLe, fGt, fGe, fIs, fIsNot, fIsB, fNotB, fIsN, fNotN, isN, fNeg, fIx, mCall, mCallN, rtD, rtN, mgN, mg0, mg1, mgT, mO0, mO1, mSlT, mSlL, mYes, mR1, mR2, mNotT, mNotTQ, mInQ, mCatV, mCatX, mCatY, mSlV, Option.bind, e1, tbD, a21, atI_0, e2', mLc, wipeR, show v.length ≤ 1000000 by omega, k1, k2]
end G
set_option linter.all false
set_option autoImplicit false
set_option maxRecDepth 100000
set_option maxHeartbeats 2000000
namespace G
open PySem L2
/-! fewer entries -/
inductive LeR : List En → List En → Prop
  | nil : LeR [] []
  | keep {e : En} {r r' : List En} : LeR r' r → LeR (e :: r') (e :: r)
  | drop {e : En} {r r' : List En} : LeR r' r → LeR (none :: r') (e :: r)
theorem LeR.ok {m : Nat} {r' r : List En} (h : LeR r' r) : ∀ {A : List Int}, RwOk m A r → RwOk m A r' := by
  induction h with
  | nil => intro A h; exact h
  | keep _ ih => intro A h; cases h with | cons h1 h2 => exact .cons h1 (ih h2)
  | drop _ ih => intro A h; cases h with | cons h1 h2 => exact .cons trivial (ih h2)
theorem LeR.at {r' r : List En} (h : LeR r' r) : ∀ s, r'.getD s none = none ∨ r'.getD s none = r.getD s none := by
  induction h with
  | nil => intro s; exact .inr rfl
  | keep _ ih => intro s; cases s with | zero => exact .inr rfl | succ s => exact ih s
  | drop _ ih => intro s; cases s with | zero => exact .inl rfl | succ s => exact ih s
inductive LeT : List (List En) → List (List En) → Prop
  | nil : LeT [] []
  | cons {r r' : List En} {t t' : List (List En)} : LeR r' r → LeT t' t → LeT (r' :: t') (r :: t)
theorem LeT.len {t' t : List (List En)} (h : LeT t' t) : t'.length = t.length := by
  induction h with
  | nil => rfl
  | cons _ _ ih => simp [ih]
theorem LeT.ok {m : Nat} {A : List Int} {t' t : List (List En)} (h : LeT t' t) : (∀ r ∈ t, RwOk m A r) → ∀ r ∈ t', RwOk m A r := by
  induction h with
  | nil => intro h; exact h
  | cons h1 _ ih =>
    intro h r hr
    rcases List.mem_cons.mp hr with rfl | hr
    · exact h1.ok (h _ List.mem_cons_self)
    · exact ih (fun r hr => h r (List.mem_cons_of_mem _ hr)) r hr
theorem LeT.ent {t' t : List (List En)} (h : LeT t' t) (s : Nat) : ∀ q, ent t' q s = none ∨ ent t' q s = ent t q s := by
  induction h with
  | nil => intro q; exact .inr rfl
  | cons h1 _ ih =>
    intro q
    cases q with
    | zero => exact h1.at s
    | succ q => exact ih q
theorem LeT.acc {t' t : List (List En)} (h : LeT t' t) : ∀ (x : T) (q : Nat), acc t' x q = true → G.acc t x q = true
  | .l s, q, e => by
    simp only [G.acc] at e ⊢
    rcases h.ent s q with z | z
    · rw [z] at e; cases e
    · rw [← z]; exact e
  | .u s a, q, e => by
    simp only [G.acc] at e ⊢
    rcases h.ent s q with z | z
    · rw [z] at e; cases e
    · rw [← z]
      cases c : G.ent t' q s with
      | none => rw [c] at e; cases e
      | some cs => rw [c] at e; exact LeT.acc h a _ e
  | .b s x y, q, e => by
    simp only [G.acc] at e ⊢
    rcases h.ent s q with z | z
    · rw [z] at e; cases e
    · rw [← z]
      cases c : G.ent t' q s with
      | none => rw [c] at e; cases e
      | some cs =>
        rw [c] at e
        have e : (G.acc t' x (nth cs 0) && G.acc t' y (nth cs 1)) = true := e
        rw [Bool.and_eq_true] at e
        show (G.acc t x (nth cs 0) && G.acc t y (nth cs 1)) = true
        rw [LeT.acc h x _ e.1, LeT.acc h y _ e.2]
        rfl
theorem LeT.tb {A : List Int} {q : Nat} {t' t : List (List En)} (h : LeT t' t) (k : tbOk A q t) : tbOk A q t' := by
  obtain ⟨h1, h2, h3⟩ := k
  refine ⟨by rw [h.len]; exact h1, by rw [h.len]; exact h2, ?_⟩
  rw [h.len]
  exact h.ok h3
/-! exchange -/
def T.put : T → T → List Nat → T
  | _, z, [] => z
  | .l _, z, _ :: _ => z
  | .u s a, z, _ :: p => .u s (a.put z p)
  | .b s x y, z, 0 :: p => .b s (x.put z p) y
  | .b s x y, z, _ :: p => .b s x (y.put z p)
theorem putD_put (u : T) : ∀ (p : List Nat) (t : T), t.has p → t.putD u.d p = (t.put u p).d
  | [], t, h => by cases t <;> rfl
  | i :: p, .l s, h => by cases i <;> exact absurd h (by simp [T.has])
  | i :: p, .u s a, h => by
    cases i with
    | succ i => exact absurd h (by simp [T.has])
    | zero => have := putD_put u p a h; simp [T.putD, T.put, T.d, this]
  | i :: p, .b s x y, h => by
    cases i with
    | zero => have := putD_put u p x h; simp [T.putD, T.put, T.d, this]
    | succ i =>
      cases i with
      | succ i => exact absurd h (by simp [T.has])
      | zero => have := putD_put u p y h; simp [T.putD, T.put, T.d, this]
theorem sub_ok {A : List Int} : ∀ (p : List Nat) (t : T), t.ok A → t.has p → (t.sub p).ok A ∧ (t.sub p).n ≤ t.n
  | [], t, h, _ => by cases t <;> exact ⟨h, Nat.le_refl _⟩
  | i :: p, .l s, h, hp => by cases i <;> exact absurd hp (by simp [T.has])
  | i :: p, .u s a, h, hp => by
    cases i with
    | succ i => exact absurd hp (by simp [T.has])
    | zero => have := sub_ok p a h.2 hp; exact ⟨this.1, by have := this.2; simp [T.sub, T.n]; omega⟩
  | i :: p, .b s x y, h, hp => by
    cases i with
    | zero => have := sub_ok p x h.2.1 hp; exact ⟨this.1, by have := this.2; simp [T.sub, T.n]; omega⟩
    | succ i =>
      cases i with
      | succ i => exact absurd hp (by simp [T.has])
      | zero => have := sub_ok p y h.2.2 hp; exact ⟨this.1, by have := this.2; simp [T.sub, T.n]; omega⟩
theorem put_ok {A : List Int} {u : T} (hu : u.ok A) : ∀ (p : List Nat) (t : T), t.ok A → (t.put u p).ok A ∧ (t.put u p).n ≤ t.n + u.n
  | [], t, h => by cases t <;> exact ⟨hu, by simp [T.put]⟩
  | i :: p, .l s, h => ⟨hu, by simp [T.put]⟩
  | i :: p, .u s a, h => by have := put_ok hu p a h.2; exact ⟨⟨h.1, this.1⟩, by have := this.2; simp [T.put, T.n]; omega⟩
  | i :: p, .b s x y, h => by
    cases i with
    | zero => have := put_ok hu p x h.2.1; exact ⟨⟨h.1, this.1, h.2.2⟩, by have := this.2; simp [T.put, T.n]; omega⟩
    | succ i => have := put_ok hu p y h.2.2; exact ⟨⟨h.1, h.2.1, this.1⟩, by have := this.2; simp [T.put, T.n]; omega⟩
theorem exch {A : List Int} (rows : List (List En)) : ∀ (p : List Nat) (a b : T) (q : Nat), a.ok A → b.ok A → a.has p → b.has p → alike a b p = true → acc rows a q = true → acc rows b q = true → acc rows (a.put (b.sub p) p) q = true
  | [], a, b, q, oa, ob, ha, hb, h, ca, cb => by cases a <;> cases b <;> exact cb
  | i :: p, a, b, q, oa, ob, ha, hb, h, ca, cb => by
    have h : (decide (a.sy = b.sy) && alike (a.kid i) (b.kid i) p) = true := h
    rw [Bool.and_eq_true, decide_eq_true_eq] at h
    obtain ⟨hs, h⟩ := h
    cases a with
    | l s => cases i <;> exact absurd ha (by simp [T.has])
    | u s a =>
      cases i with
      | succ i => exact absurd ha (by simp [T.has])
      | zero =>
        cases b with
        | l s' => exact absurd hb (by simp [T.has])
        | b s' x y =>
          exact absurd (oa.1.symm.trans ((show s = s' from hs) ▸ ob.1)) (by decide)
        | u s' b =>
          have hs : s = s' := hs
          subst hs
          simp only [acc] at ca cb
          simp only [T.sub, T.put, acc]
          cases c : ent rows q s with
          | none => rw [c] at ca; cases ca
          | some cs =>
            rw [c] at ca cb
            exact exch rows p a b _ oa.2 ob.2 ha hb h ca cb
    | b s x y =>
      cases b with
      | l s' => cases i <;> exact absurd hb (by simp [T.has])
      | u s' b => exact absurd (oa.1.symm.trans ((show s = s' from hs) ▸ ob.1)) (by decide)
      | b s' x' y' =>
        have hs : s = s' := hs
        subst hs
        simp only [acc] at ca cb
        cases c : ent rows q s with
        | none => rw [c] at ca; cases ca
        | some cs =>
          rw [c] at ca cb
          have ca : (acc rows x (nth cs 0) && acc rows y (nth cs 1)) = true := ca
          have cb : (acc rows x' (nth cs 0) && acc rows y' (nth cs 1)) = true := cb
          rw [Bool.and_eq_true] at ca cb
          cases i with
          | zero =>
            simp only [T.sub, T.put, acc, c]
            rw [exch rows p x x' _ oa.2.1 ob.2.1 ha hb h ca.1 cb.1, ca.2]
            rfl
          | succ i =>
            cases i with
            | succ i => exact absurd ha (by simp [T.has])
            | zero =>
              simp only [T.sub, T.put, acc, c]
              rw [exch rows p y y' _ oa.2.2 ob.2.2 ha hb h ca.2 cb.2, ca.1]
              rfl
/-! a place among places -/
theorem lay_places : ∀ ps : List (List Nat), PyData.canLayAll0 (ps.map pD) = true ∧ PyData.depthAll (ps.map pD) ≤ 1
  | [] => ⟨rfl, Nat.zero_le _⟩
  | p :: ps => by
    obtain ⟨h1, h2⟩ := lay_places ps
    obtain ⟨h3, h4⟩ := sh_ints p
    refine ⟨?_, ?_⟩
    · show (PyData.canLayAll0 _ && PyData.canLayAll0 _) = true
      rw [h1, h3]; rfl
    · show max (PyData.depthAll _ + 1) (PyData.depthAll _) ≤ 1
      rw [h4]; omega
theorem sh_places (ps : List (List Nat)) : SeqAt.shaped (.list (ps.map pD)) = true := by
  obtain ⟨h1, h2⟩ := lay_places ps
  show (PyData.canLayAll0 _ && decide (PyData.depthAll _ + 1 ≤ 64)) = true
  rw [h1, Bool.true_and, decide_eq_true_eq]
  omega
theorem ev_places : ∀ p q : List Nat, PyData.eqv (pD p) (pD q) = true → p = q
  | [], [], _ => rfl
  | [], _ :: _, h => by cases h
  | _ :: _, [], h => by cases h
  | i :: p, j :: q, h => by
    have h : (((i : Int) == (j : Int)) && PyData.eqv (pD p) (pD q)) = true := h
    rw [Bool.and_eq_true, beq_iff_eq] at h
    rw [ev_places p q h.2, show i = j by omega]
theorem in_places (p : List Nat) (b : T) : ∃ c : Bool, inD (pD p) (b.places.map pD) = some c ∧ (c = true → b.has p) := by
  refine ⟨(b.places.map pD).any fun z => PyData.eqv z (pD p), ?_, fun h => ?_⟩
  · unfold inD
    rw [sh_place, sh_places]
    rfl
  · rw [List.any_eq_true] at h
    obtain ⟨z, hz, e⟩ := h
    obtain ⟨q, hq, rfl⟩ := List.mem_map.mp hz
    rw [← ev_places q p e]
    exact places_has b q hq
end G
set_option linter.all false
set_option autoImplicit false
set_option maxRecDepth 100000
set_option maxHeartbeats 2000000
namespace G
open PySem L2
theorem stream_eq (ns : List Int) (S : Sto) : d__law_stream [.d (.list (ns.map .int))] S = some (.new (Cell ns 0 0), S) := by
  simp [d__law_stream, mDef, mSeq, mRet, mRetL, mRetV, mRetN, mIfS, mAsg, mNew, mAug, mSub, mApp, mExtN, mExtT, mPop, mDrop, mNext, mNever, mOp, mUn, mVar, mC, mQVar, mLVar, mIxV, mQE, mLE, mEN, asL, asQ, mTup, mLst, mDs, datas, mA0, mA1, mAV, mCat, mTB, mTru, tru, mTruQ, mAnd, mOr, mNot, mAndV, mOrV, mNotV, mIf, mChain, mLen, mAll, mAny, mBools, mSum, mList, mTuple, mB, fAbs, fInt, fMax2, fMin2, mIsi, fIsi, tyN, fAdd, fTT, fSub, fMulX, fMul, fRep, fII, fI0, bMul, bDiv, bMod, bPow, fDiv, fMod, fPow, fLt, fLe, fGt, fGe, fIs, fIsNot, fIsB, fNotB, fIsN, fNotN, isN, fNeg, fIx, mCall, mCallN, rtD, rtN, mgN, mg0, mg1, mgT, mO0, mO1, mSlT, mSlL, mYes, mR1, mR2, mNotT, mNotTQ, mInQ, mCatV, mCatX, mCatY, mSlV, Option.bind]
theorem lev_equal (k : Nat) : (lev (k + 2))._law_equal = d__law_equal d__law_is_integer (lev (k + 1))._law_equal := rfl
theorem equal_tt (k : Nat) (S : Sto) : (lev (k + 2))._law_equal [.d (.bool true), .d (.bool true)] S = some (.val (.bool true), S) := by
  obtain ⟨b1, b2, b3, b4, b5, b6⟩ := kit2
  rw [lev_equal]
  have h1 : SeqAt.shaped (.bool true) = true := rfl
  have h2 : PyData.eqv (.bool true) (.bool true) = true := rfl
  simp [d__law_equal, mDef, mSeq, mRet, mRetL, mRetV, mRetN, mIfS, mAsg, mNew, mAug, mSub, mApp, mExtN, mExtT, mPop, mDrop, mNext, mNever, mOp, mUn, mVar, mC, mQVar, mLVar, mIxV, mQE, mLE, mEN, asL, asQ, mTup, mLst, mDs, datas, mA0, mA1, mAV, mCat, mTB, mTru, tru, mTruQ, mAnd, mOr, mNot, mAndV, mOrV, mNotV, mIf, mChain, mLen, mAll, mAny, mBools, mSum, mList, mTuple, mB, fAbs, fInt, fMax2, fMin2, mIsi, fIsi, tyN, fAdd, fTT, fSub, fMulX, fMul, fRep, fII, fI0, bMul, bDiv, bMod, bPow, fDiv, fMod, fPow, fLt, fLe, fGt, fGe, fIs, fIsNot, fIsB, fNotB, fIsN, fNotN, isN, fNeg, fIx, mCall, mCallN, rtD, rtN, mgN, mg0, mg1, mgT, mO0, mO1, mSlT, mSlL, mYes, mR1, mR2, mNotT, mNotTQ, mInQ, mCatV, mCatX, mCatY, mSlV, Option.bind, b1, b2, fEq, h1, h2, Option.or]
/-! fewer entries drawn -/
abbrev lsE : ME := mOp fIx (mEN (mLst (mA1 (mVar 6) (mA1 (mC .none) mA0)))) (mOp fDiv (mCall 2 d__law_next (mAV 1 (mA1 (mC (.int 4)) mA0))) (mC (.int 3)))
theorem less_lc (w0 w2 w3 w4 w5 w6 : Option Sl) (l : Rho) : ∀ (r : List En) (S : Sto), Sg 0 S → ∃ (r' : List En) (S' : Sto), LeR r' r ∧ Ad 0 S S' ∧
    lcRun (mgN 6) mYes lsE (r.map enD) (w0 :: some (.loc 0) :: w2 :: w3 :: w4 :: w5 :: w6 :: l) S = some (r'.map enD, S')
  | [], S, h => ⟨[], S, .nil, Ad.refl h, rfl⟩
  | e :: r, S, h => by
    obtain ⟨g, S1, g0, g1, ad, e1⟩ := next_sp 4 0 S h (by omega) (by omega)
    obtain ⟨r', S2, h2, ad2, e2⟩ := less_lc w0 w2 w3 w4 w5 w6 l r S1 ad.sg
    by_cases c : g = 3
    · subst c
      refine ⟨none :: r', S2, .drop h2, ad.trans ad2, ?_⟩
      simp only [lsE] at e2
      simp [lcRun, lsE, mDef, mSeq, mRet, mRetL, mRetV, mRetN, mIfS, mAsg, mNew, mAug, mSub, mApp, mExtN, mExtT, mPop, mDrop, mNext, mNever, mOp, mUn, mVar, mC, mQVar, mLVar, mIxV, mQE, mLE, mEN, asL, asQ, mTup, mLst, mDs, datas, mA0, mA1, mAV, mCat, mTB, mTru, tru, mTruQ, mAnd, mOr, mNot, mAndV, mOrV, mNotV, mIf, mChain, mLen, mAll, mAny, mBools, mSum, mList, mTuple, mB, fAbs, fInt, fMax2, fMin2, mIsi, fIsi, tyN, fAdd, fTT, fSub, fMulX, fMul, fRep, fII, fI0, bMul, bDiv, bMod, bPow, fDiv, fMod, fPow, fLt, fLe, fGt, fGe, fIs, fIsNot, fIsB, fNotB, fIsN, fNotN, isN, fNeg, fIx, mCall, mCallN, rtD, rtN, mgN, mg0, mg1, mgT, mO0, mO1, mSlT, mSlL, mYes, mR1, mR2, mNotT, mNotTQ, mInQ, mCatV, mCatX, mCatY, mSlV, Option.bind, e1, e2, a21, enD]
    · refine ⟨e :: r', S2, .keep h2, ad.trans ad2, ?_⟩
      simp only [lsE] at e2
      simp [lcRun, lsE, mDef, mSeq, mRet, mRetL, mRetV, mRetN, mIfS, mAsg, mNew, mAug, mSub, mApp, mExtN, mExtT, mPop, mDrop, mNext, mNever, mOp, mUn, mVar, mC, mQVar, mLVar, mIxV, mQE, mLE, mEN, asL, asQ, mTup, mLst, mDs, datas, mA0, mA1, mAV, mCat, mTB, mTru, tru, mTruQ, mAnd, mOr, mNot, mAndV, mOrV, mNotV, mIf, mChain, mLen, mAll, mAny, mBools, mSum, mList, mTuple, mB, fAbs, fInt, fMax2, fMin2, mIsi, fIsi, tyN, fAdd, fTT, fSub, fMulX, fMul, fRep, fII, fI0, bMul, bDiv, bMod, bPow, fDiv, fMod, fPow, fLt, fLe, fGt, fGe, fIs, fIsNot, fIsB, fNotB, fIsN, fNotN, isN, fNeg, fIx, mCall, mCallN, rtD, rtN, mgN, mg0, mg1, mgT, mO0, mO1, mSlT, mSlL, mYes, mR1, mR2, mNotT, mNotTQ, mInQ, mCatV, mCatX, mCatY, mSlV, Option.bind, e1, e2, atI_0, show g / 3 = 0 by omega]
abbrev lsB : MS := mDrop (mApp 4 (mTuple (mLc (mQE (mVar 5)) (mgN 6) mYes lsE [6])))
theorem less_for (w0 w2 w3 w6 : Option Sl) (l : Rho) (S0 : Sto) (hS0 : S0.length = 1) : ∀ (rows acc : List (List En)) (S : Sto) (w5 : Option Sl), AtX 0 S0 [some (acc.map rwD)] S → (∀ r ∈ rows, r.length ≤ 4) → acc.length + rows.length ≤ 1000 →
    ∃ (rows' : List (List En)) (w5' : Option Sl) (S' : Sto), LeT rows' rows ∧ AtX 0 S0 [some ((acc ++ rows').map rwD)] S' ∧
      forRun (mgN 5) lsB (rows.map rwD) (w0 :: some (.loc 0) :: w2 :: w3 :: some (.loc 1) :: w5 :: w6 :: l) S = some (.nx, w0 :: some (.loc 0) :: w2 :: w3 :: some (.loc 1) :: w5' :: w6 :: l, S')
  | [], acc, S, w5, h, hr, hl => ⟨[], w5, S, .nil, by rw [List.append_nil]; exact h, rfl⟩
  | r :: rows, acc, S, w5, h, hr, hl => by
    obtain ⟨r', S1, h1, ad, e1⟩ := less_lc w0 w2 w3 (some (.loc 1)) (some (.d (rwD r))) none l r S h.sg
    have h2 := h.next ad
    have eg0 : S[1]? = some (some (acc.map rwD)) := by have := h.get 0; rw [hS0] at this; simpa using this
    have eg : S1[1]? = some (some (acc.map rwD)) := by have := h2.get 0; rw [hS0] at this; simpa using this
    have h3 : AtX 0 S0 [some ((acc ++ [r']).map rwD)] (S1.set 1 (some (acc.map rwD ++ [rwD r']))) := by
      have := h2.put 0 (some (acc.map rwD ++ [rwD r']))
      rw [hS0] at this
      simpa using this
    obtain ⟨rows', w5', S', t1, h4, e4⟩ := less_for w0 w2 w3 w6 l S0 hS0 rows (acc ++ [r']) _ (some (.d (rwD r))) h3 (fun r hr' => hr r (List.mem_cons_of_mem _ hr')) (by simp at hl ⊢; omega)
    refine ⟨r' :: rows', w5', S', .cons h1 t1, by simpa using h4, ?_⟩
    have hl1 : acc.length < 1000000 := by simp at hl; omega
    have hr4 := hr r List.mem_cons_self
    rw [List.map_cons]
    unfold forRun
    simp only [lsE, rwD] at e1 e4
    simp [lsB, lsE, mDef, mSeq, mRet, mRetL, mRetV, mRetN, mIfS, mAsg, mNew, mAug, mSub, mApp, mExtN, mExtT, mPop, mDrop, mNext, mNever, mOp, mUn, mVar, mC, mQVar, mLVar, mIxV, mQE, mLE, mEN, asL, asQ, mTup, mLst, mDs, datas, mA0, mA1, mAV, mCat, mTB, mTru, tru, mTruQ, mAnd, mOr, mNot, mAndV, mOrV, mNotV, mIf, mChain, mLen, mAll, mAny, mBools, mSum, mList, mTuple, mB, fAbs, fInt, fMax2, fMin2, mIsi, fIsi, tyN, fAdd, fTT, fSub, fMulX, fMul, fRep, fII, fI0, bMul, bDiv, bMod, bPow, fDiv, fMod, fPow, fLt, fLe, fGt, fGe, fIs, fIsNot, fIsB, fNotB, fIsN, fNotN, isN, fNeg, fIx, mCall, mCallN, rtD, rtN, mgN, mg0, mg1, mgT, mO0, mO1, mSlT, mSlL, mYes, mR1, mR2, mNotT, mNotTQ, mInQ, mCatV, mCatX, mCatY, mSlV, Option.bind, mApp, mLc, wipeR, rwD, eg0, eg, e1, hl1, show r.length ≤ 1000000 by omega]
    exact e4
theorem trees_lc {A : List Int} (hA : Ar A) (w0 w3 w4 w5 w6 w7 w8 w9 w10 : Option Sl) (l : Rho) : ∀ (xs : List D) (S : Sto), Sg 0 S → ∃ (ts : List T) (S' : Sto), (∀ t ∈ ts, t.ok A ∧ t.n ≤ 10) ∧ ts.length = xs.length ∧ Ad 0 S S' ∧
    lcRun (mgN 10) mYes (mCall 3 (d__law_tree d__law_next) (mAV 1 (mAV 2 (mA1 (mC (.int 5)) mA0)))) xs (w0 :: some (.loc 0) :: some (.d (dA A)) :: w3 :: w4 :: w5 :: w6 :: w7 :: w8 :: w9 :: w10 :: l) S = some (ts.map T.d, S')
  | [], S, h => ⟨[], S, (fun t ht => by cases ht), rfl, Ad.refl h, rfl⟩
  | x :: xs, S, h => by
    obtain ⟨t, S1, o, n, ad, e⟩ := tree_sp 0 S hA h
    obtain ⟨ts, S2, h1, h2, ad2, e2⟩ := trees_lc hA w0 w3 w4 w5 w6 w7 w8 w9 w10 l xs S1 ad.sg
    refine ⟨t :: ts, S2, fun y hy => ?_, by simp [h2], ad.trans ad2, ?_⟩
    · rcases List.mem_cons.mp hy with rfl | hy
      · exact ⟨o, n⟩
      · exact h1 y hy
    · simp [lcRun, mDef, mSeq, mRet, mRetL, mRetV, mRetN, mIfS, mAsg, mNew, mAug, mSub, mApp, mExtN, mExtT, mPop, mDrop, mNext, mNever, mOp, mUn, mVar, mC, mQVar, mLVar, mIxV, mQE, mLE, mEN, asL, asQ, mTup, mLst, mDs, datas, mA0, mA1, mAV, mCat, mTB, mTru, tru, mTruQ, mAnd, mOr, mNot, mAndV, mOrV, mNotV, mIf, mChain, mLen, mAll, mAny, mBools, mSum, mList, mTuple, mB, fAbs, fInt, fMax2, fMin2, mIsi, fIsi, tyN, fAdd, fTT, fSub, fMulX, fMul, fRep, fII, fI0, bMul, bDiv, bMod, bPow, fDiv, fMod, fPow, fLt, fLe, fGt, fGe, fIs, fIsNot, fIsB, fNotB, fIsN, fNotN, isN, fNeg, fIx, mCall, mCallN, rtD, rtN, mgN, mg0, mg1, mgT, mO0, mO1, mSlT, mSlL, mYes, mR1, mR2, mNotT, mNotTQ, mInQ, mCatV, mCatX, mCatY, mSlV, Option.bind, e, e2]
/-! loops that change nothing that matters -/
theorem for_nx {P : Rho → Prop} {mg : MG} {mb : MS} {S : Sto} : ∀ (xs : List D) (ρ : Rho), P ρ → (∀ x ∈ xs, ∀ ρ, P ρ → ∃ ρ1 ρ2, mg x ρ = some ρ1 ∧ P ρ2 ∧ mb ρ1 S = some (.nx, ρ2, S)) → ∃ ρ', P ρ' ∧ forRun mg mb xs ρ S = some (.nx, ρ', S)
  | [], ρ, h, _ => ⟨ρ, h, rfl⟩
  | x :: xs, ρ, h, hb => by
    obtain ⟨ρ1, ρ2, e1, h2, e2⟩ := hb x List.mem_cons_self ρ h
    obtain ⟨ρ', h3, e3⟩ := for_nx xs ρ2 h2 (fun y hy => hb y (List.mem_cons_of_mem _ hy))
    refine ⟨ρ', h3, ?_⟩
    unfold forRun
    rw [e1, Option.bind_some, e2, Option.bind_some]
    exact e3
abbrev runF : Fn := d_run reqTT (lev 58)._visits
abbrev nodesF : Fn := (lev 59)._law_nodes
abbrev placesF : Fn := (lev 59)._law_places
abbrev putF : Fn := (lev 59)._law_put
abbrev equalF : Fn := (lev 59)._law_equal
abbrev bodyP : MS := (mIfS (mAnd (mTB (mInQ (fun b => b) (mVar 14) (mQE (mCall 1 placesF (mAV 13 mA0))))) (mTru (mCall 3 d__law_is_alike (mAV 11 (mAV 13 (mAV 14 mA0)))))) (mSeq (mAsg (mCall 3 putF (mAV 11 (mAV 14 (mA1 (mCall 2 d__law_part (mAV 13 (mAV 14 mA0))) mA0)))) (mgN 15))   (mIfS (mAnd (mTB (mOp fLe (mCall 1 nodesF (mAV 15 mA0)) (mC (.int 15)))) (mNot (mTru (mCall 2 equalF (mA1 (mOp fIx (mCall 3 runF (mAV 2 (mAV 3 (mAV 15 mA0)))) (mC (.int 0))) (mA1 (mC (.bool true)) mA0)))))) (mRet (mC (.bool false))) mNext)) mNext)
abbrev bodyS : MS := (mIfS (mAnd (mTru (mVar 12)) (mTru (mOp fIx (mCall 3 runF (mAV 2 (mAV 3 (mAV 13 mA0)))) (mC (.int 0))))) (mFor (mQE (mCall 1 placesF (mAV 11 mA0))) (mgN 14) bodyP) mNext)
abbrev bodyF : MS := (mSeq (mAsg (mOp fIx (mCall 3 runF (mAV 2 (mAV 3 (mAV 11 mA0)))) (mC (.int 0))) (mgN 12))   (mSeq (mIfS (mAnd (mTru (mOp fIx (mCall 3 runF (mAV 2 (mAV 7 (mAV 11 mA0)))) (mC (.int 0)))) (mNot (mTru (mVar 12)))) (mRet (mC (.bool false))) mNext)   (mFor (mQE (mVar 8)) (mgN 13) bodyS)))
section
variable {A : List Int} {q : Nat} {rows : List (List En)} (hA : Ar A) (h : tbOk A q rows) (S : Sto) (w0 w1 w4 w5 w6 w7 w8 w9 w10 : Option Sl)
include hA h in
theorem step_p {a b : T} (oa : a.ok A) (ob : b.ok A) (na : a.n ≤ 10) (nb : b.n ≤ 10) (ca : acc rows a q = true) (cb : acc rows b q = true) {p : List Nat} (hp : p ∈ a.places) (w15 : Option Sl) :
    ∃ w15', bodyP [w0, w1, some (.d (dA A)), some (.d (tbD q rows)), w4, w5, w6, w7, w8, w9, w10, some (.d a.d), some (.d (.bool true)), some (.d b.d), some (.d (pD p)), w15] S = some (.nx, [w0, w1, some (.d (dA A)), some (.d (tbD q rows)), w4, w5, w6, w7, w8, w9, w10, some (.d a.d), some (.d (.bool true)), some (.d b.d), some (.d (pD p)), w15'], S) := by
  have hpa := places_has a p hp
  have hpl := places_plen a p hp
  have e1 := places_eq b 59 S (by omega) (by omega)
  obtain ⟨c, e2, hc⟩ := in_places p b
  cases c with
  | false =>
    refine ⟨w15, ?_⟩
    simp [bodyP, mDef, mSeq, mRet, mRetL, mRetV, mRetN, mIfS, mAsg, mNew, mAug, mSub, mApp, mExtN, mExtT, mPop, mDrop, mNext, mNever, mOp, mUn, mVar, mC, mQVar, mLVar, mIxV, mQE, mLE, mEN, asL, asQ, mTup, mLst, mDs, datas, mA0, mA1, mAV, mCat, mTB, mTru, tru, mTruQ, mAnd, mOr, mNot, mAndV, mOrV, mNotV, mIf, mChain, mLen, mAll, mAny, mBools, mSum, mList, mTuple, mB, fAbs, fInt, fMax2, fMin2, mIsi, fIsi, tyN, fAdd, fTT, fSub, fMulX, fMul, fRep, fII, fI0, bMul, bDiv, bMod, bPow, fDiv, fMod, fPow, fLt, fLe, fGt, fGe, fIs, fIsNot, fIsB, fNotB, fIsN, fNotN, isN, fNeg, fIx, mCall, mCallN, rtD, rtN, mgN, mg0, mg1, mgT, mO0, mO1, mSlT, mSlL, mYes, mR1, mR2, mNotT, mNotTQ, mInQ, mCatV, mCatX, mCatY, mSlV, Option.bind, placesF, e1, e2]
  | true =>
    have hpb := hc rfl
    have e3 := alike_eq S a b p hpa hpb
    cases hk : alike a b p with
    | false =>
      rw [hk] at e3
      refine ⟨w15, ?_⟩
      simp [bodyP, mDef, mSeq, mRet, mRetL, mRetV, mRetN, mIfS, mAsg, mNew, mAug, mSub, mApp, mExtN, mExtT, mPop, mDrop, mNext, mNever, mOp, mUn, mVar, mC, mQVar, mLVar, mIxV, mQE, mLE, mEN, asL, asQ, mTup, mLst, mDs, datas, mA0, mA1, mAV, mCat, mTB, mTru, tru, mTruQ, mAnd, mOr, mNot, mAndV, mOrV, mNotV, mIf, mChain, mLen, mAll, mAny, mBools, mSum, mList, mTuple, mB, fAbs, fInt, fMax2, fMin2, mIsi, fIsi, tyN, fAdd, fTT, fSub, fMulX, fMul, fRep, fII, fI0, bMul, bDiv, bMod, bPow, fDiv, fMod, fPow, fLt, fLe, fGt, fGe, fIs, fIsNot, fIsB, fNotB, fIsN, fNotN, isN, fNeg, fIx, mCall, mCallN, rtD, rtN, mgN, mg0, mg1, mgT, mO0, mO1, mSlT, mSlL, mYes, mR1, mR2, mNotT, mNotTQ, mInQ, mCatV, mCatX, mCatY, mSlV, Option.bind, placesF, e1, e2, e3]
    | true =>
      rw [hk] at e3
      have e4 := part_eq S b p hpb
      have e5 := put_eq (b.sub p).d p a 59 S hpa (by omega)
      rw [putD_put _ p a hpa] at e5
      have so := sub_ok p b ob hpb
      have po := put_ok so.1 p a oa
      have e6 := nodes_eq (a.put (b.sub p) p) 59 S (by omega)
      refine ⟨some (.d (a.put (b.sub p) p).d), ?_⟩
      by_cases cn : (a.put (b.sub p) p).n ≤ 15
      · obtain ⟨X, Y, e7⟩ := run_eq h hA po.1 cn 58 (by omega) S
        rw [exch rows p a b q oa ob hpa hpb hk ca cb] at e7
        have e8 := equal_tt 57 S
        simp [bodyP, mDef, mSeq, mRet, mRetL, mRetV, mRetN, mIfS, mAsg, mNew, mAug, mSub, mApp, mExtN, mExtT, mPop, mDrop, mNext, mNever, mOp, mUn, mVar, mC, mQVar, mLVar, mIxV, mQE, mLE, mEN, asL, asQ, mTup, mLst, mDs, datas, mA0, mA1, mAV, mCat, mTB, mTru, tru, mTruQ, mAnd, mOr, mNot, mAndV, mOrV, mNotV, mIf, mChain, mLen, mAll, mAny, mBools, mSum, mList, mTuple, mB, fAbs, fInt, fMax2, fMin2, mIsi, fIsi, tyN, fAdd, fTT, fSub, fMulX, fMul, fRep, fII, fI0, bMul, bDiv, bMod, bPow, fDiv, fMod, fPow, fLt, fLe, fGt, fGe, fIs, fIsNot, fIsB, fNotB, fIsN, fNotN, isN, fNeg, fIx, mCall, mCallN, rtD, rtN, mgN, mg0, mg1, mgT, mO0, mO1, mSlT, mSlL, mYes, mR1, mR2, mNotT, mNotTQ, mInQ, mCatV, mCatX, mCatY, mSlV, Option.bind, placesF, putF, nodesF, runF, equalF, e1, e2, e3, e4, e5, e6, e7, e8, cn, atI_0, show ((a.put (b.sub p) p).n : Int) ≤ 15 by omega]
      · simp [bodyP, mDef, mSeq, mRet, mRetL, mRetV, mRetN, mIfS, mAsg, mNew, mAug, mSub, mApp, mExtN, mExtT, mPop, mDrop, mNext, mNever, mOp, mUn, mVar, mC, mQVar, mLVar, mIxV, mQE, mLE, mEN, asL, asQ, mTup, mLst, mDs, datas, mA0, mA1, mAV, mCat, mTB, mTru, tru, mTruQ, mAnd, mOr, mNot, mAndV, mOrV, mNotV, mIf, mChain, mLen, mAll, mAny, mBools, mSum, mList, mTuple, mB, fAbs, fInt, fMax2, fMin2, mIsi, fIsi, tyN, fAdd, fTT, fSub, fMulX, fMul, fRep, fII, fI0, bMul, bDiv, bMod, bPow, fDiv, fMod, fPow, fLt, fLe, fGt, fGe, fIs, fIsNot, fIsB, fNotB, fIsN, fNotN, isN, fNeg, fIx, mCall, mCallN, rtD, rtN, mgN, mg0, mg1, mgT, mO0, mO1, mSlT, mSlL, mYes, mR1, mR2, mNotT, mNotTQ, mInQ, mCatV, mCatX, mCatY, mSlV, Option.bind, placesF, putF, nodesF, e1, e2, e3, e4, e5, e6, cn, show ¬ ((a.put (b.sub p) p).n : Int) ≤ 15 by omega]
include hA h in
theorem step_s {a b : T} (oa : a.ok A) (ob : b.ok A) (na : a.n ≤ 10) (nb : b.n ≤ 10) (w14 w15 : Option Sl) :
    ∃ w14' w15', bodyS [w0, w1, some (.d (dA A)), some (.d (tbD q rows)), w4, w5, w6, w7, w8, w9, w10, some (.d a.d), some (.d (.bool (acc rows a q))), some (.d b.d), w14, w15] S = some (.nx, [w0, w1, some (.d (dA A)), some (.d (tbD q rows)), w4, w5, w6, w7, w8, w9, w10, some (.d a.d), some (.d (.bool (acc rows a q))), some (.d b.d), w14', w15'], S) := by
  cases ca : acc rows a q with
  | false => exact ⟨w14, w15, by simp [bodyS, mDef, mSeq, mRet, mRetL, mRetV, mRetN, mIfS, mAsg, mNew, mAug, mSub, mApp, mExtN, mExtT, mPop, mDrop, mNext, mNever, mOp, mUn, mVar, mC, mQVar, mLVar, mIxV, mQE, mLE, mEN, asL, asQ, mTup, mLst, mDs, datas, mA0, mA1, mAV, mCat, mTB, mTru, tru, mTruQ, mAnd, mOr, mNot, mAndV, mOrV, mNotV, mIf, mChain, mLen, mAll, mAny, mBools, mSum, mList, mTuple, mB, fAbs, fInt, fMax2, fMin2, mIsi, fIsi, tyN, fAdd, fTT, fSub, fMulX, fMul, fRep, fII, fI0, bMul, bDiv, bMod, bPow, fDiv, fMod, fPow, fLt, fLe, fGt, fGe, fIs, fIsNot, fIsB, fNotB, fIsN, fNotN, isN, fNeg, fIx, mCall, mCallN, rtD, rtN, mgN, mg0, mg1, mgT, mO0, mO1, mSlT, mSlL, mYes, mR1, mR2, mNotT, mNotTQ, mInQ, mCatV, mCatX, mCatY, mSlV, Option.bind]⟩
  | true =>
    obtain ⟨X, Y, e1⟩ := run_eq h hA ob (by omega) 58 (by omega) S
    cases cb : acc rows b q with
    | false =>
      rw [cb] at e1
      exact ⟨w14, w15, by simp [bodyS, mDef, mSeq, mRet, mRetL, mRetV, mRetN, mIfS, mAsg, mNew, mAug, mSub, mApp, mExtN, mExtT, mPop, mDrop, mNext, mNever, mOp, mUn, mVar, mC, mQVar, mLVar, mIxV, mQE, mLE, mEN, asL, asQ, mTup, mLst, mDs, datas, mA0, mA1, mAV, mCat, mTB, mTru, tru, mTruQ, mAnd, mOr, mNot, mAndV, mOrV, mNotV, mIf, mChain, mLen, mAll, mAny, mBools, mSum, mList, mTuple, mB, fAbs, fInt, fMax2, fMin2, mIsi, fIsi, tyN, fAdd, fTT, fSub, fMulX, fMul, fRep, fII, fI0, bMul, bDiv, bMod, bPow, fDiv, fMod, fPow, fLt, fLe, fGt, fGe, fIs, fIsNot, fIsB, fNotB, fIsN, fNotN, isN, fNeg, fIx, mCall, mCallN, rtD, rtN, mgN, mg0, mg1, mgT, mO0, mO1, mSlT, mSlL, mYes, mR1, mR2, mNotT, mNotTQ, mInQ, mCatV, mCatX, mCatY, mSlV, Option.bind, runF, e1, atI_0]⟩
    | true =>
      rw [cb] at e1
      have e2 := places_eq a 59 S (by omega) (by omega)
      obtain ⟨ρ', ⟨u, v, hr⟩, e3⟩ := for_nx (P := fun ρ => ∃ u v, ρ = [w0, w1, some (.d (dA A)), some (.d (tbD q rows)), w4, w5, w6, w7, w8, w9, w10, some (.d a.d), some (.d (.bool true)), some (.d b.d), u, v]) (mg := mgN 14) (mb := bodyP) (S := S) (a.places.map pD) _ ⟨w14, w15, rfl⟩ (fun x hx ρ hρ => by
        obtain ⟨u, v, rfl⟩ := hρ
        obtain ⟨p, hp, rfl⟩ := List.mem_map.mp hx
        obtain ⟨v', e⟩ := step_p hA h S w0 w1 w4 w5 w6 w7 w8 w9 w10 oa ob na nb ca cb hp v
        exact ⟨_, _, rfl, ⟨_, _, rfl⟩, e⟩)
      subst hr
      refine ⟨u, v, ?_⟩
      simp only [bodyP] at e3
      simp [bodyS, bodyP, mDef, mSeq, mRet, mRetL, mRetV, mRetN, mIfS, mAsg, mNew, mAug, mSub, mApp, mExtN, mExtT, mPop, mDrop, mNext, mNever, mOp, mUn, mVar, mC, mQVar, mLVar, mIxV, mQE, mLE, mEN, asL, asQ, mTup, mLst, mDs, datas, mA0, mA1, mAV, mCat, mTB, mTru, tru, mTruQ, mAnd, mOr, mNot, mAndV, mOrV, mNotV, mIf, mChain, mLen, mAll, mAny, mBools, mSum, mList, mTuple, mB, fAbs, fInt, fMax2, fMin2, mIsi, fIsi, tyN, fAdd, fTT, fSub, fMulX, fMul, fRep, fII, fI0, bMul, bDiv, bMod, bPow, fDiv, fMod, fPow, fLt, fLe, fGt, fGe, fIs, fIsNot, fIsB, fNotB, fIsN, fNotN, isN, fNeg, fIx, mCall, mCallN, rtD, rtN, mgN, mg0, mg1, mgT, mO0, mO1, mSlT, mSlL, mYes, mR1, mR2, mNotT, mNotTQ, mInQ, mCatV, mCatX, mCatY, mSlV, Option.bind, runF, mFor, placesF, e1, e2, atI_0]
      simpa [mDef, mSeq, mRet, mRetL, mRetV, mRetN, mIfS, mAsg, mNew, mAug, mSub, mApp, mExtN, mExtT, mPop, mDrop, mNext, mNever, mOp, mUn, mVar, mC, mQVar, mLVar, mIxV, mQE, mLE, mEN, asL, asQ, mTup, mLst, mDs, datas, mA0, mA1, mAV, mCat, mTB, mTru, tru, mTruQ, mAnd, mOr, mNot, mAndV, mOrV, mNotV, mIf, mChain, mLen, mAll, mAny, mBools, mSum, mList, mTuple, mB, fAbs, fInt, fMax2, fMin2, mIsi, fIsi, tyN, fAdd, fTT, fSub, fMulX, fMul, fRep, fII, fI0, bMul, bDiv, bMod, bPow, fDiv, fMod, fPow, fLt, fLe, fGt, fGe, fIs, fIsNot, fIsB, fNotB, fIsN, fNotN, isN, fNeg, fIx, mCall, mCallN, rtD, rtN, mgN, mg0, mg1, mgT, mO0, mO1, mSlT, mSlL, mYes, mR1, mR2, mNotT, mNotTQ, mInQ, mCatV, mCatX, mCatY, mSlV, Option.bind, placesF] using e3
end
end G
set_option linter.all false
set_option autoImplicit false
set_option maxRecDepth 100000
set_option maxHeartbeats 2000000
namespace G
open PySem L2
section
variable {A : List Int} {q : Nat} {rows rows' : List (List En)} (hA : Ar A) (h : tbOk A q rows) (hL : LeT rows' rows) (S : Sto) (w0 w1 w4 w5 w6 w9 w10 : Option Sl)
include hA h hL in
theorem step_f {ts : List T} (hts : ∀ t ∈ ts, t.ok A ∧ t.n ≤ 10) {a : T} (ha : a ∈ ts) (w12 w13 w14 w15 : Option Sl) :
    ∃ w12' w13' w14' w15', bodyF [w0, w1, some (.d (dA A)), some (.d (tbD q rows)), w4, w5, w6, some (.d (tbD q rows')), some (.d (.list (ts.map T.d))), w9, w10, some (.d a.d), w12, w13, w14, w15] S = some (.nx, [w0, w1, some (.d (dA A)), some (.d (tbD q rows)), w4, w5, w6, some (.d (tbD q rows')), some (.d (.list (ts.map T.d))), w9, w10, some (.d a.d), w12', w13', w14', w15'], S) := by
  obtain ⟨oa, na⟩ := hts a ha
  obtain ⟨X, Y, e1⟩ := run_eq h hA oa (by omega) 58 (by omega) S
  obtain ⟨X', Y', e2⟩ := run_eq (hL.tb h) hA oa (by omega) 58 (by omega) S
  obtain ⟨ρ', ⟨u, v, z, hr⟩, e3⟩ := for_nx (P := fun ρ => ∃ u v z, ρ = [w0, w1, some (.d (dA A)), some (.d (tbD q rows)), w4, w5, w6, some (.d (tbD q rows')), some (.d (.list (ts.map T.d))), w9, w10, some (.d a.d), some (.d (.bool (acc rows a q))), u, v, z]) (mg := mgN 13) (mb := bodyS) (S := S) (ts.map T.d) _ ⟨w13, w14, w15, rfl⟩ (fun x hx ρ hρ => by
    obtain ⟨u, v, z, rfl⟩ := hρ
    obtain ⟨b, hb, rfl⟩ := List.mem_map.mp hx
    obtain ⟨ob, nb⟩ := hts b hb
    obtain ⟨u', v', e⟩ := step_s hA h S w0 w1 w4 w5 w6 (some (.d (tbD q rows'))) (some (.d (.list (ts.map T.d)))) w9 w10 oa ob na nb v z
    exact ⟨_, _, rfl, ⟨_, _, _, rfl⟩, e⟩)
  subst hr
  refine ⟨some (.d (.bool (acc rows a q))), u, v, z, ?_⟩
  have hm := LeT.acc hL a q
  cases cl : acc rows' a q with
  | false =>
    rw [cl] at e2
    simp [bodyF, mDef, mSeq, mRet, mRetL, mRetV, mRetN, mIfS, mAsg, mNew, mAug, mSub, mApp, mExtN, mExtT, mPop, mDrop, mNext, mNever, mOp, mUn, mVar, mC, mQVar, mLVar, mIxV, mQE, mLE, mEN, asL, asQ, mTup, mLst, mDs, datas, mA0, mA1, mAV, mCat, mTB, mTru, tru, mTruQ, mAnd, mOr, mNot, mAndV, mOrV, mNotV, mIf, mChain, mLen, mAll, mAny, mBools, mSum, mList, mTuple, mB, fAbs, fInt, fMax2, fMin2, mIsi, fIsi, tyN, fAdd, fTT, fSub, fMulX, fMul, fRep, fII, fI0, bMul, bDiv, bMod, bPow, fDiv, fMod, fPow, fLt, fLe, fGt, fGe, fIs, fIsNot, fIsB, fNotB, fIsN, fNotN, isN, fNeg, fIx, mCall, mCallN, rtD, rtN, mgN, mg0, mg1, mgT, mO0, mO1, mSlT, mSlL, mYes, mR1, mR2, mNotT, mNotTQ, mInQ, mCatV, mCatX, mCatY, mSlV, Option.bind, runF, mFor, e1, e2, atI_0]
    simpa [mDef, mSeq, mRet, mRetL, mRetV, mRetN, mIfS, mAsg, mNew, mAug, mSub, mApp, mExtN, mExtT, mPop, mDrop, mNext, mNever, mOp, mUn, mVar, mC, mQVar, mLVar, mIxV, mQE, mLE, mEN, asL, asQ, mTup, mLst, mDs, datas, mA0, mA1, mAV, mCat, mTB, mTru, tru, mTruQ, mAnd, mOr, mNot, mAndV, mOrV, mNotV, mIf, mChain, mLen, mAll, mAny, mBools, mSum, mList, mTuple, mB, fAbs, fInt, fMax2, fMin2, mIsi, fIsi, tyN, fAdd, fTT, fSub, fMulX, fMul, fRep, fII, fI0, bMul, bDiv, bMod, bPow, fDiv, fMod, fPow, fLt, fLe, fGt, fGe, fIs, fIsNot, fIsB, fNotB, fIsN, fNotN, isN, fNeg, fIx, mCall, mCallN, rtD, rtN, mgN, mg0, mg1, mgT, mO0, mO1, mSlT, mSlL, mYes, mR1, mR2, mNotT, mNotTQ, mInQ, mCatV, mCatX, mCatY, mSlV, Option.bind] using e3
  | true =>
    rw [cl] at e2
    rw [hm cl] at e1 e3
    simp [bodyF, mDef, mSeq, mRet, mRetL, mRetV, mRetN, mIfS, mAsg, mNew, mAug, mSub, mApp, mExtN, mExtT, mPop, mDrop, mNext, mNever, mOp, mUn, mVar, mC, mQVar, mLVar, mIxV, mQE, mLE, mEN, asL, asQ, mTup, mLst, mDs, datas, mA0, mA1, mAV, mCat, mTB, mTru, tru, mTruQ, mAnd, mOr, mNot, mAndV, mOrV, mNotV, mIf, mChain, mLen, mAll, mAny, mBools, mSum, mList, mTuple, mB, fAbs, fInt, fMax2, fMin2, mIsi, fIsi, tyN, fAdd, fTT, fSub, fMulX, fMul, fRep, fII, fI0, bMul, bDiv, bMod, bPow, fDiv, fMod, fPow, fLt, fLe, fGt, fGe, fIs, fIsNot, fIsB, fNotB, fIsN, fNotN, isN, fNeg, fIx, mCall, mCallN, rtD, rtN, mgN, mg0, mg1, mgT, mO0, mO1, mSlT, mSlL, mYes, mR1, mR2, mNotT, mNotTQ, mInQ, mCatV, mCatX, mCatY, mSlV, Option.bind, runF, mFor, e1, e2, atI_0, hm cl]
    simpa [mDef, mSeq, mRet, mRetL, mRetV, mRetN, mIfS, mAsg, mNew, mAug, mSub, mApp, mExtN, mExtT, mPop, mDrop, mNext, mNever, mOp, mUn, mVar, mC, mQVar, mLVar, mIxV, mQE, mLE, mEN, asL, asQ, mTup, mLst, mDs, datas, mA0, mA1, mAV, mCat, mTB, mTru, tru, mTruQ, mAnd, mOr, mNot, mAndV, mOrV, mNotV, mIf, mChain, mLen, mAll, mAny, mBools, mSum, mList, mTuple, mB, fAbs, fInt, fMax2, fMin2, mIsi, fIsi, tyN, fAdd, fTT, fSub, fMulX, fMul, fRep, fII, fI0, bMul, bDiv, bMod, bPow, fDiv, fMod, fPow, fLt, fLe, fGt, fGe, fIs, fIsNot, fIsB, fNotB, fIsN, fNotN, isN, fNeg, fIx, mCall, mCallN, rtD, rtN, mgN, mg0, mg1, mgT, mO0, mO1, mSlT, mSlL, mYes, mR1, mR2, mNotT, mNotTQ, mInQ, mCatV, mCatX, mCatY, mSlV, Option.bind] using e3
end
abbrev LV : Nat := 60
theorem law_lev : (lev 60).law = d_law d__law_stream (d__law_arities d__law_next) (d__law_table d__law_next) d__law_next (d__law_tree d__law_next) nodesF runF placesF d__law_is_alike putF d__law_part equalF := rfl
theorem seq_nx {m1 m2 : MS} {ρ ρ1 : Rho} {S S1 : Sto} (h : m1 ρ S = some (.nx, ρ1, S1)) : mSeq m1 m2 ρ S = m2 ρ1 S1 := by simp [mSeq, h]
theorem def_rt {body : Nat → MS} {s : Sl} {k : Nat} {d : D} {ρ' : Rho} {S' : Sto} (h : body 0 (some s :: List.replicate k none) [] = some (.rt (.val d), ρ', S')) : mDef 1 (k + 1) body [s] [] = some (.val d, []) := by
  simp [mDef, h]
theorem law_true (ns : List Int) (h : ns.length ≤ 63) : ∃ S', (lev LV).law [.d (.list (ns.map .int))] [] = some (.val (.bool true), S') := by
  refine ⟨[], ?_⟩
  show (lev 60).law _ _ = _
  rw [law_lev]
  have e0 := stream_eq ns []
  have s0 : Sg 0 [some (Cell ns 0 0)] := ⟨⟨ns, 0, 0, rfl, by omega, by omega⟩⟩
  obtain ⟨A, S1, hA, ad1, e1⟩ := arities_sp 0 _ s0
  obtain ⟨q, rows, S2, ht, ad2, e2⟩ := table_sp 0 S1 A hA ad1.sg
  have l2 : S2.length = 1 := by rw [ad2.len, ad1.len]; rfl
  have h2 := (AtX.start ad2.sg).app (some ([] : List D))
  have hrl : ∀ r ∈ rows, r.length ≤ 4 := fun r hr => by rw [(ht.2.2 r hr).len]; exact hA.len.2
  obtain ⟨rows', w5, S3, hL, h3, e3⟩ := less_for (some (.d (.list (ns.map .int)))) (some (.d (dA A))) (some (.d (tbD q rows))) none (List.replicate 9 none) S2 l2 rows [] (S2 ++ [some []]) none (by simpa using h2) hrl (by have := ht.2.1; simp; omega)
  have eg3 : S3[1]? = some (some (rows'.map rwD)) := by have := h3.get 0; rw [l2] at this; simpa using this
  obtain ⟨ts, S4, hts, htl, ad4, e4⟩ := trees_lc hA (some (.d (.list (ns.map .int)))) (some (.d (tbD q rows))) (some (.loc 1)) w5 none (some (.d (tbD q rows'))) none none none (List.replicate 5 none) (rng 0 4) S3 h3.sg
  have htl : ts.length = 4 := htl
  have e5 := fun w0 w3 w4 w5 w6 w7 w8 w10 w11 w12 w13 w14 w15 => lc_filter (mg := mgN 9) (mt := mTB (mOp fLe (mCall 1 nodesF (mAV 9 mA0)) (mC (.int 12)))) (me := mVar 9) (ρ := [w0, some (.loc 0), some (.d (dA A)), w3, w4, w5, w6, w7, w8, none, w10, w11, w12, w13, w14, w15]) (S := S4) (fun d => d) (fun _ => true) (fun d => [w0, some (.loc 0), some (.d (dA A)), w3, w4, w5, w6, w7, w8, some (.d d), w10, w11, w12, w13, w14, w15]) (xs := ts.map T.d)
    (fun x hx => by simp [mgN]) (fun x hx => by
      obtain ⟨t, ht, rfl⟩ := List.mem_map.mp hx
      have hn := (hts t ht).2
      have e := nodes_eq t 59 S4 (by omega)
      simp [mDef, mSeq, mRet, mRetL, mRetV, mRetN, mIfS, mAsg, mNew, mAug, mSub, mApp, mExtN, mExtT, mPop, mDrop, mNext, mNever, mOp, mUn, mVar, mC, mQVar, mLVar, mIxV, mQE, mLE, mEN, asL, asQ, mTup, mLst, mDs, datas, mA0, mA1, mAV, mCat, mTB, mTru, tru, mTruQ, mAnd, mOr, mNot, mAndV, mOrV, mNotV, mIf, mChain, mLen, mAll, mAny, mBools, mSum, mList, mTuple, mB, fAbs, fInt, fMax2, fMin2, mIsi, fIsi, tyN, fAdd, fTT, fSub, fMulX, fMul, fRep, fII, fI0, bMul, bDiv, bMod, bPow, fDiv, fMod, fPow, fLt, fLe, fGt, fGe, fIs, fIsNot, fIsB, fNotB, fIsN, fNotN, isN, fNeg, fIx, mCall, mCallN, rtD, rtN, mgN, mg0, mg1, mgT, mO0, mO1, mSlT, mSlL, mYes, mR1, mR2, mNotT, mNotTQ, mInQ, mCatV, mCatX, mCatY, mSlV, Option.bind, nodesF, e, show (t.n : Int) ≤ 12 by omega]) (fun x hx => by simp [mVar])
  have ef : ((ts.map T.d).filter fun _ => true).map (fun d => d) = ts.map T.d := by rw [List.filter_eq_self.mpr fun _ _ => rfl, List.map_id']
  simp only [ef] at e5
  simp only [List.replicate] at e3 e4
  have k0 : (mNew 1 (mCallN 1 d__law_stream (mAV 0 mA0))) [some (.d (.list (ns.map .int))), none, none, none, none, none, none, none, none, none, none, none, none, none, none, none] [] = some (.nx, [some (.d (.list (ns.map .int))), some (.loc 0), none, none, none, none, none, none, none, none, none, none, none, none, none, none], [some (Cell ns 0 0)]) := by
    simp [mDef, mSeq, mRet, mRetL, mRetV, mRetN, mIfS, mAsg, mNew, mAug, mSub, mApp, mExtN, mExtT, mPop, mDrop, mNext, mNever, mOp, mUn, mVar, mC, mQVar, mLVar, mIxV, mQE, mLE, mEN, asL, asQ, mTup, mLst, mDs, datas, mA0, mA1, mAV, mCat, mTB, mTru, tru, mTruQ, mAnd, mOr, mNot, mAndV, mOrV, mNotV, mIf, mChain, mLen, mAll, mAny, mBools, mSum, mList, mTuple, mB, fAbs, fInt, fMax2, fMin2, mIsi, fIsi, tyN, fAdd, fTT, fSub, fMulX, fMul, fRep, fII, fI0, bMul, bDiv, bMod, bPow, fDiv, fMod, fPow, fLt, fLe, fGt, fGe, fIs, fIsNot, fIsB, fNotB, fIsN, fNotN, isN, fNeg, fIx, mCall, mCallN, rtD, rtN, mgN, mg0, mg1, mgT, mO0, mO1, mSlT, mSlL, mYes, mR1, mR2, mNotT, mNotTQ, mInQ, mCatV, mCatX, mCatY, mSlV, Option.bind, e0]
  have k1 : (mAsg (mCall 1 (d__law_arities d__law_next) (mAV 1 mA0)) (mgN 2)) [some (.d (.list (ns.map .int))), some (.loc 0), none, none, none, none, none, none, none, none, none, none, none, none, none, none] [some (Cell ns 0 0)] = some (.nx, [some (.d (.list (ns.map .int))), some (.loc 0), some (.d (dA A)), none, none, none, none, none, none, none, none, none, none, none, none, none], S1) := by
    simp [mDef, mSeq, mRet, mRetL, mRetV, mRetN, mIfS, mAsg, mNew, mAug, mSub, mApp, mExtN, mExtT, mPop, mDrop, mNext, mNever, mOp, mUn, mVar, mC, mQVar, mLVar, mIxV, mQE, mLE, mEN, asL, asQ, mTup, mLst, mDs, datas, mA0, mA1, mAV, mCat, mTB, mTru, tru, mTruQ, mAnd, mOr, mNot, mAndV, mOrV, mNotV, mIf, mChain, mLen, mAll, mAny, mBools, mSum, mList, mTuple, mB, fAbs, fInt, fMax2, fMin2, mIsi, fIsi, tyN, fAdd, fTT, fSub, fMulX, fMul, fRep, fII, fI0, bMul, bDiv, bMod, bPow, fDiv, fMod, fPow, fLt, fLe, fGt, fGe, fIs, fIsNot, fIsB, fNotB, fIsN, fNotN, isN, fNeg, fIx, mCall, mCallN, rtD, rtN, mgN, mg0, mg1, mgT, mO0, mO1, mSlT, mSlL, mYes, mR1, mR2, mNotT, mNotTQ, mInQ, mCatV, mCatX, mCatY, mSlV, Option.bind, e1]
  have k2 : (mAsg (mCall 3 (d__law_table d__law_next) (mAV 1 (mAV 2 (mA1 (mC (.int 4)) mA0)))) (mgN 3)) [some (.d (.list (ns.map .int))), some (.loc 0), some (.d (dA A)), none, none, none, none, none, none, none, none, none, none, none, none, none] S1 = some (.nx, [some (.d (.list (ns.map .int))), some (.loc 0), some (.d (dA A)), some (.d (tbD q rows)), none, none, none, none, none, none, none, none, none, none, none, none], S2) := by
    simp [mDef, mSeq, mRet, mRetL, mRetV, mRetN, mIfS, mAsg, mNew, mAug, mSub, mApp, mExtN, mExtT, mPop, mDrop, mNext, mNever, mOp, mUn, mVar, mC, mQVar, mLVar, mIxV, mQE, mLE, mEN, asL, asQ, mTup, mLst, mDs, datas, mA0, mA1, mAV, mCat, mTB, mTru, tru, mTruQ, mAnd, mOr, mNot, mAndV, mOrV, mNotV, mIf, mChain, mLen, mAll, mAny, mBools, mSum, mList, mTuple, mB, fAbs, fInt, fMax2, fMin2, mIsi, fIsi, tyN, fAdd, fTT, fSub, fMulX, fMul, fRep, fII, fI0, bMul, bDiv, bMod, bPow, fDiv, fMod, fPow, fLt, fLe, fGt, fGe, fIs, fIsNot, fIsB, fNotB, fIsN, fNotN, isN, fNeg, fIx, mCall, mCallN, rtD, rtN, mgN, mg0, mg1, mgT, mO0, mO1, mSlT, mSlL, mYes, mR1, mR2, mNotT, mNotTQ, mInQ, mCatV, mCatX, mCatY, mSlV, Option.bind, e2]
  have k3 : (mNew 4 (mLst mA0)) [some (.d (.list (ns.map .int))), some (.loc 0), some (.d (dA A)), some (.d (tbD q rows)), none, none, none, none, none, none, none, none, none, none, none, none] S2 = some (.nx, [some (.d (.list (ns.map .int))), some (.loc 0), some (.d (dA A)), some (.d (tbD q rows)), some (.loc 1), none, none, none, none, none, none, none, none, none, none, none], (S2 ++ [some []])) := by
    simp [mDef, mSeq, mRet, mRetL, mRetV, mRetN, mIfS, mAsg, mNew, mAug, mSub, mApp, mExtN, mExtT, mPop, mDrop, mNext, mNever, mOp, mUn, mVar, mC, mQVar, mLVar, mIxV, mQE, mLE, mEN, asL, asQ, mTup, mLst, mDs, datas, mA0, mA1, mAV, mCat, mTB, mTru, tru, mTruQ, mAnd, mOr, mNot, mAndV, mOrV, mNotV, mIf, mChain, mLen, mAll, mAny, mBools, mSum, mList, mTuple, mB, fAbs, fInt, fMax2, fMin2, mIsi, fIsi, tyN, fAdd, fTT, fSub, fMulX, fMul, fRep, fII, fI0, bMul, bDiv, bMod, bPow, fDiv, fMod, fPow, fLt, fLe, fGt, fGe, fIs, fIsNot, fIsB, fNotB, fIsN, fNotN, isN, fNeg, fIx, mCall, mCallN, rtD, rtN, mgN, mg0, mg1, mgT, mO0, mO1, mSlT, mSlL, mYes, mR1, mR2, mNotT, mNotTQ, mInQ, mCatV, mCatX, mCatY, mSlV, Option.bind, l2]
  have k4 : (mFor (mQE (mIxV 3 (mC (.int 1)))) (mgN 5) (mDrop (mApp 4 (mTuple (mLc (mQE (mVar 5)) (mgN 6) mYes (mOp fIx (mEN (mLst (mA1 (mVar 6) (mA1 (mC .none) mA0)))) (mOp fDiv (mCall 2 d__law_next (mAV 1 (mA1 (mC (.int 4)) mA0))) (mC (.int 3)))) [6]))))) [some (.d (.list (ns.map .int))), some (.loc 0), some (.d (dA A)), some (.d (tbD q rows)), some (.loc 1), none, none, none, none, none, none, none, none, none, none, none] (S2 ++ [some []]) = some (.nx, [some (.d (.list (ns.map .int))), some (.loc 0), some (.d (dA A)), some (.d (tbD q rows)), some (.loc 1), w5, none, none, none, none, none, none, none, none, none, none], S3) := by
    simp only [lsB, lsE] at e3
    simp [mFor, mQE, mIxV, mQVar, mC, tbD, a21, Option.bind] at e3 ⊢
    exact e3
  have k5 : (mAsg (mTup (mA1 (mIxV 3 (mC (.int 0))) (mA1 (mTuple (mQVar 4)) mA0))) (mgN 7)) [some (.d (.list (ns.map .int))), some (.loc 0), some (.d (dA A)), some (.d (tbD q rows)), some (.loc 1), w5, none, none, none, none, none, none, none, none, none, none] S3 = some (.nx, [some (.d (.list (ns.map .int))), some (.loc 0), some (.d (dA A)), some (.d (tbD q rows)), some (.loc 1), w5, none, some (.d (tbD q rows')), none, none, none, none, none, none, none, none], S3) := by
    simp [mDef, mSeq, mRet, mRetL, mRetV, mRetN, mIfS, mAsg, mNew, mAug, mSub, mApp, mExtN, mExtT, mPop, mDrop, mNext, mNever, mOp, mUn, mVar, mC, mQVar, mLVar, mIxV, mQE, mLE, mEN, asL, asQ, mTup, mLst, mDs, datas, mA0, mA1, mAV, mCat, mTB, mTru, tru, mTruQ, mAnd, mOr, mNot, mAndV, mOrV, mNotV, mIf, mChain, mLen, mAll, mAny, mBools, mSum, mList, mTuple, mB, fAbs, fInt, fMax2, fMin2, mIsi, fIsi, tyN, fAdd, fTT, fSub, fMulX, fMul, fRep, fII, fI0, bMul, bDiv, bMod, bPow, fDiv, fMod, fPow, fLt, fLe, fGt, fGe, fIs, fIsNot, fIsB, fNotB, fIsN, fNotN, isN, fNeg, fIx, mCall, mCallN, rtD, rtN, mgN, mg0, mg1, mgT, mO0, mO1, mSlT, mSlL, mYes, mR1, mR2, mNotT, mNotTQ, mInQ, mCatV, mCatX, mCatY, mSlV, Option.bind, tbD, atI_0, eg3]
  have k6 : (mAsg (mEN (mLc (mQE (mEN (mLc (mR1 (mC (.int 4))) (mgN 10) mYes (mCall 3 (d__law_tree d__law_next) (mAV 1 (mAV 2 (mA1 (mC (.int 5)) mA0)))) [10]))) (mgN 9) (mTB (mOp fLe (mCall 1 nodesF (mAV 9 mA0)) (mC (.int 12)))) (mVar 9) [9])) (mgN 8)) [some (.d (.list (ns.map .int))), some (.loc 0), some (.d (dA A)), some (.d (tbD q rows)), some (.loc 1), w5, none, some (.d (tbD q rows')), none, none, none, none, none, none, none, none] S3 = some (.nx, [some (.d (.list (ns.map .int))), some (.loc 0), some (.d (dA A)), some (.d (tbD q rows)), some (.loc 1), w5, none, some (.d (tbD q rows')), some (.d (.list (ts.map T.d))), none, none, none, none, none, none, none], S4) := by
    have hb : bRng (4 : Int) = true := by decide
    have h4 : (4 : Int).toNat = 4 := rfl
    have r4l : (rng 0 4).length = 4 := rfl
    simp [mDef, mSeq, mRet, mRetL, mRetV, mRetN, mIfS, mAsg, mNew, mAug, mSub, mApp, mExtN, mExtT, mPop, mDrop, mNext, mNever, mOp, mUn, mVar, mC, mQVar, mLVar, mIxV, mQE, mLE, mEN, asL, asQ, mTup, mLst, mDs, datas, mA0, mA1, mAV, mCat, mTB, mTru, tru, mTruQ, mAnd, mOr, mNot, mAndV, mOrV, mNotV, mIf, mChain, mLen, mAll, mAny, mBools, mSum, mList, mTuple, mB, fAbs, fInt, fMax2, fMin2, mIsi, fIsi, tyN, fAdd, fTT, fSub, fMulX, fMul, fRep, fII, fI0, bMul, bDiv, bMod, bPow, fDiv, fMod, fPow, fLt, fLe, fGt, fGe, fIs, fIsNot, fIsB, fNotB, fIsN, fNotN, isN, fNeg, fIx, mCall, mCallN, rtD, rtN, mgN, mg0, mg1, mgT, mO0, mO1, mSlT, mSlL, mYes, mR1, mR2, mNotT, mNotTQ, mInQ, mCatV, mCatX, mCatY, mSlV, Option.bind, mLc, wipeR, hb, r4l, e4, htl, e5, h4]
  obtain ⟨ρ', hρ, e7⟩ := for_nx (P := fun ρ => ∃ w11 u v z w, ρ = [some (.d (.list (ns.map .int))), some (.loc 0), some (.d (dA A)), some (.d (tbD q rows)), some (.loc 1), w5, none, some (.d (tbD q rows')), some (.d (.list (ts.map T.d))), none, none, w11, u, v, z, w]) (mg := mgN 11) (mb := bodyF) (S := S4) (ts.map T.d) _ ⟨none, none, none, none, none, rfl⟩ (fun x hx ρ hρ => by
    obtain ⟨w11, u, v, z, w, rfl⟩ := hρ
    obtain ⟨a, ha, rfl⟩ := List.mem_map.mp hx
    obtain ⟨u', v', z', w', e⟩ := step_f hA ht hL S4 (some (.d (.list (ns.map .int)))) (some (.loc 0)) (some (.loc 1)) w5 none none none hts ha u v z w
    exact ⟨_, _, rfl, ⟨_, _, _, _, _, rfl⟩, e⟩)
  have k7 : (mFor (mQE (mVar 8)) (mgN 11) bodyF) [some (.d (.list (ns.map .int))), some (.loc 0), some (.d (dA A)), some (.d (tbD q rows)), some (.loc 1), w5, none, some (.d (tbD q rows')), some (.d (.list (ts.map T.d))), none, none, none, none, none, none, none] S4 = some (.nx, ρ', S4) := by
    simp [mFor, mQE, mVar, Option.bind]
    exact e7
  have k8 : (mRet (mC (.bool true))) ρ' S4 = some (.rt (.val (.bool true)), ρ', S4) := by
    simp [mDef, mSeq, mRet, mRetL, mRetV, mRetN, mIfS, mAsg, mNew, mAug, mSub, mApp, mExtN, mExtT, mPop, mDrop, mNext, mNever, mOp, mUn, mVar, mC, mQVar, mLVar, mIxV, mQE, mLE, mEN, asL, asQ, mTup, mLst, mDs, datas, mA0, mA1, mAV, mCat, mTB, mTru, tru, mTruQ, mAnd, mOr, mNot, mAndV, mOrV, mNotV, mIf, mChain, mLen, mAll, mAny, mBools, mSum, mList, mTuple, mB, fAbs, fInt, fMax2, fMin2, mIsi, fIsi, tyN, fAdd, fTT, fSub, fMulX, fMul, fRep, fII, fI0, bMul, bDiv, bMod, bPow, fDiv, fMod, fPow, fLt, fLe, fGt, fGe, fIs, fIsNot, fIsB, fNotB, fIsN, fNotN, isN, fNeg, fIx, mCall, mCallN, rtD, rtN, mgN, mg0, mg1, mgT, mO0, mO1, mSlT, mSlL, mYes, mR1, mR2, mNotT, mNotTQ, mInQ, mCatV, mCatX, mCatY, mSlV, Option.bind]
  have body : mSeq _ _ _ _ = _ := (seq_nx k0).trans ((seq_nx k1).trans ((seq_nx k2).trans ((seq_nx k3).trans ((seq_nx k4).trans ((seq_nx k5).trans ((seq_nx k6).trans ((seq_nx k7).trans k8)))))))
  exact def_rt body
end G
set_option Elab.async false
set_option linter.all false
set_option autoImplicit false
set_option maxRecDepth 100000
set_option maxHeartbeats 4000000
namespace G
open PySem L2
structure Facts (K : PySem.W.Frag) (mg : Str → Option Value) where
  a_require : Addr
  fd_require : FuncData
  F_require : Fun K "require" "require" s_require a_require fd_require
  g_require : mg "require" = some (.ref a_require)
  b_require : Binds K fd_require ["holds", "name"] []
  a_is_integer : Addr
  fd_is_integer : FuncData
  F_is_integer : Fun K "is_integer" "is_integer" s_is_integer a_is_integer fd_is_integer
  g_is_integer : mg "is_integer" = some (.ref a_is_integer)
  b_is_integer : Binds K fd_is_integer ["value", "least", "most"] []
  a_is_tuple : Addr
  fd_is_tuple : FuncData
  F_is_tuple : Fun K "is_tuple" "is_tuple" s_is_tuple a_is_tuple fd_is_tuple
  g_is_tuple : mg "is_tuple" = some (.ref a_is_tuple)
  b_is_tuple : Binds K fd_is_tuple ["value", "least", "most"] []
  a_are_integers : Addr
  fd_are_integers : FuncData
  F_are_integers : Fun K "are_integers" "are_integers" s_are_integers a_are_integers fd_are_integers
  g_are_integers : mg "are_integers" = some (.ref a_are_integers)
  b_are_integers : Binds K fd_are_integers ["values", "least", "most"] []
  a_is_arities : Addr
  fd_is_arities : FuncData
  F_is_arities : Fun K "is_arities" "is_arities" s_is_arities a_is_arities fd_is_arities
  g_is_arities : mg "is_arities" = some (.ref a_is_arities)
  b_is_arities : Binds K fd_is_arities ["value"] []
  a_is_tree : Addr
  fd_is_tree : FuncData
  F_is_tree : Fun K "is_tree" "is_tree" s_is_tree a_is_tree fd_is_tree
  g_is_tree : mg "is_tree" = some (.ref a_is_tree)
  b_is_tree : Binds K fd_is_tree ["arities", "value"] []
  a__is_node : Addr
  fd__is_node : FuncData
  F__is_node : Fun K "_is_node" "_is_node" s__is_node a__is_node fd__is_node
  g__is_node : mg "_is_node" = some (.ref a__is_node)
  b__is_node : Binds K fd__is_node ["arities", "value"] []
  a_is_table : Addr
  fd_is_table : FuncData
  F_is_table : Fun K "is_table" "is_table" s_is_table a_is_table fd_is_table
  g_is_table : mg "is_table" = some (.ref a_is_table)
  b_is_table : Binds K fd_is_table ["arities", "value"] []
  a__is_row : Addr
  fd__is_row : FuncData
  F__is_row : Fun K "_is_row" "_is_row" s__is_row a__is_row fd__is_row
  g__is_row : mg "_is_row" = some (.ref a__is_row)
  b__is_row : Binds K fd__is_row ["arities", "value", "many"] []
  a__is_entry : Addr
  fd__is_entry : FuncData
  F__is_entry : Fun K "_is_entry" "_is_entry" s__is_entry a__is_entry fd__is_entry
  g__is_entry : mg "_is_entry" = some (.ref a__is_entry)
  b__is_entry : Binds K fd__is_entry ["value", "arity", "many"] []
  a__require_table_and_tree : Addr
  fd__require_table_and_tree : FuncData
  F__require_table_and_tree : Fun K "_require_table_and_tree" "_require_table_and_tree" s__require_table_and_tree a__require_table_and_tree fd__require_table_and_tree
  g__require_table_and_tree : mg "_require_table_and_tree" = some (.ref a__require_table_and_tree)
  b__require_table_and_tree : Binds K fd__require_table_and_tree ["arities", "table", "tree"] []
  a_run : Addr
  fd_run : FuncData
  F_run : Fun K "run" "run" s_run a_run fd_run
  g_run : mg "run" = some (.ref a_run)
  b_run : Binds K fd_run ["arities", "table", "tree"] []
  a__visits : Addr
  fd__visits : FuncData
  F__visits : Fun K "_visits" "_visits" s__visits a__visits fd__visits
  g__visits : mg "_visits" = some (.ref a__visits)
  b__visits : Binds K fd__visits ["rows", "tree", "state", "place"] []
  a__law_stream : Addr
  fd__law_stream : FuncData
  F__law_stream : Fun K "_law_stream" "_law_stream" s__law_stream a__law_stream fd__law_stream
  g__law_stream : mg "_law_stream" = some (.ref a__law_stream)
  b__law_stream : Binds K fd__law_stream ["script"] []
  a__law_next : Addr
  fd__law_next : FuncData
  F__law_next : Fun K "_law_next" "_law_next" s__law_next a__law_next fd__law_next
  g__law_next : mg "_law_next" = some (.ref a__law_next)
  b__law_next : Binds K fd__law_next ["stream", "many"] []
  a__law_is_integer : Addr
  fd__law_is_integer : FuncData
  F__law_is_integer : Fun K "_law_is_integer" "_law_is_integer" s__law_is_integer a__law_is_integer fd__law_is_integer
  g__law_is_integer : mg "_law_is_integer" = some (.ref a__law_is_integer)
  b__law_is_integer : Binds K fd__law_is_integer ["actual"] []
  a__law_equal : Addr
  fd__law_equal : FuncData
  F__law_equal : Fun K "_law_equal" "_law_equal" s__law_equal a__law_equal fd__law_equal
  g__law_equal : mg "_law_equal" = some (.ref a__law_equal)
  b__law_equal : Binds K fd__law_equal ["actual", "due"] []
  a__law_arities : Addr
  fd__law_arities : FuncData
  F__law_arities : Fun K "_law_arities" "_law_arities" s__law_arities a__law_arities fd__law_arities
  g__law_arities : mg "_law_arities" = some (.ref a__law_arities)
  b__law_arities : Binds K fd__law_arities ["stream"] []
  a__law_table : Addr
  fd__law_table : FuncData
  F__law_table : Fun K "_law_table" "_law_table" s__law_table a__law_table fd__law_table
  g__law_table : mg "_law_table" = some (.ref a__law_table)
  b__law_table : Binds K fd__law_table ["stream", "arities", "most"] []
  a__law_tree : Addr
  fd__law_tree : FuncData
  F__law_tree : Fun K "_law_tree" "_law_tree" s__law_tree a__law_tree fd__law_tree
  g__law_tree : mg "_law_tree" = some (.ref a__law_tree)
  b__law_tree : Binds K fd__law_tree ["stream", "arities", "most"] []
  a__law_nodes : Addr
  fd__law_nodes : FuncData
  F__law_nodes : Fun K "_law_nodes" "_law_nodes" s__law_nodes a__law_nodes fd__law_nodes
  g__law_nodes : mg "_law_nodes" = some (.ref a__law_nodes)
  b__law_nodes : Binds K fd__law_nodes ["tree"] []
  a__law_places : Addr
  fd__law_places : FuncData
  F__law_places : Fun K "_law_places" "_law_places" s__law_places a__law_places fd__law_places
  g__law_places : mg "_law_places" = some (.ref a__law_places)
  b__law_places : Binds K fd__law_places ["tree"] []
  a__law_part : Addr
  fd__law_part : FuncData
  F__law_part : Fun K "_law_part" "_law_part" s__law_part a__law_part fd__law_part
  g__law_part : mg "_law_part" = some (.ref a__law_part)
  b__law_part : Binds K fd__law_part ["tree", "place"] []
  a__law_put : Addr
  fd__law_put : FuncData
  F__law_put : Fun K "_law_put" "_law_put" s__law_put a__law_put fd__law_put
  g__law_put : mg "_law_put" = some (.ref a__law_put)
  b__law_put : Binds K fd__law_put ["tree", "place", "part"] []
  a__law_is_alike : Addr
  fd__law_is_alike : FuncData
  F__law_is_alike : Fun K "_law_is_alike" "_law_is_alike" s__law_is_alike a__law_is_alike fd__law_is_alike
  g__law_is_alike : mg "_law_is_alike" = some (.ref a__law_is_alike)
  b__law_is_alike : Binds K fd__law_is_alike ["first", "second", "place"] []
  a_law : Addr
  fd_law : FuncData
  F_law : Fun K "law" "law" s_law a_law fd_law
  g_law : mg "law" = some (.ref a_law)
  b_law : Binds K fd_law ["script"] []
  z_isinstance : mg "isinstance" = none
  z_int : mg "int" = none
  z_bool : mg "bool" = none
  z_tuple : mg "tuple" = none
  z_len : mg "len" = none
  z_all : mg "all" = none
  z_zip : mg "zip" = none
  z_enumerate : mg "enumerate" = none
  z_list : mg "list" = none
  z_abs : mg "abs" = none
  z_str : mg "str" = none
  z_range : mg "range" = none
  z_sum : mg "sum" = none
  t_MOST_SYMBOLS : Tok
  c_MOST_SYMBOLS : mg "MOST_SYMBOLS" = some (.int 4 t_MOST_SYMBOLS)
  t_MOST_CHILDREN : Tok
  c_MOST_CHILDREN : mg "MOST_CHILDREN" = some (.int 2 t_MOST_CHILDREN)
  t_MOST_NODES : Tok
  c_MOST_NODES : mg "MOST_NODES" = some (.int 15 t_MOST_NODES)
  t_MOST_STATES : Tok
  c_MOST_STATES : mg "MOST_STATES" = some (.int 4 t_MOST_STATES)
section
variable {P : Program} {w : World} {K : PySem.W.Frag} {mg : Str → Option Value} {base : Heap}
structure AllOk (P : Program) (w : World) (K : PySem.W.Frag) (mg : Str → Option Value) (base : Heap) (T : Facts K mg) (n : Nat) : Prop where
  h_require : FnOk P w K mg base CX0 n T.a_require T.fd_require ["holds", "name"] (spD K 2 (lev n).require)
  h_is_integer : FnOk P w K mg base CX0 n T.a_is_integer T.fd_is_integer ["value", "least", "most"] (spD K 3 (lev n).is_integer)
  h_is_tuple : FnOk P w K mg base CX0 n T.a_is_tuple T.fd_is_tuple ["value", "least", "most"] (spD K 3 (lev n).is_tuple)
  h_are_integers : FnOk P w K mg base CX0 n T.a_are_integers T.fd_are_integers ["values", "least", "most"] (spD K 3 (lev n).are_integers)
  h_is_arities : FnOk P w K mg base CX0 n T.a_is_arities T.fd_is_arities ["value"] (spD K 1 (lev n).is_arities)
  h_is_tree : FnOk P w K mg base CX0 n T.a_is_tree T.fd_is_tree ["arities", "value"] (spD K 2 (lev n).is_tree)
  h__is_node : FnOk P w K mg base CX0 n T.a__is_node T.fd__is_node ["arities", "value"] (spD K 2 (lev n)._is_node)
  h_is_table : FnOk P w K mg base CX0 n T.a_is_table T.fd_is_table ["arities", "value"] (spD K 2 (lev n).is_table)
  h__is_row : FnOk P w K mg base CX0 n T.a__is_row T.fd__is_row ["arities", "value", "many"] (spD K 3 (lev n)._is_row)
  h__is_entry : FnOk P w K mg base CX0 n T.a__is_entry T.fd__is_entry ["value", "arity", "many"] (spD K 3 (lev n)._is_entry)
  h__require_table_and_tree : FnOk P w K mg base CX0 n T.a__require_table_and_tree T.fd__require_table_and_tree ["arities", "table", "tree"] (spD K 3 (lev n)._require_table_and_tree)
  h_run : FnOk P w K mg base CX0 n T.a_run T.fd_run ["arities", "table", "tree"] (spD K 3 (lev n).run)
  h__visits : FnOk P w K mg base CX0 n T.a__visits T.fd__visits ["rows", "tree", "state", "place"] (spD K 4 (lev n)._visits)
  h__law_stream : FnOk P w K mg base CX0 n T.a__law_stream T.fd__law_stream ["script"] (spD K 1 (lev n)._law_stream)
  h__law_next : FnOk P w K mg base CX0 n T.a__law_next T.fd__law_next ["stream", "many"] (spD K 2 (lev n)._law_next)
  h__law_is_integer : FnOk P w K mg base CX0 n T.a__law_is_integer T.fd__law_is_integer ["actual"] (spD K 1 (lev n)._law_is_integer)
  h__law_equal : FnOk P w K mg base CX0 n T.a__law_equal T.fd__law_equal ["actual", "due"] (spD K 2 (lev n)._law_equal)
  h__law_arities : FnOk P w K mg base CX0 n T.a__law_arities T.fd__law_arities ["stream"] (spD K 1 (lev n)._law_arities)
  h__law_table : FnOk P w K mg base CX0 n T.a__law_table T.fd__law_table ["stream", "arities", "most"] (spD K 3 (lev n)._law_table)
  h__law_tree : FnOk P w K mg base CX0 n T.a__law_tree T.fd__law_tree ["stream", "arities", "most"] (spD K 3 (lev n)._law_tree)
  h__law_nodes : FnOk P w K mg base CX0 n T.a__law_nodes T.fd__law_nodes ["tree"] (spD K 1 (lev n)._law_nodes)
  h__law_places : FnOk P w K mg base CX0 n T.a__law_places T.fd__law_places ["tree"] (spD K 1 (lev n)._law_places)
  h__law_part : FnOk P w K mg base CX0 n T.a__law_part T.fd__law_part ["tree", "place"] (spD K 2 (lev n)._law_part)
  h__law_put : FnOk P w K mg base CX0 n T.a__law_put T.fd__law_put ["tree", "place", "part"] (spD K 3 (lev n)._law_put)
  h__law_is_alike : FnOk P w K mg base CX0 n T.a__law_is_alike T.fd__law_is_alike ["first", "second", "place"] (spD K 3 (lev n)._law_is_alike)
  h_law : FnOk P w K mg base CX0 n T.a_law T.fd_law ["script"] (spD K 1 (lev n).law)
theorem all_ok (T : Facts K mg) : ∀ n : Nat, AllOk P w K mg base T n
  | 0 => ⟨def_0 fun _ _ => rfl, def_0 fun _ _ => rfl, def_0 fun _ _ => rfl, def_0 fun _ _ => rfl, def_0 fun _ _ => rfl, def_0 fun _ _ => rfl, def_0 fun _ _ => rfl, def_0 fun _ _ => rfl, def_0 fun _ _ => rfl, def_0 fun _ _ => rfl, def_0 fun _ _ => rfl, def_0 fun _ _ => rfl, def_0 fun _ _ => rfl, def_0 fun _ _ => rfl, def_0 fun _ _ => rfl, def_0 fun _ _ => rfl, def_0 fun _ _ => rfl, def_0 fun _ _ => rfl, def_0 fun _ _ => rfl, def_0 fun _ _ => rfl, def_0 fun _ _ => rfl, def_0 fun _ _ => rfl, def_0 fun _ _ => rfl, def_0 fun _ _ => rfl, def_0 fun _ _ => rfl, def_0 fun _ _ => rfl⟩
  | n + 1 =>
    have ih := all_ok T n
    ⟨ok_require T.F_require,
     ok_is_integer T.F_is_integer T.z_isinstance T.z_int T.z_bool,
     ok_is_tuple T.F_is_tuple T.z_isinstance T.z_tuple T.z_len,
     ok_are_integers T.F_are_integers ih.h_is_integer T.g_is_integer T.F_is_integer.kp T.b_is_integer T.z_all,
     ok_is_arities T.F_is_arities ih.h_is_tuple T.g_is_tuple T.F_is_tuple.kp T.b_is_tuple ih.h_are_integers T.g_are_integers T.F_are_integers.kp T.b_are_integers T.c_MOST_SYMBOLS T.c_MOST_CHILDREN,
     ok_is_tree T.F_is_tree ih.h__is_node T.g__is_node T.F__is_node.kp T.b__is_node T.c_MOST_NODES,
     ok__is_node T.F__is_node ih.h_is_tuple T.g_is_tuple T.F_is_tuple.kp T.b_is_tuple ih.h_is_integer T.g_is_integer T.F_is_integer.kp T.b_is_integer T.z_len T.c_MOST_CHILDREN,
     ok_is_table T.F_is_table ih.h_require T.g_require T.F_require.kp T.b_require ih.h_is_arities T.g_is_arities T.F_is_arities.kp T.b_is_arities ih.h_is_tuple T.g_is_tuple T.F_is_tuple.kp T.b_is_tuple ih.h_is_integer T.g_is_integer T.F_is_integer.kp T.b_is_integer ih.h__is_row T.g__is_row T.F__is_row.kp T.b__is_row T.z_len T.z_all T.c_MOST_STATES,
     ok__is_row T.F__is_row ih.h_is_tuple T.g_is_tuple T.F_is_tuple.kp T.b_is_tuple ih.h__is_entry T.g__is_entry T.F__is_entry.kp T.b__is_entry T.z_len T.z_all T.z_zip,
     ok__is_entry T.F__is_entry ih.h_is_tuple T.g_is_tuple T.F_is_tuple.kp T.b_is_tuple ih.h_are_integers T.g_are_integers T.F_are_integers.kp T.b_are_integers,
     ok__require_table_and_tree T.F__require_table_and_tree ih.h_require T.g_require T.F_require.kp T.b_require ih.h_is_table T.g_is_table T.F_is_table.kp T.b_is_table ih.h_is_tree T.g_is_tree T.F_is_tree.kp T.b_is_tree,
     ok_run T.F_run ih.h__require_table_and_tree T.g__require_table_and_tree T.F__require_table_and_tree.kp T.b__require_table_and_tree ih.h__visits T.g__visits T.F__visits.kp T.b__visits T.z_tuple,
     ok__visits T.F__visits ih.h__visits T.g__visits T.F__visits.kp T.b__visits T.z_enumerate,
     ok__law_stream T.F__law_stream T.z_list,
     ok__law_next T.F__law_next T.z_len T.z_abs T.z_int,
     ok__law_is_integer T.F__law_is_integer T.z_isinstance T.z_int T.z_bool,
     ok__law_equal T.F__law_equal ih.h__law_is_integer T.g__law_is_integer T.F__law_is_integer.kp T.b__law_is_integer ih.h__law_equal T.g__law_equal T.F__law_equal.kp T.b__law_equal T.z_isinstance T.z_bool T.z_int T.z_str T.z_tuple T.z_list T.z_len T.z_all T.z_range,
     ok__law_arities T.F__law_arities ih.h__law_next T.g__law_next T.F__law_next.kp T.b__law_next,
     ok__law_table T.F__law_table ih.h__law_next T.g__law_next T.F__law_next.kp T.b__law_next T.z_range T.z_tuple,
     ok__law_tree T.F__law_tree ih.h__law_next T.g__law_next T.F__law_next.kp T.b__law_next T.z_range T.z_len,
     ok__law_nodes T.F__law_nodes ih.h__law_nodes T.g__law_nodes T.F__law_nodes.kp T.b__law_nodes T.z_sum,
     ok__law_places T.F__law_places ih.h__law_places T.g__law_places T.F__law_places.kp T.b__law_places T.z_range T.z_len,
     ok__law_part T.F__law_part,
     ok__law_put T.F__law_put ih.h__law_put T.g__law_put T.F__law_put.kp T.b__law_put,
     ok__law_is_alike T.F__law_is_alike,
     ok_law T.F_law ih.h__law_stream T.g__law_stream T.F__law_stream.kp T.b__law_stream ih.h__law_arities T.g__law_arities T.F__law_arities.kp T.b__law_arities ih.h__law_table T.g__law_table T.F__law_table.kp T.b__law_table ih.h__law_next T.g__law_next T.F__law_next.kp T.b__law_next ih.h__law_tree T.g__law_tree T.F__law_tree.kp T.b__law_tree ih.h__law_nodes T.g__law_nodes T.F__law_nodes.kp T.b__law_nodes ih.h_run T.g_run T.F_run.kp T.b_run ih.h__law_places T.g__law_places T.F__law_places.kp T.b__law_places ih.h__law_is_alike T.g__law_is_alike T.F__law_is_alike.kp T.b__law_is_alike ih.h__law_put T.g__law_put T.F__law_put.kp T.b__law_put ih.h__law_part T.g__law_part T.F__law_part.kp T.b__law_part ih.h__law_equal T.g__law_equal T.F__law_equal.kp T.b__law_equal T.z_tuple T.z_range⟩
def spLaw (K : PySem.W.Frag) : Sp := fun vs H Q _ => ∃ (a : Addr) (ns : List Int), vs = [.ref a] ∧ SqL K H a (ns.map V.int) ∧ ns.length ≤ 63 ∧ ∀ H', Q (.bl true) H'
theorem rl_ints {M : Adr} {H : Hp} : ∀ ns : List Int, RlA K M H (ns.map V.int) (ns.map PyData.int)
  | [] => .nil
  | n :: r => .cons (.int n) (rl_ints r)
theorem Ok.empty {H : Hp} : Ok K ⟨[], []⟩ [] H where
  len := rfl
  inj := fun i j a h _ => by simp at h
  cell := fun n xs h => by simp at h
  lst := fun a h => by rcases h with h | h <;> cases h
  dj := fun a h => by cases h
theorem law_sp (LV : Nat) (hm : ∀ ns : List Int, ns.length ≤ 63 → ∃ S', (lev LV).law [.d (.list (ns.map .int))] [] = some (.val (.bool true), S')) (vs : List V) (H : Hp) (Q : VK) (E : XK) (h : spLaw K vs H Q E) : spD K 1 (lev LV).law vs H Q E := by
  obtain ⟨a, ns, rfl, hS, hl, q⟩ := h
  obtain ⟨S', e⟩ := hm ns hl
  refine ⟨rfl, ⟨[], []⟩, [], [.d (.list (ns.map .int))], _, S', Ok.empty, .cons ?_ .nil, e, fun v H' M' x ok r => ?_⟩
  · refine Rl.lst ?_ (rl_ints ns)
    rcases hS with hS | hS
    · exact .inl ⟨hS, fun z => by rcases z with z | z <;> cases z⟩
    · exact .inr (.inr hS)
  · cases r
    exact q H'
end
theorem all_mk (LV : Nat) (hm : ∀ ns : List Int, ns.length ≤ 63 → ∃ S', (lev LV).law [.d (.list (ns.map .int))] [] = some (.val (.bool true), S')) {l : PySem.W.OpenLaw} {w : World} {K : PySem.W.Frag} {h : Heap} {mg : Str → Option Value} {fa : Addr} (X : K.In h) (hG : h.Ns mainGlobals mg) (hfa : mg "law" = some (.ref fa))
    {f_require : Addr} {od_require an_require : Option Addr} {sl_require : Array (Option Value)} {oc_require kV_require dc_require pm_require cd_require ct_require : Value} (a_require : PySem.W.nsIn K mainGlobals "require" = some (some (.ref f_require))) (l_require : K.lookup f_require = some ⟨oc_require, od_require, .func (PySem.W.fnOf "require" "require" (defArgs s_require) (defBody s_require) (defScope s_require) .none kV_require dc_require pm_require an_require cd_require ct_require), sl_require⟩) (c_require : PySem.W.codeIn K cd_require "require" = true) (k_require : PySem.W.keepIn K (.ref f_require) = true)
    {f_is_integer : Addr} {od_is_integer an_is_integer : Option Addr} {sl_is_integer : Array (Option Value)} {oc_is_integer kV_is_integer dc_is_integer pm_is_integer cd_is_integer ct_is_integer : Value} (a_is_integer : PySem.W.nsIn K mainGlobals "is_integer" = some (some (.ref f_is_integer))) (l_is_integer : K.lookup f_is_integer = some ⟨oc_is_integer, od_is_integer, .func (PySem.W.fnOf "is_integer" "is_integer" (defArgs s_is_integer) (defBody s_is_integer) (defScope s_is_integer) .none kV_is_integer dc_is_integer pm_is_integer an_is_integer cd_is_integer ct_is_integer), sl_is_integer⟩) (c_is_integer : PySem.W.codeIn K cd_is_integer "is_integer" = true) (k_is_integer : PySem.W.keepIn K (.ref f_is_integer) = true)
    {f_is_tuple : Addr} {od_is_tuple an_is_tuple : Option Addr} {sl_is_tuple : Array (Option Value)} {oc_is_tuple kV_is_tuple dc_is_tuple pm_is_tuple cd_is_tuple ct_is_tuple : Value} (a_is_tuple : PySem.W.nsIn K mainGlobals "is_tuple" = some (some (.ref f_is_tuple))) (l_is_tuple : K.lookup f_is_tuple = some ⟨oc_is_tuple, od_is_tuple, .func (PySem.W.fnOf "is_tuple" "is_tuple" (defArgs s_is_tuple) (defBody s_is_tuple) (defScope s_is_tuple) .none kV_is_tuple dc_is_tuple pm_is_tuple an_is_tuple cd_is_tuple ct_is_tuple), sl_is_tuple⟩) (c_is_tuple : PySem.W.codeIn K cd_is_tuple "is_tuple" = true) (k_is_tuple : PySem.W.keepIn K (.ref f_is_tuple) = true)
    {f_are_integers : Addr} {od_are_integers an_are_integers : Option Addr} {sl_are_integers : Array (Option Value)} {oc_are_integers kV_are_integers dc_are_integers pm_are_integers cd_are_integers ct_are_integers : Value} (a_are_integers : PySem.W.nsIn K mainGlobals "are_integers" = some (some (.ref f_are_integers))) (l_are_integers : K.lookup f_are_integers = some ⟨oc_are_integers, od_are_integers, .func (PySem.W.fnOf "are_integers" "are_integers" (defArgs s_are_integers) (defBody s_are_integers) (defScope s_are_integers) .none kV_are_integers dc_are_integers pm_are_integers an_are_integers cd_are_integers ct_are_integers), sl_are_integers⟩) (c_are_integers : PySem.W.codeIn K cd_are_integers "are_integers" = true) (k_are_integers : PySem.W.keepIn K (.ref f_are_integers) = true)
    {f_is_arities : Addr} {od_is_arities an_is_arities : Option Addr} {sl_is_arities : Array (Option Value)} {oc_is_arities kV_is_arities dc_is_arities pm_is_arities cd_is_arities ct_is_arities : Value} (a_is_arities : PySem.W.nsIn K mainGlobals "is_arities" = some (some (.ref f_is_arities))) (l_is_arities : K.lookup f_is_arities = some ⟨oc_is_arities, od_is_arities, .func (PySem.W.fnOf "is_arities" "is_arities" (defArgs s_is_arities) (defBody s_is_arities) (defScope s_is_arities) .none kV_is_arities dc_is_arities pm_is_arities an_is_arities cd_is_arities ct_is_arities), sl_is_arities⟩) (c_is_arities : PySem.W.codeIn K cd_is_arities "is_arities" = true) (k_is_arities : PySem.W.keepIn K (.ref f_is_arities) = true)
    {f_is_tree : Addr} {od_is_tree an_is_tree : Option Addr} {sl_is_tree : Array (Option Value)} {oc_is_tree kV_is_tree dc_is_tree pm_is_tree cd_is_tree ct_is_tree : Value} (a_is_tree : PySem.W.nsIn K mainGlobals "is_tree" = some (some (.ref f_is_tree))) (l_is_tree : K.lookup f_is_tree = some ⟨oc_is_tree, od_is_tree, .func (PySem.W.fnOf "is_tree" "is_tree" (defArgs s_is_tree) (defBody s_is_tree) (defScope s_is_tree) .none kV_is_tree dc_is_tree pm_is_tree an_is_tree cd_is_tree ct_is_tree), sl_is_tree⟩) (c_is_tree : PySem.W.codeIn K cd_is_tree "is_tree" = true) (k_is_tree : PySem.W.keepIn K (.ref f_is_tree) = true)
    {f__is_node : Addr} {od__is_node an__is_node : Option Addr} {sl__is_node : Array (Option Value)} {oc__is_node kV__is_node dc__is_node pm__is_node cd__is_node ct__is_node : Value} (a__is_node : PySem.W.nsIn K mainGlobals "_is_node" = some (some (.ref f__is_node))) (l__is_node : K.lookup f__is_node = some ⟨oc__is_node, od__is_node, .func (PySem.W.fnOf "_is_node" "_is_node" (defArgs s__is_node) (defBody s__is_node) (defScope s__is_node) .none kV__is_node dc__is_node pm__is_node an__is_node cd__is_node ct__is_node), sl__is_node⟩) (c__is_node : PySem.W.codeIn K cd__is_node "_is_node" = true) (k__is_node : PySem.W.keepIn K (.ref f__is_node) = true)
    {f_is_table : Addr} {od_is_table an_is_table : Option Addr} {sl_is_table : Array (Option Value)} {oc_is_table kV_is_table dc_is_table pm_is_table cd_is_table ct_is_table : Value} (a_is_table : PySem.W.nsIn K mainGlobals "is_table" = some (some (.ref f_is_table))) (l_is_table : K.lookup f_is_table = some ⟨oc_is_table, od_is_table, .func (PySem.W.fnOf "is_table" "is_table" (defArgs s_is_table) (defBody s_is_table) (defScope s_is_table) .none kV_is_table dc_is_table pm_is_table an_is_table cd_is_table ct_is_table), sl_is_table⟩) (c_is_table : PySem.W.codeIn K cd_is_table "is_table" = true) (k_is_table : PySem.W.keepIn K (.ref f_is_table) = true)
    {f__is_row : Addr} {od__is_row an__is_row : Option Addr} {sl__is_row : Array (Option Value)} {oc__is_row kV__is_row dc__is_row pm__is_row cd__is_row ct__is_row : Value} (a__is_row : PySem.W.nsIn K mainGlobals "_is_row" = some (some (.ref f__is_row))) (l__is_row : K.lookup f__is_row = some ⟨oc__is_row, od__is_row, .func (PySem.W.fnOf "_is_row" "_is_row" (defArgs s__is_row) (defBody s__is_row) (defScope s__is_row) .none kV__is_row dc__is_row pm__is_row an__is_row cd__is_row ct__is_row), sl__is_row⟩) (c__is_row : PySem.W.codeIn K cd__is_row "_is_row" = true) (k__is_row : PySem.W.keepIn K (.ref f__is_row) = true)
    {f__is_entry : Addr} {od__is_entry an__is_entry : Option Addr} {sl__is_entry : Array (Option Value)} {oc__is_entry kV__is_entry dc__is_entry pm__is_entry cd__is_entry ct__is_entry : Value} (a__is_entry : PySem.W.nsIn K mainGlobals "_is_entry" = some (some (.ref f__is_entry))) (l__is_entry : K.lookup f__is_entry = some ⟨oc__is_entry, od__is_entry, .func (PySem.W.fnOf "_is_entry" "_is_entry" (defArgs s__is_entry) (defBody s__is_entry) (defScope s__is_entry) .none kV__is_entry dc__is_entry pm__is_entry an__is_entry cd__is_entry ct__is_entry), sl__is_entry⟩) (c__is_entry : PySem.W.codeIn K cd__is_entry "_is_entry" = true) (k__is_entry : PySem.W.keepIn K (.ref f__is_entry) = true)
    {f__require_table_and_tree : Addr} {od__require_table_and_tree an__require_table_and_tree : Option Addr} {sl__require_table_and_tree : Array (Option Value)} {oc__require_table_and_tree kV__require_table_and_tree dc__require_table_and_tree pm__require_table_and_tree cd__require_table_and_tree ct__require_table_and_tree : Value} (a__require_table_and_tree : PySem.W.nsIn K mainGlobals "_require_table_and_tree" = some (some (.ref f__require_table_and_tree))) (l__require_table_and_tree : K.lookup f__require_table_and_tree = some ⟨oc__require_table_and_tree, od__require_table_and_tree, .func (PySem.W.fnOf "_require_table_and_tree" "_require_table_and_tree" (defArgs s__require_table_and_tree) (defBody s__require_table_and_tree) (defScope s__require_table_and_tree) .none kV__require_table_and_tree dc__require_table_and_tree pm__require_table_and_tree an__require_table_and_tree cd__require_table_and_tree ct__require_table_and_tree), sl__require_table_and_tree⟩) (c__require_table_and_tree : PySem.W.codeIn K cd__require_table_and_tree "_require_table_and_tree" = true) (k__require_table_and_tree : PySem.W.keepIn K (.ref f__require_table_and_tree) = true)
    {f_run : Addr} {od_run an_run : Option Addr} {sl_run : Array (Option Value)} {oc_run kV_run dc_run pm_run cd_run ct_run : Value} (a_run : PySem.W.nsIn K mainGlobals "run" = some (some (.ref f_run))) (l_run : K.lookup f_run = some ⟨oc_run, od_run, .func (PySem.W.fnOf "run" "run" (defArgs s_run) (defBody s_run) (defScope s_run) .none kV_run dc_run pm_run an_run cd_run ct_run), sl_run⟩) (c_run : PySem.W.codeIn K cd_run "run" = true) (k_run : PySem.W.keepIn K (.ref f_run) = true)
    {f__visits : Addr} {od__visits an__visits : Option Addr} {sl__visits : Array (Option Value)} {oc__visits kV__visits dc__visits pm__visits cd__visits ct__visits : Value} (a__visits : PySem.W.nsIn K mainGlobals "_visits" = some (some (.ref f__visits))) (l__visits : K.lookup f__visits = some ⟨oc__visits, od__visits, .func (PySem.W.fnOf "_visits" "_visits" (defArgs s__visits) (defBody s__visits) (defScope s__visits) .none kV__visits dc__visits pm__visits an__visits cd__visits ct__visits), sl__visits⟩) (c__visits : PySem.W.codeIn K cd__visits "_visits" = true) (k__visits : PySem.W.keepIn K (.ref f__visits) = true)
    {f__law_stream : Addr} {od__law_stream an__law_stream : Option Addr} {sl__law_stream : Array (Option Value)} {oc__law_stream kV__law_stream dc__law_stream pm__law_stream cd__law_stream ct__law_stream : Value} (a__law_stream : PySem.W.nsIn K mainGlobals "_law_stream" = some (some (.ref f__law_stream))) (l__law_stream : K.lookup f__law_stream = some ⟨oc__law_stream, od__law_stream, .func (PySem.W.fnOf "_law_stream" "_law_stream" (defArgs s__law_stream) (defBody s__law_stream) (defScope s__law_stream) .none kV__law_stream dc__law_stream pm__law_stream an__law_stream cd__law_stream ct__law_stream), sl__law_stream⟩) (c__law_stream : PySem.W.codeIn K cd__law_stream "_law_stream" = true) (k__law_stream : PySem.W.keepIn K (.ref f__law_stream) = true)
    {f__law_next : Addr} {od__law_next an__law_next : Option Addr} {sl__law_next : Array (Option Value)} {oc__law_next kV__law_next dc__law_next pm__law_next cd__law_next ct__law_next : Value} (a__law_next : PySem.W.nsIn K mainGlobals "_law_next" = some (some (.ref f__law_next))) (l__law_next : K.lookup f__law_next = some ⟨oc__law_next, od__law_next, .func (PySem.W.fnOf "_law_next" "_law_next" (defArgs s__law_next) (defBody s__law_next) (defScope s__law_next) .none kV__law_next dc__law_next pm__law_next an__law_next cd__law_next ct__law_next), sl__law_next⟩) (c__law_next : PySem.W.codeIn K cd__law_next "_law_next" = true) (k__law_next : PySem.W.keepIn K (.ref f__law_next) = true)
    {f__law_is_integer : Addr} {od__law_is_integer an__law_is_integer : Option Addr} {sl__law_is_integer : Array (Option Value)} {oc__law_is_integer kV__law_is_integer dc__law_is_integer pm__law_is_integer cd__law_is_integer ct__law_is_integer : Value} (a__law_is_integer : PySem.W.nsIn K mainGlobals "_law_is_integer" = some (some (.ref f__law_is_integer))) (l__law_is_integer : K.lookup f__law_is_integer = some ⟨oc__law_is_integer, od__law_is_integer, .func (PySem.W.fnOf "_law_is_integer" "_law_is_integer" (defArgs s__law_is_integer) (defBody s__law_is_integer) (defScope s__law_is_integer) .none kV__law_is_integer dc__law_is_integer pm__law_is_integer an__law_is_integer cd__law_is_integer ct__law_is_integer), sl__law_is_integer⟩) (c__law_is_integer : PySem.W.codeIn K cd__law_is_integer "_law_is_integer" = true) (k__law_is_integer : PySem.W.keepIn K (.ref f__law_is_integer) = true)
    {f__law_equal : Addr} {od__law_equal an__law_equal : Option Addr} {sl__law_equal : Array (Option Value)} {oc__law_equal kV__law_equal dc__law_equal pm__law_equal cd__law_equal ct__law_equal : Value} (a__law_equal : PySem.W.nsIn K mainGlobals "_law_equal" = some (some (.ref f__law_equal))) (l__law_equal : K.lookup f__law_equal = some ⟨oc__law_equal, od__law_equal, .func (PySem.W.fnOf "_law_equal" "_law_equal" (defArgs s__law_equal) (defBody s__law_equal) (defScope s__law_equal) .none kV__law_equal dc__law_equal pm__law_equal an__law_equal cd__law_equal ct__law_equal), sl__law_equal⟩) (c__law_equal : PySem.W.codeIn K cd__law_equal "_law_equal" = true) (k__law_equal : PySem.W.keepIn K (.ref f__law_equal) = true)
    {f__law_arities : Addr} {od__law_arities an__law_arities : Option Addr} {sl__law_arities : Array (Option Value)} {oc__law_arities kV__law_arities dc__law_arities pm__law_arities cd__law_arities ct__law_arities : Value} (a__law_arities : PySem.W.nsIn K mainGlobals "_law_arities" = some (some (.ref f__law_arities))) (l__law_arities : K.lookup f__law_arities = some ⟨oc__law_arities, od__law_arities, .func (PySem.W.fnOf "_law_arities" "_law_arities" (defArgs s__law_arities) (defBody s__law_arities) (defScope s__law_arities) .none kV__law_arities dc__law_arities pm__law_arities an__law_arities cd__law_arities ct__law_arities), sl__law_arities⟩) (c__law_arities : PySem.W.codeIn K cd__law_arities "_law_arities" = true) (k__law_arities : PySem.W.keepIn K (.ref f__law_arities) = true)
    {f__law_table : Addr} {od__law_table an__law_table : Option Addr} {sl__law_table : Array (Option Value)} {oc__law_table kV__law_table dc__law_table pm__law_table cd__law_table ct__law_table : Value} (a__law_table : PySem.W.nsIn K mainGlobals "_law_table" = some (some (.ref f__law_table))) (l__law_table : K.lookup f__law_table = some ⟨oc__law_table, od__law_table, .func (PySem.W.fnOf "_law_table" "_law_table" (defArgs s__law_table) (defBody s__law_table) (defScope s__law_table) .none kV__law_table dc__law_table pm__law_table an__law_table cd__law_table ct__law_table), sl__law_table⟩) (c__law_table : PySem.W.codeIn K cd__law_table "_law_table" = true) (k__law_table : PySem.W.keepIn K (.ref f__law_table) = true)
    {f__law_tree : Addr} {od__law_tree an__law_tree : Option Addr} {sl__law_tree : Array (Option Value)} {oc__law_tree kV__law_tree dc__law_tree pm__law_tree cd__law_tree ct__law_tree : Value} (a__law_tree : PySem.W.nsIn K mainGlobals "_law_tree" = some (some (.ref f__law_tree))) (l__law_tree : K.lookup f__law_tree = some ⟨oc__law_tree, od__law_tree, .func (PySem.W.fnOf "_law_tree" "_law_tree" (defArgs s__law_tree) (defBody s__law_tree) (defScope s__law_tree) .none kV__law_tree dc__law_tree pm__law_tree an__law_tree cd__law_tree ct__law_tree), sl__law_tree⟩) (c__law_tree : PySem.W.codeIn K cd__law_tree "_law_tree" = true) (k__law_tree : PySem.W.keepIn K (.ref f__law_tree) = true)
    {f__law_nodes : Addr} {od__law_nodes an__law_nodes : Option Addr} {sl__law_nodes : Array (Option Value)} {oc__law_nodes kV__law_nodes dc__law_nodes pm__law_nodes cd__law_nodes ct__law_nodes : Value} (a__law_nodes : PySem.W.nsIn K mainGlobals "_law_nodes" = some (some (.ref f__law_nodes))) (l__law_nodes : K.lookup f__law_nodes = some ⟨oc__law_nodes, od__law_nodes, .func (PySem.W.fnOf "_law_nodes" "_law_nodes" (defArgs s__law_nodes) (defBody s__law_nodes) (defScope s__law_nodes) .none kV__law_nodes dc__law_nodes pm__law_nodes an__law_nodes cd__law_nodes ct__law_nodes), sl__law_nodes⟩) (c__law_nodes : PySem.W.codeIn K cd__law_nodes "_law_nodes" = true) (k__law_nodes : PySem.W.keepIn K (.ref f__law_nodes) = true)
    {f__law_places : Addr} {od__law_places an__law_places : Option Addr} {sl__law_places : Array (Option Value)} {oc__law_places kV__law_places dc__law_places pm__law_places cd__law_places ct__law_places : Value} (a__law_places : PySem.W.nsIn K mainGlobals "_law_places" = some (some (.ref f__law_places))) (l__law_places : K.lookup f__law_places = some ⟨oc__law_places, od__law_places, .func (PySem.W.fnOf "_law_places" "_law_places" (defArgs s__law_places) (defBody s__law_places) (defScope s__law_places) .none kV__law_places dc__law_places pm__law_places an__law_places cd__law_places ct__law_places), sl__law_places⟩) (c__law_places : PySem.W.codeIn K cd__law_places "_law_places" = true) (k__law_places : PySem.W.keepIn K (.ref f__law_places) = true)
    {f__law_part : Addr} {od__law_part an__law_part : Option Addr} {sl__law_part : Array (Option Value)} {oc__law_part kV__law_part dc__law_part pm__law_part cd__law_part ct__law_part : Value} (a__law_part : PySem.W.nsIn K mainGlobals "_law_part" = some (some (.ref f__law_part))) (l__law_part : K.lookup f__law_part = some ⟨oc__law_part, od__law_part, .func (PySem.W.fnOf "_law_part" "_law_part" (defArgs s__law_part) (defBody s__law_part) (defScope s__law_part) .none kV__law_part dc__law_part pm__law_part an__law_part cd__law_part ct__law_part), sl__law_part⟩) (c__law_part : PySem.W.codeIn K cd__law_part "_law_part" = true) (k__law_part : PySem.W.keepIn K (.ref f__law_part) = true)
    {f__law_put : Addr} {od__law_put an__law_put : Option Addr} {sl__law_put : Array (Option Value)} {oc__law_put kV__law_put dc__law_put pm__law_put cd__law_put ct__law_put : Value} (a__law_put : PySem.W.nsIn K mainGlobals "_law_put" = some (some (.ref f__law_put))) (l__law_put : K.lookup f__law_put = some ⟨oc__law_put, od__law_put, .func (PySem.W.fnOf "_law_put" "_law_put" (defArgs s__law_put) (defBody s__law_put) (defScope s__law_put) .none kV__law_put dc__law_put pm__law_put an__law_put cd__law_put ct__law_put), sl__law_put⟩) (c__law_put : PySem.W.codeIn K cd__law_put "_law_put" = true) (k__law_put : PySem.W.keepIn K (.ref f__law_put) = true)
    {f__law_is_alike : Addr} {od__law_is_alike an__law_is_alike : Option Addr} {sl__law_is_alike : Array (Option Value)} {oc__law_is_alike kV__law_is_alike dc__law_is_alike pm__law_is_alike cd__law_is_alike ct__law_is_alike : Value} (a__law_is_alike : PySem.W.nsIn K mainGlobals "_law_is_alike" = some (some (.ref f__law_is_alike))) (l__law_is_alike : K.lookup f__law_is_alike = some ⟨oc__law_is_alike, od__law_is_alike, .func (PySem.W.fnOf "_law_is_alike" "_law_is_alike" (defArgs s__law_is_alike) (defBody s__law_is_alike) (defScope s__law_is_alike) .none kV__law_is_alike dc__law_is_alike pm__law_is_alike an__law_is_alike cd__law_is_alike ct__law_is_alike), sl__law_is_alike⟩) (c__law_is_alike : PySem.W.codeIn K cd__law_is_alike "_law_is_alike" = true) (k__law_is_alike : PySem.W.keepIn K (.ref f__law_is_alike) = true)
    {f_law : Addr} {od_law an_law : Option Addr} {sl_law : Array (Option Value)} {oc_law kV_law dc_law pm_law cd_law ct_law : Value} (a_law : PySem.W.nsIn K mainGlobals "law" = some (some (.ref f_law))) (l_law : K.lookup f_law = some ⟨oc_law, od_law, .func (PySem.W.fnOf "law" "law" (defArgs s_law) (defBody s_law) (defScope s_law) .none kV_law dc_law pm_law an_law cd_law ct_law), sl_law⟩) (c_law : PySem.W.codeIn K cd_law "law" = true) (k_law : PySem.W.keepIn K (.ref f_law) = true)
    (z_isinstance : PySem.W.nsIn K mainGlobals "isinstance" = some none)
    (z_int : PySem.W.nsIn K mainGlobals "int" = some none)
    (z_bool : PySem.W.nsIn K mainGlobals "bool" = some none)
    (z_tuple : PySem.W.nsIn K mainGlobals "tuple" = some none)
    (z_len : PySem.W.nsIn K mainGlobals "len" = some none)
    (z_all : PySem.W.nsIn K mainGlobals "all" = some none)
    (z_zip : PySem.W.nsIn K mainGlobals "zip" = some none)
    (z_enumerate : PySem.W.nsIn K mainGlobals "enumerate" = some none)
    (z_list : PySem.W.nsIn K mainGlobals "list" = some none)
    (z_abs : PySem.W.nsIn K mainGlobals "abs" = some none)
    (z_str : PySem.W.nsIn K mainGlobals "str" = some none)
    (z_range : PySem.W.nsIn K mainGlobals "range" = some none)
    (z_sum : PySem.W.nsIn K mainGlobals "sum" = some none)
    {t_MOST_SYMBOLS : Tok} (q_MOST_SYMBOLS : PySem.W.nsIn K mainGlobals "MOST_SYMBOLS" = some (some (.int 4 t_MOST_SYMBOLS)))
    {t_MOST_CHILDREN : Tok} (q_MOST_CHILDREN : PySem.W.nsIn K mainGlobals "MOST_CHILDREN" = some (some (.int 2 t_MOST_CHILDREN)))
    {t_MOST_NODES : Tok} (q_MOST_NODES : PySem.W.nsIn K mainGlobals "MOST_NODES" = some (some (.int 15 t_MOST_NODES)))
    {t_MOST_STATES : Tok} (q_MOST_STATES : PySem.W.nsIn K mainGlobals "MOST_STATES" = some (some (.int 4 t_MOST_STATES))) :
    ∃ fd : FuncData, (∀ (s : Shared) (v : Value), BindsTo s fd ⟨[v], []⟩ [("script", v)]) ∧ ∀ base : Heap, K.In base → base.Ns mainGlobals mg → FnOk l.prog w K mg base CX0 LV fa fd ["script"] (spLaw K) := by
  have e0 : fa = f_law := by
    have e := hfa.symm.trans (PySem.W.mg_of X hG a_law)
    cases e
    rfl
  have T : { T : Facts K mg // T.a_law = f_law ∧ T.fd_law = PySem.W.fnOf "law" "law" (defArgs s_law) (defBody s_law) (defScope s_law) .none kV_law dc_law pm_law an_law cd_law ct_law } := ⟨{
    a_require := f_require
    fd_require := _
    F_require := fun_mk (st := s_require) l_require c_require k_require
    g_require := PySem.W.mg_of X hG a_require
    b_require := (fun_mk (st := s_require) l_require c_require k_require).binds (ps := ["holds", "name"]) fun _ _ _ _ _ _ us hl => match us, hl with | [_, _], _ => rfl
    a_is_integer := f_is_integer
    fd_is_integer := _
    F_is_integer := fun_mk (st := s_is_integer) l_is_integer c_is_integer k_is_integer
    g_is_integer := PySem.W.mg_of X hG a_is_integer
    b_is_integer := (fun_mk (st := s_is_integer) l_is_integer c_is_integer k_is_integer).binds (ps := ["value", "least", "most"]) fun _ _ _ _ _ _ us hl => match us, hl with | [_, _, _], _ => rfl
    a_is_tuple := f_is_tuple
    fd_is_tuple := _
    F_is_tuple := fun_mk (st := s_is_tuple) l_is_tuple c_is_tuple k_is_tuple
    g_is_tuple := PySem.W.mg_of X hG a_is_tuple
    b_is_tuple := (fun_mk (st := s_is_tuple) l_is_tuple c_is_tuple k_is_tuple).binds (ps := ["value", "least", "most"]) fun _ _ _ _ _ _ us hl => match us, hl with | [_, _, _], _ => rfl
    a_are_integers := f_are_integers
    fd_are_integers := _
    F_are_integers := fun_mk (st := s_are_integers) l_are_integers c_are_integers k_are_integers
    g_are_integers := PySem.W.mg_of X hG a_are_integers
    b_are_integers := (fun_mk (st := s_are_integers) l_are_integers c_are_integers k_are_integers).binds (ps := ["values", "least", "most"]) fun _ _ _ _ _ _ us hl => match us, hl with | [_, _, _], _ => rfl
    a_is_arities := f_is_arities
    fd_is_arities := _
    F_is_arities := fun_mk (st := s_is_arities) l_is_arities c_is_arities k_is_arities
    g_is_arities := PySem.W.mg_of X hG a_is_arities
    b_is_arities := (fun_mk (st := s_is_arities) l_is_arities c_is_arities k_is_arities).binds (ps := ["value"]) fun _ _ _ _ _ _ us hl => match us, hl with | [_], _ => rfl
    a_is_tree := f_is_tree
    fd_is_tree := _
    F_is_tree := fun_mk (st := s_is_tree) l_is_tree c_is_tree k_is_tree
    g_is_tree := PySem.W.mg_of X hG a_is_tree
    b_is_tree := (fun_mk (st := s_is_tree) l_is_tree c_is_tree k_is_tree).binds (ps := ["arities", "value"]) fun _ _ _ _ _ _ us hl => match us, hl with | [_, _], _ => rfl
    a__is_node := f__is_node
    fd__is_node := _
    F__is_node := fun_mk (st := s__is_node) l__is_node c__is_node k__is_node
    g__is_node := PySem.W.mg_of X hG a__is_node
    b__is_node := (fun_mk (st := s__is_node) l__is_node c__is_node k__is_node).binds (ps := ["arities", "value"]) fun _ _ _ _ _ _ us hl => match us, hl with | [_, _], _ => rfl
    a_is_table := f_is_table
    fd_is_table := _
    F_is_table := fun_mk (st := s_is_table) l_is_table c_is_table k_is_table
    g_is_table := PySem.W.mg_of X hG a_is_table
    b_is_table := (fun_mk (st := s_is_table) l_is_table c_is_table k_is_table).binds (ps := ["arities", "value"]) fun _ _ _ _ _ _ us hl => match us, hl with | [_, _], _ => rfl
    a__is_row := f__is_row
    fd__is_row := _
    F__is_row := fun_mk (st := s__is_row) l__is_row c__is_row k__is_row
    g__is_row := PySem.W.mg_of X hG a__is_row
    b__is_row := (fun_mk (st := s__is_row) l__is_row c__is_row k__is_row).binds (ps := ["arities", "value", "many"]) fun _ _ _ _ _ _ us hl => match us, hl with | [_, _, _], _ => rfl
    a__is_entry := f__is_entry
    fd__is_entry := _
    F__is_entry := fun_mk (st := s__is_entry) l__is_entry c__is_entry k__is_entry
    g__is_entry := PySem.W.mg_of X hG a__is_entry
    b__is_entry := (fun_mk (st := s__is_entry) l__is_entry c__is_entry k__is_entry).binds (ps := ["value", "arity", "many"]) fun _ _ _ _ _ _ us hl => match us, hl with | [_, _, _], _ => rfl
    a__require_table_and_tree := f__require_table_and_tree
    fd__require_table_and_tree := _
    F__require_table_and_tree := fun_mk (st := s__require_table_and_tree) l__require_table_and_tree c__require_table_and_tree k__require_table_and_tree
    g__require_table_and_tree := PySem.W.mg_of X hG a__require_table_and_tree
    b__require_table_and_tree := (fun_mk (st := s__require_table_and_tree) l__require_table_and_tree c__require_table_and_tree k__require_table_and_tree).binds (ps := ["arities", "table", "tree"]) fun _ _ _ _ _ _ us hl => match us, hl with | [_, _, _], _ => rfl
    a_run := f_run
    fd_run := _
    F_run := fun_mk (st := s_run) l_run c_run k_run
    g_run := PySem.W.mg_of X hG a_run
    b_run := (fun_mk (st := s_run) l_run c_run k_run).binds (ps := ["arities", "table", "tree"]) fun _ _ _ _ _ _ us hl => match us, hl with | [_, _, _], _ => rfl
    a__visits := f__visits
    fd__visits := _
    F__visits := fun_mk (st := s__visits) l__visits c__visits k__visits
    g__visits := PySem.W.mg_of X hG a__visits
    b__visits := (fun_mk (st := s__visits) l__visits c__visits k__visits).binds (ps := ["rows", "tree", "state", "place"]) fun _ _ _ _ _ _ us hl => match us, hl with | [_, _, _, _], _ => rfl
    a__law_stream := f__law_stream
    fd__law_stream := _
    F__law_stream := fun_mk (st := s__law_stream) l__law_stream c__law_stream k__law_stream
    g__law_stream := PySem.W.mg_of X hG a__law_stream
    b__law_stream := (fun_mk (st := s__law_stream) l__law_stream c__law_stream k__law_stream).binds (ps := ["script"]) fun _ _ _ _ _ _ us hl => match us, hl with | [_], _ => rfl
    a__law_next := f__law_next
    fd__law_next := _
    F__law_next := fun_mk (st := s__law_next) l__law_next c__law_next k__law_next
    g__law_next := PySem.W.mg_of X hG a__law_next
    b__law_next := (fun_mk (st := s__law_next) l__law_next c__law_next k__law_next).binds (ps := ["stream", "many"]) fun _ _ _ _ _ _ us hl => match us, hl with | [_, _], _ => rfl
    a__law_is_integer := f__law_is_integer
    fd__law_is_integer := _
    F__law_is_integer := fun_mk (st := s__law_is_integer) l__law_is_integer c__law_is_integer k__law_is_integer
    g__law_is_integer := PySem.W.mg_of X hG a__law_is_integer
    b__law_is_integer := (fun_mk (st := s__law_is_integer) l__law_is_integer c__law_is_integer k__law_is_integer).binds (ps := ["actual"]) fun _ _ _ _ _ _ us hl => match us, hl with | [_], _ => rfl
    a__law_equal := f__law_equal
    fd__law_equal := _
    F__law_equal := fun_mk (st := s__law_equal) l__law_equal c__law_equal k__law_equal
    g__law_equal := PySem.W.mg_of X hG a__law_equal
    b__law_equal := (fun_mk (st := s__law_equal) l__law_equal c__law_equal k__law_equal).binds (ps := ["actual", "due"]) fun _ _ _ _ _ _ us hl => match us, hl with | [_, _], _ => rfl
    a__law_arities := f__law_arities
    fd__law_arities := _
    F__law_arities := fun_mk (st := s__law_arities) l__law_arities c__law_arities k__law_arities
    g__law_arities := PySem.W.mg_of X hG a__law_arities
    b__law_arities := (fun_mk (st := s__law_arities) l__law_arities c__law_arities k__law_arities).binds (ps := ["stream"]) fun _ _ _ _ _ _ us hl => match us, hl with | [_], _ => rfl
    a__law_table := f__law_table
    fd__law_table := _
    F__law_table := fun_mk (st := s__law_table) l__law_table c__law_table k__law_table
    g__law_table := PySem.W.mg_of X hG a__law_table
    b__law_table := (fun_mk (st := s__law_table) l__law_table c__law_table k__law_table).binds (ps := ["stream", "arities", "most"]) fun _ _ _ _ _ _ us hl => match us, hl with | [_, _, _], _ => rfl
    a__law_tree := f__law_tree
    fd__law_tree := _
    F__law_tree := fun_mk (st := s__law_tree) l__law_tree c__law_tree k__law_tree
    g__law_tree := PySem.W.mg_of X hG a__law_tree
    b__law_tree := (fun_mk (st := s__law_tree) l__law_tree c__law_tree k__law_tree).binds (ps := ["stream", "arities", "most"]) fun _ _ _ _ _ _ us hl => match us, hl with | [_, _, _], _ => rfl
    a__law_nodes := f__law_nodes
    fd__law_nodes := _
    F__law_nodes := fun_mk (st := s__law_nodes) l__law_nodes c__law_nodes k__law_nodes
    g__law_nodes := PySem.W.mg_of X hG a__law_nodes
    b__law_nodes := (fun_mk (st := s__law_nodes) l__law_nodes c__law_nodes k__law_nodes).binds (ps := ["tree"]) fun _ _ _ _ _ _ us hl => match us, hl with | [_], _ => rfl
    a__law_places := f__law_places
    fd__law_places := _
    F__law_places := fun_mk (st := s__law_places) l__law_places c__law_places k__law_places
    g__law_places := PySem.W.mg_of X hG a__law_places
    b__law_places := (fun_mk (st := s__law_places) l__law_places c__law_places k__law_places).binds (ps := ["tree"]) fun _ _ _ _ _ _ us hl => match us, hl with | [_], _ => rfl
    a__law_part := f__law_part
    fd__law_part := _
    F__law_part := fun_mk (st := s__law_part) l__law_part c__law_part k__law_part
    g__law_part := PySem.W.mg_of X hG a__law_part
    b__law_part := (fun_mk (st := s__law_part) l__law_part c__law_part k__law_part).binds (ps := ["tree", "place"]) fun _ _ _ _ _ _ us hl => match us, hl with | [_, _], _ => rfl
    a__law_put := f__law_put
    fd__law_put := _
    F__law_put := fun_mk (st := s__law_put) l__law_put c__law_put k__law_put
    g__law_put := PySem.W.mg_of X hG a__law_put
    b__law_put := (fun_mk (st := s__law_put) l__law_put c__law_put k__law_put).binds (ps := ["tree", "place", "part"]) fun _ _ _ _ _ _ us hl => match us, hl with | [_, _, _], _ => rfl
    a__law_is_alike := f__law_is_alike
    fd__law_is_alike := _
    F__law_is_alike := fun_mk (st := s__law_is_alike) l__law_is_alike c__law_is_alike k__law_is_alike
    g__law_is_alike := PySem.W.mg_of X hG a__law_is_alike
    b__law_is_alike := (fun_mk (st := s__law_is_alike) l__law_is_alike c__law_is_alike k__law_is_alike).binds (ps := ["first", "second", "place"]) fun _ _ _ _ _ _ us hl => match us, hl with | [_, _, _], _ => rfl
    a_law := f_law
    fd_law := _
    F_law := fun_mk (st := s_law) l_law c_law k_law
    g_law := PySem.W.mg_of X hG a_law
    b_law := (fun_mk (st := s_law) l_law c_law k_law).binds (ps := ["script"]) fun _ _ _ _ _ _ us hl => match us, hl with | [_], _ => rfl
    z_isinstance := PySem.W.mg_none_of X hG z_isinstance
    z_int := PySem.W.mg_none_of X hG z_int
    z_bool := PySem.W.mg_none_of X hG z_bool
    z_tuple := PySem.W.mg_none_of X hG z_tuple
    z_len := PySem.W.mg_none_of X hG z_len
    z_all := PySem.W.mg_none_of X hG z_all
    z_zip := PySem.W.mg_none_of X hG z_zip
    z_enumerate := PySem.W.mg_none_of X hG z_enumerate
    z_list := PySem.W.mg_none_of X hG z_list
    z_abs := PySem.W.mg_none_of X hG z_abs
    z_str := PySem.W.mg_none_of X hG z_str
    z_range := PySem.W.mg_none_of X hG z_range
    z_sum := PySem.W.mg_none_of X hG z_sum
    t_MOST_SYMBOLS := t_MOST_SYMBOLS
    c_MOST_SYMBOLS := PySem.W.mg_of X hG q_MOST_SYMBOLS
    t_MOST_CHILDREN := t_MOST_CHILDREN
    c_MOST_CHILDREN := PySem.W.mg_of X hG q_MOST_CHILDREN
    t_MOST_NODES := t_MOST_NODES
    c_MOST_NODES := PySem.W.mg_of X hG q_MOST_NODES
    t_MOST_STATES := t_MOST_STATES
    c_MOST_STATES := PySem.W.mg_of X hG q_MOST_STATES }, rfl, rfl⟩
  obtain ⟨T, e1, e2⟩ := T
  refine ⟨PySem.W.fnOf "law" "law" (defArgs s_law) (defBody s_law) (defScope s_law) .none kV_law dc_law pm_law an_law cd_law ct_law, fun s v => .of_eq rfl, fun base _ _ => ?_⟩
  have hh := (all_ok (P := l.prog) (w := w) (base := base) T LV).h_law
  rw [e1, e2] at hh
  rw [e0]
  exact hh.imp fun vs H Q E q => law_sp LV hm vs H Q E q
end G
open PySem PySem.W PyProof.Rows
set_option maxHeartbeats 0 in
theorem PySem.Challenge.cw_rootfirst_k34_exchanges_and_fewer_entrie_holds : PySem.Challenge.rw_rootfirst_k34_exchanges_and_fewer_entrie.Holds := by
  w_on; o_law; k_head; (case hw => w_witness2)
  k_fill
  refine L2.walk_of (l := PySem.Challenge.rw_rootfirst_k34_exchanges_and_fewer_entrie) (n := 63) (k := G.LV) (x := "script") (CX := fun _ => L2.CX0) (sp := fun w => G.spLaw _) rfl (by decide) rfl ⟨rfl, by decide, by decide⟩ (fun w h Y => PySem.W.kIn_of Y) ?F (fun _ _ a ns hl _ hS => ⟨a, ns, rfl, hS, hl, fun _ => rfl⟩) (fun _ _ _ _ _ h => h)
  case F =>
    intro w mg fa h KX GG hmg
    refine' G.all_mk G.LV G.law_true KX GG hmg ?a_require ?l_require ?c_require ?k_require ?a_is_integer ?l_is_integer ?c_is_integer ?k_is_integer ?a_is_tuple ?l_is_tuple ?c_is_tuple ?k_is_tuple ?a_are_integers ?l_are_integers ?c_are_integers ?k_are_integers ?a_is_arities ?l_is_arities ?c_is_arities ?k_is_arities ?a_is_tree ?l_is_tree ?c_is_tree ?k_is_tree ?a__is_node ?l__is_node ?c__is_node ?k__is_node ?a_is_table ?l_is_table ?c_is_table ?k_is_table ?a__is_row ?l__is_row ?c__is_row ?k__is_row ?a__is_entry ?l__is_entry ?c__is_entry ?k__is_entry ?a__require_table_and_tree ?l__require_table_and_tree ?c__require_table_and_tree ?k__require_table_and_tree ?a_run ?l_run ?c_run ?k_run ?a__visits ?l__visits ?c__visits ?k__visits ?a__law_stream ?l__law_stream ?c__law_stream ?k__law_stream ?a__law_next ?l__law_next ?c__law_next ?k__law_next ?a__law_is_integer ?l__law_is_integer ?c__law_is_integer ?k__law_is_integer ?a__law_equal ?l__law_equal ?c__law_equal ?k__law_equal ?a__law_arities ?l__law_arities ?c__law_arities ?k__law_arities ?a__law_table ?l__law_table ?c__law_table ?k__law_table ?a__law_tree ?l__law_tree ?c__law_tree ?k__law_tree ?a__law_nodes ?l__law_nodes ?c__law_nodes ?k__law_nodes ?a__law_places ?l__law_places ?c__law_places ?k__law_places ?a__law_part ?l__law_part ?c__law_part ?k__law_part ?a__law_put ?l__law_put ?c__law_put ?k__law_put ?a__law_is_alike ?l__law_is_alike ?c__law_is_alike ?k__law_is_alike ?a_law ?l_law ?c_law ?k_law ?z_isinstance ?z_int ?z_bool ?z_tuple ?z_len ?z_all ?z_zip ?z_enumerate ?z_list ?z_abs ?z_str ?z_range ?z_sum ?q_MOST_SYMBOLS ?q_MOST_CHILDREN ?q_MOST_NODES ?q_MOST_STATES
    (case a_require => k_is); (case l_require => k_is); (case c_require => k_is); (case k_require => k_is); (case a_is_integer => k_is); (case l_is_integer => k_is); (case c_is_integer => k_is); (case k_is_integer => k_is); (case a_is_tuple => k_is); (case l_is_tuple => k_is); (case c_is_tuple => k_is); (case k_is_tuple => k_is); (case a_are_integers => k_is); (case l_are_integers => k_is); (case c_are_integers => k_is); (case k_are_integers => k_is); (case a_is_arities => k_is); (case l_is_arities => k_is); (case c_is_arities => k_is); (case k_is_arities => k_is); (case a_is_tree => k_is); (case l_is_tree => k_is); (case c_is_tree => k_is); (case k_is_tree => k_is); (case a__is_node => k_is); (case l__is_node => k_is); (case c__is_node => k_is); (case k__is_node => k_is); (case a_is_table => k_is); (case l_is_table => k_is); (case c_is_table => k_is); (case k_is_table => k_is); (case a__is_row => k_is); (case l__is_row => k_is); (case c__is_row => k_is); (case k__is_row => k_is); (case a__is_entry => k_is); (case l__is_entry => k_is); (case c__is_entry => k_is); (case k__is_entry => k_is); (case a__require_table_and_tree => k_is); (case l__require_table_and_tree => k_is); (case c__require_table_and_tree => k_is); (case k__require_table_and_tree => k_is); (case a_run => k_is); (case l_run => k_is); (case c_run => k_is); (case k_run => k_is); (case a__visits => k_is); (case l__visits => k_is); (case c__visits => k_is); (case k__visits => k_is); (case a__law_stream => k_is); (case l__law_stream => k_is); (case c__law_stream => k_is); (case k__law_stream => k_is); (case a__law_next => k_is); (case l__law_next => k_is); (case c__law_next => k_is); (case k__law_next => k_is); (case a__law_is_integer => k_is); (case l__law_is_integer => k_is); (case c__law_is_integer => k_is); (case k__law_is_integer => k_is); (case a__law_equal => k_is); (case l__law_equal => k_is); (case c__law_equal => k_is); (case k__law_equal => k_is); (case a__law_arities => k_is); (case l__law_arities => k_is); (case c__law_arities => k_is); (case k__law_arities => k_is); (case a__law_table => k_is); (case l__law_table => k_is); (case c__law_table => k_is); (case k__law_table => k_is); (case a__law_tree => k_is); (case l__law_tree => k_is); (case c__law_tree => k_is); (case k__law_tree => k_is); (case a__law_nodes => k_is); (case l__law_nodes => k_is); (case c__law_nodes => k_is); (case k__law_nodes => k_is); (case a__law_places => k_is); (case l__law_places => k_is); (case c__law_places => k_is); (case k__law_places => k_is); (case a__law_part => k_is); (case l__law_part => k_is); (case c__law_part => k_is); (case k__law_part => k_is); (case a__law_put => k_is); (case l__law_put => k_is); (case c__law_put => k_is); (case k__law_put => k_is); (case a__law_is_alike => k_is); (case l__law_is_alike => k_is); (case c__law_is_alike => k_is); (case k__law_is_alike => k_is); (case a_law => k_is); (case l_law => k_is); (case c_law => k_is); (case k_law => k_is); (case z_isinstance => k_is); (case z_int => k_is); (case z_bool => k_is); (case z_tuple => k_is); (case z_len => k_is); (case z_all => k_is); (case z_zip => k_is); (case z_enumerate => k_is); (case z_list => k_is); (case z_abs => k_is); (case z_str => k_is); (case z_range => k_is); (case z_sum => k_is); (case q_MOST_SYMBOLS => k_is); (case q_MOST_CHILDREN => k_is); (case q_MOST_NODES => k_is); (case q_MOST_STATES => k_is)
