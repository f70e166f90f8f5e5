import PyProof.Rows.All
import Wide.All
import OpenK.AllK
import Wide.FinOn
import HandS.TupMul
import HandS.ForMost
import HandS.Walk
import HandS.Conv
import HandS.Zip
import HandS.Rev
import HandS.TupAny
import HandS.IsInst
import HandS.Flow
import HandS.SortInts
import HandS.SortRule
import HandS.Lambda
import HandS.EndTab
import HandS.ExcInit
import HandS.ExcField
import HandS.ExcIs
import HandS.Exc
import PyProof.ReprRoads
import KE.DataMinMax
import KE.KSortedM
import KE.GoesMore
import KE.GoesEnum
import KE.KIsAll
import HandS.TupSets
import HandS.Style
import HandS.Small
import HandS.Words
import HandS.Ends
import HandS.Dict
import HandS.EndBits
import KE.KNest
import KE.KNestM
import KE.KTryMore
import PySem.Challenge.RW_throwshelves_k24_bursts_and_losses_told
set_option Elab.async false
set_option linter.all false
set_option maxRecDepth 100000
namespace TH
open PySem PySem.Spec PyProof.Rows L2
theorem tuple_mul1 (l : Addr) (items : Array Value) (n : Nat) (dd : Option Addr) (sl : Array (Option Value)) (u : Tok) :
    Meets (Builtin.«tuple.__mul__» ⟨[.ref l, .int 1 u], []⟩) (fun _ R s => s.heap.get? l = some { cls := .type "tuple", dict := dd, data := .seq items n, slots := sl } ∧ R (.ok (.ret (Value.ref l))) s) :=
  .of_wp fun prog w A R s h => by
    obtain ⟨hp, g, d, tk, os⟩ := s
    obtain ⟨hl, h⟩ := h
    have f1 := AutoSeq1.idx_int
    wp_walk using wpAny_loadPart' hl
    exact ⟨_, rfl, h⟩
theorem op_rep1 {X : Cx} : OpR X (binaryOp .Mult) (fun x y H Q => ∃ l xs, x = .ref l ∧ y = .int 1 ∧ SqT X.K H l xs ∧ Q (.ref l) H) := by
  intro pins s σ H x y v u Q I rx ry h
  obtain ⟨l, xs, rfl, rfl, hT, q⟩ := h
  cases rx
  obtain ⟨t, rfl⟩ := ry
  obtain ⟨its, r, ⟨⟨cls, dd, data, sl⟩, ho, hc, n, hd⟩, hs⟩ := I.tuple hT
  simp only at hc hd
  subst hc hd
  refine wpAny_binaryOp_repeat_ref (T := "tuple") (U := "int") (by decide) ⟨_, ho, rfl⟩ (fun s' => typeIs_int s' 1 t) noFill_tuple_mul F.fills_int_mul F.slot_int_rmul repeat_tuple F.slot_int_index.lookup
    (call_meets F.slot_int_rmul (typeIs_int s 1 t) F.entry_int_rmul (F.args_int_rmul_2 _ _) (int_rmul_tuple 1 t l its.toArray n dd sl)
      ⟨ho, rfl, ⟨_, ho, rfl⟩, call_meets F.slot_tuple_mul ⟨_, ho, rfl⟩ F.entry_tuple_mul (F.args_tuple_mul_2 _ _) (tuple_mul1 l its.toArray n dd sl t) ⟨ho, ?_⟩⟩)
  exact ⟨.ref l, H, I, rfl, q⟩
end TH
/-! Data of a program that makes no objects of its own: values as trees, and what stands for them in a heap. -/
namespace TH
open PySem PySem.Spec PyProof.Rows L2

/-- a value as a tree; fd: the one record that is passed on and changed -/
inductive D where
  | non
  | bl (b : Bool)
  | int (i : Int)
  | str (x : Str)
  | tup (xs : List D)
  | lst (xs : List D)
  | fd

/-- the names that a record's dict may have -/
inductive Nms where
  | a | b | c | d
  deriving DecidableEq
/-- how the record lies: a list, a dict -/
inductive FK0 where
  | lst
  | dic (m : Nms)
  deriving DecidableEq
def Nms.key (m : Nms) (n : Nat) : Str :=
  match n with
  | 0 => "cells"
  | 1 => (match m with | .a => "at" | .b => "next" | .c => "spot" | .d => "next")
  | 2 => (match m with | .a => "left" | .b => "left" | .c => "left" | .d => "rest")
  | _ => (match m with | .a => "count" | .b => "turn" | .c => "drawn" | .d => "turn")
/-- the record behind fd -/
structure Fd where
  dic : FK0
  cells : List Int
  at_ : Int
  left : Int
  count : Int

/-- the record's dict -/
def fldV (m : Nms) (c : Addr) (F : Fd) : List (Key × V) := [(Sum.inr (m.key 0), .ref c), (Sum.inr (m.key 1), .int F.at_), (Sum.inr (m.key 2), .int F.left), (Sum.inr (m.key 3), .int F.count)]
mutual
def D.py : D → PyData
  | .non => .none
  | .bl b => .bool b
  | .int i => .int i
  | .str x => .str x
  | .tup xs => .tuple (D.pys xs)
  | .lst xs => .list (D.pys xs)
  | .fd => .none
def D.pys : List D → List PyData
  | [] => []
  | x :: xs => D.py x :: D.pys xs
end
mutual
/-- no record within -/
def D.pure : D → Bool
  | .tup xs => D.pures xs
  | .lst xs => D.pures xs
  | .fd => false
  | _ => true
def D.pures : List D → Bool
  | [] => true
  | x :: xs => D.pure x && D.pures xs
end
theorem pys_map : ∀ xs : List D, D.pys xs = xs.map D.py
  | [] => rfl
  | x :: xs => by rw [List.map_cons, ← pys_map xs]; rfl
theorem pys_length (xs : List D) : (D.pys xs).length = xs.length := by rw [pys_map, List.length_map]

/-- addresses that may change -/
abbrev Os := Addr → Prop
/-- the heap where nothing is tracked: SqT over it speaks of the written part alone -/
abbrev H00 : Hp := fun _ => none

mutual
inductive Rp (K : PySem.W.Frag) (fa : Addr) (O : Os) (H : Hp) : V → D → Prop
  | non : Rp K fa O H .non .non
  | bl (b : Bool) : Rp K fa O H (.bl b) (.bl b)
  | int (i : Int) : Rp K fa O H (.int i) (.int i)
  | str (x : Str) : Rp K fa O H (.str x) (.str x)
  | tup {a : Addr} {vs : List V} {ds : List D} : H a = some (.tup vs) → ¬ O a → Rps K fa O H vs ds → Rp K fa O H (.ref a) (.tup ds)
  | lst {a : Addr} {vs : List V} {ds : List D} : H a = some (.lst vs) → ¬ O a → Rps K fa O H vs ds → Rp K fa O H (.ref a) (.lst ds)
  | fd : Rp K fa O H (.ref fa) .fd
inductive Rps (K : PySem.W.Frag) (fa : Addr) (O : Os) (H : Hp) : List V → List D → Prop
  | nil : Rps K fa O H [] []
  | cons {v : V} {vs : List V} {d : D} {ds : List D} : Rp K fa O H v d → Rps K fa O H vs ds → Rps K fa O H (v :: vs) (d :: ds)
end

/-- what is no table of code objects: tables grow when a lambda is made -/
class NT (o : HO) : Prop where
  ne : ∀ ps, o ≠ .tbl ps
instance (xs : List V) : NT (.lst xs) := ⟨fun _ z => by cases z⟩
instance (xs : List V) : NT (.tup xs) := ⟨fun _ z => by cases z⟩
instance (xs : List (Str × V)) : NT (.xd xs) := ⟨fun _ z => by cases z⟩
instance (xs : List (Key × V)) : NT (.dK xs) := ⟨fun _ z => by cases z⟩
instance (o : Obj) (u : HO) : NT (.frz o u) := ⟨fun _ z => by cases z⟩
instance (c : Addr) (q : Str) : NT (LamX.CodeO c q) := ⟨LamX.codeO_ne⟩
/-- what was there is there, but for what may change -/
def Go (O : Os) (H H' : Hp) : Prop := ∀ a o [NT o], H a = some o → ¬ O a → H' a = some o
/-- all but the record -/
def Ge (fa : Addr) (H H' : Hp) : Prop := ∀ a o [NT o], H a = some o → a ≠ fa → H' a = some o
theorem Go.refl (O : Os) (H : Hp) : Go O H H := fun _ _ _ h _ => h
theorem Go.trans {O : Os} {H H1 H2 : Hp} (a : Go O H H1) (b : Go O H1 H2) : Go O H H2 := fun c o _ h n => b c o (a c o h n) n
theorem Ge.refl (fa : Addr) (H : Hp) : Ge fa H H := fun _ _ _ h _ => h
theorem Ge.trans {fa : Addr} {H H1 H2 : Hp} (a : Ge fa H H1) (b : Ge fa H1 H2) : Ge fa H H2 := fun c o _ h n => b c o (a c o h n) n
theorem Ge.extN {fa : Addr} {H H' : Hp} (e : LamX.ExtN H H') : Ge fa H H' := fun a o i h _ => e a o h i.ne
/-- nothing is there, but perhaps a table of code objects -/
def NewIn (H : Hp) (p : Addr) : Prop := ∀ o [NT o], H p ≠ some o
theorem NewIn.of {H : Hp} {p : Addr} (h : H p = none) : NewIn H p := fun o _ e => by rw [h] at e; cases e
theorem NewIn.ne {H : Hp} {p a : Addr} {o : HO} [NT o] (n : NewIn H p) (h : H a = some o) : a ≠ p := fun z => n o (z ▸ h)
theorem Ge.newIn {fa p : Addr} {H : Hp} {o : HO} (h : NewIn H p) : Ge fa H (upd H p o) := fun a u _ e _ => by
  rw [upd_ne (h.ne e)]; exact e
theorem Ge.new {fa p : Addr} {H : Hp} {o : HO} (h : H p = none) : Ge fa H (upd H p o) := Ge.newIn (NewIn.of h)
theorem Ge.go {fa : Addr} {O : Os} {H H' : Hp} (g : Ge fa H H') (h : O fa) : Go O H H' := fun a o _ e n => g a o e fun z => n (z ▸ h)
theorem Go.wr {O : Os} {H : Hp} {a : Addr} {o : HO} (h : O a) : Go O H (upd H a o) := fun b u _ e n => by
  have hb : b ≠ a := fun z => n (by rw [z]; exact h)
  rw [upd_ne hb]; exact e
theorem rd_go {O : Os} {H H' : Hp} {a : Addr} {u : HO} [NT u] (g : Go O H H') (n : ¬ O a) (h : Rd H a u) : Rd H' a u := by
  rcases h with h | ⟨o, h⟩
  · exact Or.inl (g a _ h n)
  · exact Or.inr ⟨o, g a _ h n⟩

section
variable {K : PySem.W.Frag} {fa : Addr} {O O' : Os} {H H' : Hp}
mutual
theorem Rp.go (g : Go O H H') : ∀ {v : V} {d : D}, Rp K fa O H v d → Rp K fa O H' v d
  | _, _, .non => .non
  | _, _, .bl b => .bl b
  | _, _, .int i => .int i
  | _, _, .str x => .str x
  | _, _, .tup h n r => .tup (g _ _ h n) n (Rps.go g r)
  | _, _, .lst h n r => .lst (g _ _ h n) n (Rps.go g r)
  | _, _, .fd => .fd
theorem Rps.go (g : Go O H H') : ∀ {vs : List V} {ds : List D}, Rps K fa O H vs ds → Rps K fa O H' vs ds
  | _, _, .nil => .nil
  | _, _, .cons h r => .cons (Rp.go g h) (Rps.go g r)
end
mutual
/-- what was tracked stands, and is tracked -/
theorem Rp.mv (m : ∀ a o [NT o], H a = some o → ¬ O a → H' a = some o ∧ ¬ O' a) : ∀ {v : V} {d : D}, Rp K fa O H v d → Rp K fa O' H' v d
  | _, _, .non => .non
  | _, _, .bl b => .bl b
  | _, _, .int i => .int i
  | _, _, .str x => .str x
  | _, _, .tup h n r => .tup (m _ _ h n).1 (m _ _ h n).2 (Rps.mv m r)
  | _, _, .lst h n r => .lst (m _ _ h n).1 (m _ _ h n).2 (Rps.mv m r)
  | _, _, .fd => .fd
theorem Rps.mv (m : ∀ a o [NT o], H a = some o → ¬ O a → H' a = some o ∧ ¬ O' a) : ∀ {vs : List V} {ds : List D}, Rps K fa O H vs ds → Rps K fa O' H' vs ds
  | _, _, .nil => .nil
  | _, _, .cons h r => .cons (Rp.mv m h) (Rps.mv m r)
end
theorem hp_some {H : Hp} {a : Addr} {u : HO} (h : H a = some u) : H a ≠ none := by rw [h]; simp
mutual
/-- other addresses may change, as long as they are new or could change before -/
theorem Rp.os (k : ∀ a o [NT o], H a = some o → O' a → O a) : ∀ {v : V} {d : D}, Rp K fa O H v d → Rp K fa O' H v d
  | _, _, .non => .non
  | _, _, .bl b => .bl b
  | _, _, .int i => .int i
  | _, _, .str x => .str x
  | _, _, .tup h n r => .tup h (fun z => n (k _ _ h z)) (Rps.os k r)
  | _, _, .lst h n r => .lst h (fun z => n (k _ _ h z)) (Rps.os k r)
  | _, _, .fd => .fd
theorem Rps.os (k : ∀ a o [NT o], H a = some o → O' a → O a) : ∀ {vs : List V} {ds : List D}, Rps K fa O H vs ds → Rps K fa O' H vs ds
  | _, _, .nil => .nil
  | _, _, .cons h r => .cons (Rp.os k h) (Rps.os k r)
end
theorem Rps.length : ∀ {vs : List V} {ds : List D}, Rps K fa O H vs ds → vs.length = ds.length
  | _, _, .nil => rfl
  | _, _, .cons _ r => by simp [Rps.length r]
theorem Rps.append : ∀ {vs ws : List V} {ds es : List D}, Rps K fa O H vs ds → Rps K fa O H ws es → Rps K fa O H (vs ++ ws) (ds ++ es)
  | _, _, _, _, .nil, s => s
  | _, _, _, _, .cons h r, s => .cons h (Rps.append r s)
theorem Rps.get : ∀ {vs : List V} {ds : List D} {i : Nat} {d : D}, Rps K fa O H vs ds → ds[i]? = some d → ∃ v, vs[i]? = some v ∧ Rp K fa O H v d
  | _, _, _, _, .nil, e => by simp at e
  | _, _, 0, _, .cons h _, e => by simp at e; subst e; exact ⟨_, rfl, h⟩
  | _, _, i + 1, d, .cons _ t, e => by
    obtain ⟨v, h1, h2⟩ := Rps.get (i := i) (d := d) t (by simpa using e)
    exact ⟨v, by simpa using h1, h2⟩
theorem Rps.get' : ∀ {vs : List V} {ds : List D} {i : Nat} {v : V}, Rps K fa O H vs ds → vs[i]? = some v → ∃ d, ds[i]? = some d ∧ Rp K fa O H v d
  | _, _, _, _, .nil, e => by simp at e
  | _, _, 0, _, .cons h _, e => by simp at e; subst e; exact ⟨_, rfl, h⟩
  | _, _, i + 1, v, .cons _ t, e => by
    obtain ⟨d, h1, h2⟩ := Rps.get' (i := i) (v := v) t (by simpa using e)
    exact ⟨d, by simpa using h1, h2⟩
theorem Rps.take : ∀ {vs : List V} {ds : List D} (n : Nat), Rps K fa O H vs ds → Rps K fa O H (vs.take n) (ds.take n)
  | _, _, 0, _ => .nil
  | _, _, _ + 1, .nil => .nil
  | _, _, n + 1, .cons h r => .cons h (Rps.take n r)
theorem Rps.drop : ∀ {vs : List V} {ds : List D} (n : Nat), Rps K fa O H vs ds → Rps K fa O H (vs.drop n) (ds.drop n)
  | _, _, 0, r => r
  | _, _, _ + 1, .nil => .nil
  | _, _, n + 1, .cons _ r => Rps.drop n r
theorem Rps.set {v : V} {d : D} (h : Rp K fa O H v d) : ∀ {vs : List V} {ds : List D} (n : Nat), Rps K fa O H vs ds → Rps K fa O H (vs.set n v) (ds.set n d)
  | _, _, _, .nil => .nil
  | _, _, 0, .cons _ r => .cons h r
  | _, _, n + 1, .cons q r => .cons q (Rps.set h n r)
theorem Rps.ints : ∀ {vs : List V} {ns : List Int}, Rps K fa O H vs (ns.map D.int) → vs = ns.map V.int
  | _, [], .nil => rfl
  | _, _ :: _, .cons h r => by cases h; rw [Rps.ints r]; rfl
theorem Rps.of_ints : ∀ ns : List Int, Rps K fa O H (ns.map V.int) (ns.map D.int)
  | [] => .nil
  | n :: ns => .cons (.int n) (Rps.of_ints ns)
theorem sqT_00 {a : Addr} {vs : List V} (h : SqT K H00 a vs) (H : Hp) : SqT K H a vs := by
  rcases h with h | h
  · rcases h with h | ⟨o, h⟩ <;> cases h
  · exact Or.inr h
mutual
theorem Rp.dp : ∀ {v : V} {d : D}, Rp K fa O H v d → D.pure d = true → Dp K H v d.py
  | _, _, .non, _ => .non
  | _, _, .bl b, _ => .bl b
  | _, _, .int i, _ => .int i
  | _, _, .str x, _ => .str x
  | _, _, .tup h n r, z => .tup (.inl (.inl h)) (Rps.dps r z)
  | _, _, .lst h n r, z => .lst (.inl (.inl h)) (Rps.dps r z)
  | _, _, .fd, z => by cases z
theorem Rps.dps : ∀ {vs : List V} {ds : List D}, Rps K fa O H vs ds → D.pures ds = true → DpAll K H vs (D.pys ds)
  | _, _, .nil, _ => .nil
  | _, _, .cons h r, z => by
    rw [D.pures, Bool.and_eq_true] at z
    exact .cons (Rp.dp h z.1) (Rps.dps r z.2)
end
/-- a tuple, as the rules ask for it -/
theorem Rp.tupH {a : V} {ds : List D} (h : Rp K fa O H a (.tup ds)) : ∃ p vs, a = .ref p ∧ H p = some (.tup vs) ∧ Rps K fa O H vs ds ∧ ¬ O p := by
  cases h with
  | tup h n r => exact ⟨_, _, rfl, h, r, n⟩
theorem Rp.tupI {a : V} {ds : List D} (h : Rp K fa O H a (.tup ds)) : ∃ p vs, a = .ref p ∧ SqT K H p vs ∧ Rps K fa O H vs ds := by
  cases h with
  | tup h n r => exact ⟨_, _, rfl, .inl (.inl h), r⟩
theorem Rp.lstI {a : V} {ds : List D} (h : Rp K fa O H a (.lst ds)) : ∃ p vs, a = .ref p ∧ H p = some (.lst vs) ∧ Rps K fa O H vs ds ∧ ¬ O p := by
  cases h with
  | lst h n r => exact ⟨_, _, rfl, h, r, n⟩
theorem Rp.intI {v : V} {i : Int} (h : Rp K fa O H v (.int i)) : v = .int i := by cases h; rfl
theorem Rp.blI {v : V} {b : Bool} (h : Rp K fa O H v (.bl b)) : v = .bl b := by cases h; rfl
theorem Rp.strI {v : V} {x : Str} (h : Rp K fa O H v (.str x)) : v = .str x := by cases h; rfl
theorem Rp.nonI {v : V} (h : Rp K fa O H v .non) : v = .non := by cases h; rfl

/-- a value that is looked at alone: a datum, or a list that may change -/
def Pk (K : PySem.W.Frag) (fa : Addr) (O : Os) (H : Hp) (v : V) (d : D) : Prop :=
  Rp K fa O H v d ∨ ∃ a vs ds, v = .ref a ∧ d = .lst ds ∧ a ≠ fa ∧ H a = some (.lst vs) ∧ Rps K fa O H vs ds
theorem Pk.ge (h : Pk K fa O H v d) (hf : O fa) (g : Ge fa H H') : Pk K fa O H' v d := by
  rcases h with h | ⟨a, vs, ds, e1, e2, nf, e3, r⟩
  · exact .inl (h.go (g.go hf))
  · exact .inr ⟨a, vs, ds, e1, e2, nf, g a _ e3 nf, r.go (g.go hf)⟩
theorem Pk.lstI {v : V} {ds : List D} (h : Pk K fa O H v (.lst ds)) : ∃ p vs, v = .ref p ∧ H p = some (.lst vs) ∧ Rps K fa O H vs ds := by
  rcases h with h | ⟨a, vs, es, e1, e2, _, e3, r⟩
  · obtain ⟨p, vs, e, s, r, _⟩ := h.lstI
    exact ⟨p, vs, e, s, r⟩
  · cases e2; exact ⟨a, vs, e1, e3, r⟩
theorem Pk.tupI {v : V} {ds : List D} (h : Pk K fa O H v (.tup ds)) : ∃ p vs, v = .ref p ∧ SqT K H p vs ∧ Rps K fa O H vs ds := by
  rcases h with h | ⟨a, vs, es, e1, e2, _⟩
  · exact h.tupI
  · cases e2
theorem Pk.tupR {v : V} {ds : List D} (h : Pk K fa O H v (.tup ds)) : Rp K fa O H v (.tup ds) := by
  rcases h with h | ⟨a, vs, es, e1, e2, _⟩
  · exact h
  · cases e2
theorem Pk.intI {v : V} {i : Int} (h : Pk K fa O H v (.int i)) : v = .int i := by
  rcases h with h | ⟨a, vs, es, e1, e2, _⟩
  · exact h.intI
  · cases e2
theorem Pk.blI {v : V} {i : Bool} (h : Pk K fa O H v (.bl i)) : v = .bl i := by
  rcases h with h | ⟨a, vs, es, e1, e2, _⟩
  · exact h.blI
  · cases e2
theorem Pk.strI {v : V} {i : Str} (h : Pk K fa O H v (.str i)) : v = .str i := by
  rcases h with h | ⟨a, vs, es, e1, e2, _⟩
  · exact h.strI
  · cases e2
theorem Pk.nonI {v : V} (h : Pk K fa O H v .non) : v = .non := by
  rcases h with h | ⟨a, vs, es, e1, e2, _⟩
  · exact h.nonI
  · cases e2
theorem Pk.dp {v : V} {d : D} (h : Pk K fa O H v d) (z : D.pure d = true) : Dp K H v d.py := by
  rcases h with h | ⟨a, vs, ds, e1, e2, _, e3, r⟩
  · exact h.dp z
  · subst e1 e2; exact .lst (.inl (.inl e3)) (r.dps z)
inductive Pks (K : PySem.W.Frag) (fa : Addr) (O : Os) (H : Hp) : List V → List D → Prop
  | nil : Pks K fa O H [] []
  | cons {v : V} {vs : List V} {d : D} {ds : List D} : Pk K fa O H v d → Pks K fa O H vs ds → Pks K fa O H (v :: vs) (d :: ds)
theorem Pks.ge (hf : O fa) (g : Ge fa H H') : ∀ {vs : List V} {ds : List D}, Pks K fa O H vs ds → Pks K fa O H' vs ds
  | _, _, .nil => .nil
  | _, _, .cons h r => .cons (h.ge hf g) (Pks.ge hf g r)
end
end TH
/-! A small language, read off the text, and what it evaluates to. -/
namespace TH
open PySem PySem.Spec PyProof.Rows L2

/-- what a piece of text ends in: a value, an error with its fields, or nothing that is known -/
inductive Ou (α : Type) where
  | ok (a : α) (F : Fd)
  | ex (c : Str) (fs : List (Str × D)) (F : Fd)
  | no
def Ou.bind {α β : Type} (x : Ou α) (f : α → Fd → Ou β) : Ou β :=
  match x with
  | .ok a F => f a F
  | .ex c fs F => .ex c fs F
  | .no => .no
def Ou.of {α : Type} (x : Option α) (F : Fd) : Ou α :=
  match x with
  | some a => .ok a F
  | none => .no
def Fd.fld (F : Fd) (n : Nat) : Option D :=
  match n with
  | 0 => some (.lst (F.cells.map .int))
  | 1 => some (.int F.at_)
  | 2 => some (.int F.left)
  | 3 => some (.int F.count)
  | _ => none
def Fd.put (F : Fd) (n : Nat) (i : Int) : Option Fd :=
  match n with
  | 1 => some { F with at_ := i }
  | 2 => some { F with left := i }
  | 3 => some { F with count := i }
  | _ => none
/-- a slot: unknown, a datum, a list that may change, a dict that may change -/
inductive Sl where
  | no
  | im (d : D)
  | ow (ds : List D)
  | od (kvs : List (Key × D))
abbrev Env' := List Sl

/-! ### operations on data -/
def B64 (i : Int) : Bool := decide (-(2 ^ 64) < i) && decide (i < 2 ^ 64)
def catD {α : Type} (xs ys : List α) : Option (List α) := if xs.length + ys.length ≤ sizeLine then some (xs ++ ys) else none
def repD {α : Type} (xs : List α) (k : Int) : Option (List α) := if -(2 ^ 63) ≤ k ∧ k < 2 ^ 63 ∧ xs.length * k.toNat ≤ sizeLine then some (List.replicate k.toNat xs).flatten else none
def repT (xs : List D) (k : Int) : Option (List D) := if k = 1 then some xs else if xs.isEmpty = false ∧ 2 ≤ k ∧ k ≤ 1000 ∧ xs.length ≤ 1000 then some (List.replicate k.toNat xs).flatten else none
def binD (op : Operator) (a b : D) : Option D :=
  match op, a, b with
  | .Add, .int i, .int j => some (.int (i + j))
  | .Add, .str x, .str y => if x.length + y.length ≤ sizeLine then some (.str (x ++ y)) else none
  | .Add, .tup xs, .tup ys => (catD xs ys).map .tup
  | .Add, .lst xs, .lst ys => (catD xs ys).map .lst
  | .Sub, .int i, .int j => some (.int (i - j))
  | .Mult, .int i, .int j => if B64 i || B64 j then some (.int (i * j)) else none
  | .Mult, .lst xs, .int k => (repD xs k).map .lst
  | .Mult, .tup xs, .int k => (repT xs k).map .tup
  | .FloorDiv, .int i, .int j => if j ≠ 0 ∧ j.natAbs < 1073741824 then some (.int (i.fdiv j)) else none
  | .Mod, .int i, .int j => if j ≠ 0 then some (.int (i.fmod j)) else none
  | .Pow, .int i, .int j => if 0 ≤ j ∧ j ≤ 1000000 ∧ i.natAbs < 2 ^ 64 then some (.int (i ^ j.toNat)) else none
  | _, _, _ => none
def D.isNon : D → Bool
  | .non => true
  | _ => false
def D.isFd : D → Bool
  | .fd => true
  | _ => false
/-- flat data, as values -/
def flV : D → Option V
  | .non => some .non
  | .bl b => some (.bl b)
  | .int i => some (.int i)
  | .str x => some (.str x)
  | _ => none
def flVs : List D → Option (List V)
  | [] => some []
  | d :: ds => match flV d, flVs ds with
    | some v, some vs => some (v :: vs)
    | _, _ => none
def inD (a : D) (ys : List D) : Option Bool :=
  match flV a, flVs ys with
  | some v, some vs => some (inV v vs)
  | _, _ => none
def ixV (y : V) : List V → Option Nat
  | [] => none
  | z :: zs => if eqV z y = true then some 0 else (ixV y zs).map (· + 1)
/-- l.index(a) -/
def ixfD (l a : D) : Option D :=
  match l with
  | .lst ys => match flV a, flVs ys with
    | some v, some vs => (ixV v vs).map fun j => .int (j : Nat)
    | _, _ => none
  | _ => none
def cmpD (op : CmpOp) (a b : D) : Option Bool :=
  match op, a, b with
  | .Lt, .int i, .int j => some (decide (i < j))
  | .LtE, .int i, .int j => some (decide (i ≤ j))
  | .Gt, .int i, .int j => some (decide (j < i))
  | .GtE, .int i, .int j => some (decide (j ≤ i))
  | .Eq, a, b => if a.pure && b.pure && SeqAt.shaped a.py && SeqAt.shaped b.py then some (PyData.eqv a.py b.py) else none
  | .NotEq, a, b => if a.pure && b.pure && SeqAt.shaped a.py && SeqAt.shaped b.py then some (!PyData.eqv a.py b.py) else none
  | .Is, a, .non => some a.isNon
  | .IsNot, a, .non => some (!a.isNon)
  | .In, a, .lst ys => inD a ys
  | .In, a, .tup ys => inD a ys
  | .NotIn, a, .lst ys => (inD a ys).map not
  | .NotIn, a, .tup ys => (inD a ys).map not
  | _, _, _ => none
def truD (a : D) : Option Bool :=
  match a with
  | .non => some false
  | .bl b => some b
  | .int i => some (i != 0)
  | .tup xs => some (!xs.isEmpty)
  | .lst xs => some (!xs.isEmpty)
  | _ => none
def idxD (a i : D) : Option D :=
  match a, i with
  | .tup xs, .int k => atI xs k
  | .lst xs, .int k => atI xs k
  | _, _ => none
def cutD {α : Type} (xs : List α) (lo hi : Option Int) : List α := (xs.drop (HT.sIx xs.length 0 lo)).take (HT.sIx xs.length xs.length hi - HT.sIx xs.length 0 lo)
def sliD (a : D) (lo hi : Option Int) : Option D :=
  match a with
  | .tup xs => some (.tup (cutD xs lo hi))
  | .lst xs => some (.lst (cutD xs lo hi))
  | _ => none
/-- the ints of a list of data -/
def intsD : List D → Option (List Int)
  | [] => some []
  | .int i :: r => (intsD r).map (i :: ·)
  | _ :: _ => none
def lensetD (d : D) : Option D :=
  match d with
  | .lst ys => match intsD ys with
    | some ns => if ns.length ≤ 4000 then some (.int (PyProof.Rows.firstMet (fun i => ns.getD i 0) ns.length).length) else none
    | none => none
  | _ => none
/-- the truth values of a list of data -/
def blsD : List D → Option (List Bool)
  | [] => some []
  | .bl i :: r => (blsD r).map (i :: ·)
  | _ :: _ => none
def insI (i : Int) : List Int → List Int
  | [] => [i]
  | j :: r => if i ≤ j then i :: j :: r else j :: insI i r
def sortI : List Int → List Int
  | [] => []
  | i :: r => insI i (sortI r)
def minI : List Int → Option Int
  | [] => none
  | i :: r => some (r.foldl min i)
def maxI : List Int → Option Int
  | [] => none
  | i :: r => some (r.foldl max i)
/-- the pairs of ints of a list of data -/
def prsD : List D → Option (List (Int × Int))
  | [] => some []
  | .tup [.int i, .int j] :: r => (prsD r).map ((i, j) :: ·)
  | _ :: _ => none
def upPr : List (Int × Int) → Bool
  | [] => true
  | p :: r => r.all (fun q => !SrtO.lexB q p) && upPr r
def sortedD (ys : List D) : Option (List D) :=
  match intsD ys with
  | some ns => some ((sortI ns).map .int)
  | none => match prsD ys with
    | some ps => if upPr ps then some ys else none
    | none => none
instance (a b : Int) : Decidable (RgOk a b) := by unfold RgOk; infer_instance
def rngD (a b : Int) : Option (List D) := if RgOk a b then some ((List.range (b - a).toNat).map fun i => D.int (a + (i : Nat))) else none
def enumD (xs : List D) : List D := (List.range xs.length).zipWith (fun i x => D.tup [.int (i : Nat), x]) xs
def zipD (xs ys : List D) : List D := List.zipWith (fun x y => D.tup [x, y]) xs ys
/-- the built-in functions and classes that are called -/
inductive Bi where
  | len | tuple | list | int | sum | min | max | repr | sorted | all | any | abs
def Bi.name : Bi → Str
  | .len => "len" | .tuple => "tuple" | .list => "list" | .int => "int" | .sum => "sum" | .min => "min" | .max => "max" | .repr => "repr" | .sorted => "sorted" | .all => "all" | .any => "any" | .abs => "abs"
def reprOk (d : D) : Bool := d.pure && d.py.showable && !d.py.hasDict && decide (d.py.depth < 60) && decide (d.py.shown.length ≤ sizeLine)
def biD (f : Bi) (xs : List D) : Option D :=
  match f, xs with
  | .len, [.tup ys] => some (.int ys.length)
  | .len, [.lst ys] => some (.int ys.length)
  | .tuple, [.tup ys] => some (.tup ys)
  | .tuple, [.lst ys] => some (.tup ys)
  | .list, [.tup ys] => some (.lst ys)
  | .list, [.lst ys] => some (.lst ys)
  | .int, [.int i] => some (.int i)
  | .int, [.bl b] => some (.int (if b then 1 else 0))
  | .sum, [.tup ys] => (intsD ys).map fun ns => .int ns.sum
  | .sum, [.lst ys] => (intsD ys).map fun ns => .int ns.sum
  | .min, [.tup ys] => ((intsD ys).bind minI).map .int
  | .min, [.lst ys] => ((intsD ys).bind minI).map .int
  | .max, [.tup ys] => ((intsD ys).bind maxI).map .int
  | .max, [.lst ys] => ((intsD ys).bind maxI).map .int
  | .min, [.int i, .int j] => some (.int (if j < i then j else i))
  | .max, [.int i, .int j] => some (.int (if j > i then j else i))
  | .repr, [.tup ys] => if reprOk (.tup ys) then some (.str (D.tup ys).py.shown) else none
  | .repr, [.lst ys] => if reprOk (.lst ys) then some (.str (D.lst ys).py.shown) else none
  | .sorted, [.lst ys] => (sortedD ys).map .lst
  | .all, [.lst ys] => (blsD ys).map fun bs => .bl (bs.all id)
  | .any, [.lst ys] => (blsD ys).map fun bs => .bl (bs.any id)
  | .abs, [.int i] => some (.int (if i < 0 then -i else i))
  | _, _ => none
/-- built-in classes that are asked for -/
inductive Ty where
  | int | bool | tuple | str
def Ty.name : Ty → Str
  | .int => "int" | .bool => "bool" | .tuple => "tuple" | .str => "str"
def isiD (T : Ty) (a : D) : Option Bool :=
  match T with
  | .int => some (match a with | .int _ => true | .bl _ => true | _ => false)
  | .bool => some (match a with | .bl _ => true | _ => false)
  | .tuple => some (match a with | .tup _ => true | _ => false)
  | .str => some (match a with | .str _ => true | _ => false)

/-- keywords in an order of their own: ord tells, one by one, which parameter they name -/
def codeO (n : Nat) (ord : List Nat) : Nat := 2000 + ord.foldl (fun a d => a * 10 + (d + 1)) n
theorem codeO_no {n : Nat} {ord ns : List Nat} (h : ns.all (fun m => decide (m < 2000)) = true) : codeO n ord ∉ ns := fun z => by
  have := List.all_eq_true.mp h _ z
  rw [decide_eq_true_eq] at this
  unfold codeO at this
  omega
def permO {α : Type} (d : α) (ord : List Nat) (ys : List α) : List α := (List.range ord.length).map fun i => ys.getD (ord.idxOf i) d
def namesO (ord : List Nat) (ps : List Str) : List Str := ord.map fun i => ps.getD i ""
/-! ### the language -/
inductive IE where
  | v (i : Nat)
  | c (d : D)
  | bin (op : Operator) (a b : IE)
  | neg (a : IE)
  | not (a : IE)
  | band (a b : IE)
  | bor (a b : IE)
  | cmp (op : CmpOp) (a b : IE)
  | chn (op op' : CmpOp) (a b c : IE)
  | ife (t a b : IE)
  | tup (es : IE)
  | lst (es : IE)
  | nil
  | cons (a es : IE)
  | absent
  | fget (dic : FK0) (i n : Nat)
  | ix (a i : IE)
  | sl (a lo hi : IE)
  | call (x : Str) (es ks : IE)
  | callp (x : Str) (es ks : IE) (ord : List Nat)
  | bi (f : Bi) (es : IE)
  | isi (T : Ty) (a : IE)
  | rng (es : IE)
  | lstrng (lo hi : IE)
  | enum (a : IE)
  | zip (a b : IE)
  | lenset (a : IE)
  | inG (neg : Bool) (a : IE) (x : Str) (ns : List Nat)
  | mix (i : Nat) (b : IE)
  | heard (x : Str) (b : IE)
  | lc (elt tg it ifs : IE) (own : List Nat)
  | lc2 (elt tg it ifs tg1 it1 ifs1 : IE) (own own1 : List Nat)
  | bad
/-- what the lambda came to, as it is told -/
def told (g : List D → Fd → Ou D) (m : Ou D) : Ou D :=
  match m with
  | .ok d F => (match g [.bl true, d] F with
    | .ok r F' => .ok r F'
    | _ => .no)
  | .ex c fs F => (match g [.bl false, .str c, .tup (fs.map fun p => D.tup [.str p.1, p.2])] F with
    | .ok r F' => .ok r F'
    | _ => .no)
  | .no => .no
/-- is it in a tuple of numbers -/
def inGD (neg : Bool) (ns : List Nat) (d : D) : Option Bool := (flV d).map fun v => if neg = true then !inV v (ns.map fun n => V.int (n : Nat)) else inV v (ns.map fun n => V.int (n : Nat))
/-- the record, looked at alone -/
def pkV (ρ : Env') (a : IE) (m : Ou D) (F : Fd) : Ou D :=
  match a with
  | .v i => match ρ[i]? with
    | some (.ow ds) => .ok (.lst ds) F
    | _ => m
  | _ => m
/-- the slots of a target's names -/
def bindT (tg : IE) (d : D) (ρ : Env') : Option Env' :=
  match tg, d with
  | .v i, d => some (ρ.set i (.im d))
  | .tup (.cons (.v i) (.cons (.v j) .nil)), .tup [x, y] => some ((ρ.set i (.im x)).set j (.im y))
  | .tup (.cons (.v i) (.cons (.v j) (.cons (.v k) .nil))), .tup [x, y, z] => some (((ρ.set i (.im x)).set j (.im y)).set k (.im z))
  | _, _ => none
def wipeE (ρ : Env') : List Nat → Env'
  | [] => ρ
  | v :: vs => (wipeE ρ vs).set v .no
/-- within a comprehension nothing is raised -/
def Ou.bindC {α β : Type} (x : Ou α) (f : α → Fd → Ou β) : Ou β :=
  match x with
  | .ok a F => f a F
  | _ => .no
/-- a comprehension's turns: t the tests, e the element -/
def lcLoop (t : Env' → Fd → Ou Bool) (e : Env' → Fd → Ou D) (b : D → Env' → Option Env') (ρ : Env') : List D → Fd → Ou (List D)
  | [], F => .ok [] F
  | x :: xs, F => match b x ρ with
    | none => .no
    | some ρ' => (t ρ' F).bindC fun k F => if k = true then (e ρ' F).bindC fun y F => (lcLoop t e b ρ xs F).bindC fun ys F => .ok (y :: ys) F else lcLoop t e b ρ xs F
def lcLoop2 (t : Env' → Fd → Ou Bool) (g : Env' → Fd → Ou (List D)) (b : D → Env' → Option Env') (ρ : Env') : List D → Fd → Ou (List D)
  | [], F => .ok [] F
  | x :: xs, F => match b x ρ with
    | none => .no
    | some ρ' => (t ρ' F).bindC fun k F => if k = true then (g ρ' F).bindC fun y F => (lcLoop2 t g b ρ xs F).bindC fun ys F => .ok (y ++ ys) F else lcLoop2 t g b ρ xs F
/-- list displays end within the line -/
def shortD (xs : List D) (F : Fd) : Ou (List D) := if xs.length ≤ sizeLine then .ok xs F else .no
def intP (d : D) : Option Int := match d with | .int i => some i | _ => none

/-- the elements of a datum that is walked -/
def itemsD (d : D) : Option (List D) :=
  match d with
  | .tup xs => some xs
  | .lst xs => some xs
  | _ => none
/-- a thing that is walked by a rule of its own; a test with one of its own -/
def isI : IE → Bool
  | .rng _ => true
  | .enum _ => true
  | .zip _ _ => true
  | _ => false
def isT : IE → Bool
  | .not _ => true
  | .band _ _ => true
  | .bor _ _ => true
  | .cmp _ _ _ => true
  | .chn _ _ _ _ _ => true
  | .inG _ _ _ _ => true
  | .nil => true
  | _ => false
def asT (m : Ou D) : Ou Bool := m.bind fun d F => Ou.of (truD d) F
def asI (m : Ou D) : Ou (List D) := m.bind fun d F => Ou.of (itemsD d) F
def asO (lo : IE) (m : Ou D) (F : Fd) : Ou (Option Int) := match lo with
  | .absent => .ok none F
  | _ => m.bind fun d F => Ou.of ((intP d).map some) F
def zipXY (x y : D) (F : Fd) : Ou (List D) :=
  match x, y with
  | .tup xs, .tup ys => .ok (zipD xs ys) F
  | .lst xs, .lst ys => .ok (zipD xs ys) F
  | .lst xs, .tup ys => .ok (zipD xs ys) F
  | .tup xs, .lst ys => .ok (zipD xs ys) F
  | _, _ => .no
section
variable (cf : Str → List D → Fd → Ou D)
mutual
def evE : IE → Env' → Fd → Ou D
  | .v i, ρ, F => match ρ[i]? with
    | some (.im d) => .ok d F
    | _ => .no
  | .c d, _, F => .ok d F
  | .fget b i n, ρ, F => match ρ[i]? with
    | some (.im .fd) => if b = F.dic then Ou.of (F.fld n) F else .no
    | _ => .no
  | .bin op a b, ρ, F => (pkV ρ a (evE a ρ F) F).bind fun x F => (pkV ρ b (evE b ρ F) F).bind fun y F => Ou.of (binD op x y) F
  | .neg a, ρ, F => (evE a ρ F).bind fun x F => Ou.of ((intP x).map fun i => D.int (-i)) F
  | .not a, ρ, F => (asT (pkV ρ a (evE a ρ F) F)).bind fun k F => .ok (.bl (!k)) F
  | .band a b, ρ, F => (evE a ρ F).bind fun x F => match x with
    | .bl true => evE b ρ F
    | .bl false => .ok (.bl false) F
    | _ => .no
  | .bor a b, ρ, F => (evE a ρ F).bind fun x F => match x with
    | .bl false => evE b ρ F
    | .bl true => .ok (.bl true) F
    | _ => .no
  | .cmp op a b, ρ, F => (pkV ρ a (evE a ρ F) F).bind fun x F => (pkV ρ b (evE b ρ F) F).bind fun y F => Ou.of ((cmpD op x y).map D.bl) F
  | .chn op op' a b c, ρ, F => (evE a ρ F).bind fun x F => (evE b ρ F).bind fun y F => match cmpD op x y with
    | some true => (evE c ρ F).bind fun z F => Ou.of ((cmpD op' y z).map D.bl) F
    | some false => .ok (.bl false) F
    | none => .no
  | .ife t a b, ρ, F => (if isT t then evT t ρ F else asT (pkV ρ t (evE t ρ F) F)).bind fun k F => if k = true then evE a ρ F else evE b ρ F
  | .tup es, ρ, F => (evL false es ρ F).bind fun xs F => (shortD xs F).bind fun xs F => .ok (.tup xs) F
  | .lst es, ρ, F => (evL false es ρ F).bind fun xs F => (shortD xs F).bind fun xs F => .ok (.lst xs) F
  | .ix a i, ρ, F => (pkV ρ a (evE a ρ F) F).bind fun x F => (evE i ρ F).bind fun y F => Ou.of (idxD x y) F
  | .sl a lo hi, ρ, F => (pkV ρ a (evE a ρ F) F).bind fun x F => (asO lo (evE lo ρ F) F).bind fun l F => (asO hi (evE hi ρ F) F).bind fun h F => Ou.of (sliD x l h) F
  | .call x es ks, ρ, F => (evL false es ρ F).bind fun xs F => (evL false ks ρ F).bind fun ys F => cf x (xs ++ ys) F
  | .callp x es ks ord, ρ, F => (evL false es ρ F).bind fun xs F => (evL false ks ρ F).bind fun ys F => cf x (xs ++ permO .non ord ys) F
  | .bi f es, ρ, F => (evL true es ρ F).bind fun xs F => Ou.of (biD f xs) F
  | .isi T a, ρ, F => (pkV ρ a (evE a ρ F) F).bind fun x F => Ou.of ((if x.isFd then none else isiD T x).map D.bl) F
  | .inG neg a _ ns, ρ, F => (pkV ρ a (evE a ρ F) F).bind fun x F => Ou.of ((inGD neg ns x).map D.bl) F
  | .mix i b, ρ, F => match ρ[i]? with
    | some (.ow ds) => (evE b ρ F).bind fun y F => Ou.of (ixfD (.lst ds) y) F
    | some (.im (.lst ds)) => (evE b ρ F).bind fun y F => Ou.of (ixfD (.lst ds) y) F
    | _ => .no
  | .heard x b, ρ, F => told (cf x) (evE b ρ F)
  | .lenset a, ρ, F => (pkV ρ a (evE a ρ F) F).bind fun x F => Ou.of (lensetD x) F
  | .lstrng lo hi, ρ, F => match lo with
    | .absent => (evE hi ρ F).bind fun y F => Ou.of ((intP y).bind fun b => (rngD 0 b).map D.lst) F
    | _ => (evE lo ρ F).bind fun x F => (evE hi ρ F).bind fun y F => Ou.of ((intP x).bind fun a => (intP y).bind fun b => (rngD a b).map D.lst) F
  | .lc elt tg it ifs own, ρ, F => (if isI it then evI it ρ F else asI (evE it ρ F)).bind fun xs F => (shortD xs F).bind fun xs F =>
      (lcLoop (fun ρ F => if isT ifs then evT ifs ρ F else asT (pkV ρ ifs (evE ifs ρ F) F)) (fun ρ F => evE elt ρ F) (bindT tg) (wipeE ρ own) xs F).bind fun ys F => .ok (.lst ys) F
  | .lc2 elt tg it ifs tg1 it1 ifs1 own own1, ρ, F => (if isI it then evI it ρ F else asI (evE it ρ F)).bind fun xs F =>
      (lcLoop2 (fun ρ F => if isT ifs then evT ifs ρ F else asT (pkV ρ ifs (evE ifs ρ F) F))
        (fun ρ F => (if isI it1 then evI it1 ρ F else asI (evE it1 ρ F)).bindC fun zs F => lcLoop (fun ρ F => if isT ifs1 then evT ifs1 ρ F else asT (pkV ρ ifs1 (evE ifs1 ρ F) F)) (fun ρ F => evE elt ρ F) (bindT tg1) (wipeE ρ own1) zs F)
        (bindT tg) (wipeE ρ own) xs F).bind fun ys F => (shortD ys F).bind fun ys F => .ok (.lst ys) F
  | _, _, _ => .no
/-- a test of a form of its own -/
def evT : IE → Env' → Fd → Ou Bool
  | .not a, ρ, F => (if isT a then evT a ρ F else asT (pkV ρ a (evE a ρ F) F)).bind fun k F => .ok (!k) F
  | .band a b, ρ, F => (if isT a then evT a ρ F else asT (pkV ρ a (evE a ρ F) F)).bind fun k F => if k = true then (if isT b then evT b ρ F else asT (pkV ρ b (evE b ρ F) F)) else .ok false F
  | .bor a b, ρ, F => (if isT a then evT a ρ F else asT (pkV ρ a (evE a ρ F) F)).bind fun k F => if k = true then .ok true F else (if isT b then evT b ρ F else asT (pkV ρ b (evE b ρ F) F))
  | .nil, _, F => .ok true F
  | .cmp op a b, ρ, F => (pkV ρ a (evE a ρ F) F).bind fun x F => (pkV ρ b (evE b ρ F) F).bind fun y F => Ou.of (cmpD op x y) F
  | .chn op op' a b c, ρ, F => (evE a ρ F).bind fun x F => (evE b ρ F).bind fun y F => match cmpD op x y with
    | some true => (evE c ρ F).bind fun z F => Ou.of (cmpD op' y z) F
    | some false => .ok false F
    | none => .no
  | .inG neg a _ ns, ρ, F => (pkV ρ a (evE a ρ F) F).bind fun x F => Ou.of (inGD neg ns x) F
  | _, _, _ => .no
/-- a list of expressions -/
def evL : Bool → IE → Env' → Fd → Ou (List D)
  | _, .nil, _, F => .ok [] F
  | p, .cons a es, ρ, F => (if p = true then pkV ρ a (evE a ρ F) F else evE a ρ F).bind fun x F => (evL p es ρ F).bind fun xs F => .ok (x :: xs) F
  | _, _, _, _ => .no
/-- what is walked by a rule of its own -/
def evI : IE → Env' → Fd → Ou (List D)
  | .rng es, ρ, F => (evL false es ρ F).bind fun xs F => match xs with
    | [.int b] => Ou.of (rngD 0 b) F
    | [.int a, .int b] => Ou.of (rngD a b) F
    | _ => .no
  | .enum a, ρ, F => (evE a ρ F).bind fun x F => match x with
    | .tup xs => .ok (enumD xs) F
    | .lst xs => .ok (enumD xs) F
    | _ => .no
  | .zip a b, ρ, F => (evE a ρ F).bind fun x F => (evE b ρ F).bind fun y F => zipXY x y F
  | _, _, _ => .no
end
/-- a test, a thing that is walked, of any form -/
def tsE (a : IE) (ρ : Env') (F : Fd) : Ou Bool := if isT a then evT cf a ρ F else asT (pkV ρ a (evE cf a ρ F) F)
def itE (a : IE) (ρ : Env') (F : Fd) : Ou (List D) := if isI a then evI cf a ρ F else asI (evE cf a ρ F)
end
end TH
/-! What a piece of text means, by itself; the steps. -/
namespace TH
open PySem PySem.Spec PyProof.Rows L2

section
variable {X : Cx} {σ : L2.St} {H : Hp}
/-- from σ and H the expression reaches Q -/
def SmE (X : Cx) (e : Expr) (σ : L2.St) (H : Hp) (Q : VK) : Prop := ∀ (pins : List (Addr × Obj)) (s : Shared), Inv X pins σ H s → wpAny (model X.prog X.w) X.A (eval e X.env) (EP X pins σ Q) X.xe s
def SmT (X : Cx) (e : Expr) (σ : L2.St) (H : Hp) (Q : Bool → Hp → Prop) : Prop := ∀ (pins : List (Addr × Obj)) (s : Shared), Inv X pins σ H s → wpAny (model X.prog X.w) X.A (isTrue e X.env (eval e X.env)) (TP X pins σ Q) X.xe s
/-- .. a test that its value plays no part in -/
def SmW (X : Cx) (e : Expr) (σ : L2.St) (H : Hp) (Q : Bool → Hp → Prop) : Prop := ∀ (wh : Sem Value) (pins : List (Addr × Obj)) (s : Shared), Inv X pins σ H s → wpAny (model X.prog X.w) X.A (isTrue e X.env wh) (TP X pins σ Q) X.xe s
def SmA (X : Cx) (es : List Expr) (σ : L2.St) (H : Hp) (Q : List V → Hp → Prop) : Prop := ∀ (pos : Pos) (pins : List (Addr × Obj)) (s : Shared), Inv X pins σ H s → wpAny (model X.prog X.w) X.A (spliced (backTo pos (starEach es X.env))) (AP X pins σ Q) X.xe s
def SmO (X : Cx) (e : Option Expr) (σ : L2.St) (H : Hp) (Q : Option Int → Hp → Prop) : Prop := ∀ (pins : List (Addr × Obj)) (s : Shared), Inv X pins σ H s →
    wpAny (model X.prog X.w) X.A (evalPart e X.env) (fun u s' => ∃ o H', Inv X pins σ H' s' ∧ IsPart u o ∧ Q o H') X.xe s
/-- what is walked; the record of the walk and the heap -/
def SmI (X : Cx) (tg it : Expr) (σ : L2.St) (H : Hp) (R : It → Hp → Prop) : Prop := ∀ (pins : List (Addr × Obj)) (s : Shared), Inv X pins σ H s →
    wpAny (model X.prog X.w) X.A (eval it X.env) (fun v s1 => wpAny (model X.prog X.w) X.A (pyIter v) (PIE X pins σ tg R) X.xe s1) X.xe s
/-- an operation on two values, a call with values, a method -/
def SmOp (X : Cx) (f : Value → Value → Sem Value) (x y : V) (H : Hp) (Q : VK) : Prop := ∀ (pins : List (Addr × Obj)) (s : Shared) (σ : L2.St) (v u : Value), Inv X pins σ H s → RelV x v → RelV y u → wpAny (model X.prog X.w) X.A (f v u) (EP X pins σ Q) X.xe s
def SmC (X : Cx) (f : Value) (xs : List V) (H : Hp) (Q : VK) : Prop := ∀ (pins : List (Addr × Obj)) (s : Shared) (σ : L2.St) (us : List Value), Inv X pins σ H s → Vals xs us → wpAny (model X.prog X.w) X.A (call f us) (EP X pins σ Q) X.xe s
def SmIx (X : Cx) (x y : V) (H : Hp) (Q : VK) : Prop := ∀ (value slice : Expr) (pins : List (Addr × Obj)) (s : Shared) (σ : L2.St) (v u : Value), Inv X pins σ H s → RelV x v → RelV y u →
    subscripted slice false v u = operate [v, u] (getItem v u) → wpAny (model X.prog X.w) X.A (subscriptTail value slice v u) (EP X pins σ Q) X.xe s
theorem pe_sm {e : Expr} : PE X e (SmE X e) := ⟨fun pins s _ _ _ I h => h pins s I⟩
theorem pt_sm {e : Expr} : PT X e (SmT X e) := ⟨fun pins s _ _ _ I h => h pins s I⟩
theorem pw_sm {e : Expr} : PW X e (SmW X e) := ⟨fun wh pins s _ _ _ I h => h wh pins s I⟩
theorem pa_sm {es : List Expr} : PA X es (SmA X es) := ⟨fun pos pins s _ _ _ I h => h pos pins s I⟩
theorem po_sm {e : Option Expr} : PO X e (SmO X e) := ⟨fun pins s _ _ _ I h => h pins s I⟩
theorem pi_sm {tg it : Expr} : PI X tg it (SmI X tg it) := ⟨fun pins s _ _ _ I h => h pins s I⟩
theorem op_sm {f : Value → Value → Sem Value} : OpR X f (SmOp X f) := fun pins s σ _ _ _ v u _ I rx ry h => h pins s σ v u I rx ry
theorem cr_sm {f : Value} : CallR X f (SmC X f) := fun pins s σ _ _ us _ I r h => h pins s σ us I r
theorem ix_sm : IxR X (SmIx X) := fun value slice pins s σ _ _ _ v u _ I rx ry h hs => h value slice pins s σ v u I rx ry hs
theorem PE.sm {e : Expr} {t : TE} {Q : VK} (h : PE X e t) (q : t σ H Q) : SmE X e σ H Q := fun pins s I => h.run pins s σ H Q I q
theorem PT.sm {e : Expr} {t : TT} {Q : Bool → Hp → Prop} (h : PT X e t) (q : t σ H Q) : SmT X e σ H Q := fun pins s I => h.run pins s σ H Q I q
theorem PW.sm {e : Expr} {t : TT} {Q : Bool → Hp → Prop} (h : PW X e t) (q : t σ H Q) : SmW X e σ H Q := fun wh pins s I => h.run wh pins s σ H Q I q
theorem PA.sm {es : List Expr} {t : TA} {Q : List V → Hp → Prop} (h : PA X es t) (q : t σ H Q) : SmA X es σ H Q := fun pos pins s I => h.run pos pins s σ H Q I q
theorem PO.sm {e : Option Expr} {t : TO} {Q : Option Int → Hp → Prop} (h : PO X e t) (q : t σ H Q) : SmO X e σ H Q := fun pins s I => h.run pins s σ H Q I q
theorem PI.sm {tg it : Expr} {t : TI} {Q : It → Hp → Prop} (h : PI X tg it t) (q : t σ H Q) : SmI X tg it σ H Q := fun pins s I => h.run pins s σ H Q I q
theorem OpR.sm {f : Value → Value → Sem Value} {r : R2} {x y : V} {Q : VK} (h : OpR X f r) (q : r x y H Q) : SmOp X f x y H Q := fun pins s σ v u I rx ry => h pins s σ H x y v u Q I rx ry q
theorem CallR.sm {f : Value} {r : List V → Hp → VK → Prop} {xs : List V} {Q : VK} (h : CallR X f r) (q : r xs H Q) : SmC X f xs H Q := fun pins s σ us I rx => h pins s σ H xs us Q I rx q
theorem IxR.sm {r : R2} {x y : V} {Q : VK} (h : IxR X r) (q : r x y H Q) : SmIx X x y H Q := fun value slice pins s σ v u I rx ry hs => h value slice pins s σ H x y v u Q I rx ry q hs
theorem SmW.t {e : Expr} {Q : Bool → Hp → Prop} (h : SmW X e σ H Q) : SmT X e σ H Q := fun pins s I => h _ pins s I
theorem SmE.mono {e : Expr} {Q Q' : VK} (h : SmE X e σ H Q) (k : ∀ v H', Q v H' → Q' v H') : SmE X e σ H Q' := fun pins s I => thn (h pins s I) fun _ _ ⟨v, H', I', r, q⟩ => ⟨v, H', I', r, k v H' q⟩
theorem SmT.mono {e : Expr} {Q Q' : Bool → Hp → Prop} (h : SmT X e σ H Q) (k : ∀ v H', Q v H' → Q' v H') : SmT X e σ H Q' := fun pins s I => thn (h pins s I) fun _ _ ⟨H', I', q⟩ => ⟨H', I', k _ H' q⟩
end

/-! ### the record and the slots -/
/-- how the record lies, and the tables of code objects of the defs that make lambdas -/
structure FK where
  k : FK0
  T : List (Addr × Str)
section
variable (K : PySem.W.Frag) (fa : Addr) (O : Os)
def FeedR : FK0 → Hp → Fd → Prop
  | .lst, H, F => F.dic = .lst ∧ ∃ c, H fa = some (.lst [.ref c, .int F.at_, .int F.left, .int F.count]) ∧ Rp K fa O H (.ref c) (.lst (F.cells.map D.int))
  | .dic m, H, F => F.dic = .dic m ∧ ∃ c, H fa = some (.dK (fldV m c F)) ∧ Rp K fa O H (.ref c) (.lst (F.cells.map D.int))
def FeedAt (kd : FK) (H : Hp) (F : Fd) : Prop := LamX.Tabs kd.T H ∧ FeedR K fa O kd.k H F
def SlR (H : Hp) (x : Option (Option V)) : Sl → Prop
  | .no => True
  | .im d => ∃ v, x = some (some v) ∧ Rp K fa O H v d
  | .ow ds => ∃ a vs, x = some (some (.ref a)) ∧ a ≠ fa ∧ O a ∧ H a = some (.lst vs) ∧ Rps K fa O H vs ds
  | .od kvs => ∃ a ws, x = some (some (.ref a)) ∧ a ≠ fa ∧ O a ∧ H a = some (.dK ws) ∧ ws.map (·.1) = kvs.map (·.1) ∧ Rps K fa O H (ws.map (·.2)) (kvs.map (·.2))
structure Hd (kd : FK) (H : Hp) (F : Fd) : Prop where
  ofa : O fa
  onn : ∀ a, O a → ∃ o, NT o ∧ H a = some o
  fd : FeedAt K fa O kd H F
structure SR (kd : FK) (H : Hp) (σ : L2.St) (ρ : Env') (F : Fd) : Prop extends Hd K fa O kd H F where
  sl : ∀ (i : Nat) (x : Sl), ρ[i]? = some x → SlR K fa O H σ[i]? x
end
section
variable {K : PySem.W.Frag} {fa : Addr} {O : Os} {kd : FK} {H H' : Hp} {σ : L2.St} {ρ : Env'} {F F' : Fd}
theorem SlR.ge (hf : O fa) (g : Ge fa H H') {x : Option (Option V)} {s : Sl} (h : SlR K fa O H x s) : SlR K fa O H' x s := by
  cases s with
  | no => trivial
  | im d => obtain ⟨v, e, r⟩ := h; exact ⟨v, e, r.go (g.go hf)⟩
  | ow ds => obtain ⟨a, vs, e, nf, o, ha, r⟩ := h; exact ⟨a, vs, e, nf, o, g a _ ha nf, r.go (g.go hf)⟩
  | od kvs => obtain ⟨a, ws, e, nf, o, ha, ek, r⟩ := h; exact ⟨a, ws, e, nf, o, g a _ ha nf, ek, r.go (g.go hf)⟩
theorem FeedAt.nt (h : FeedAt K fa O kd H F) : ∃ o, NT o ∧ H fa = some o := by
  obtain ⟨k, T⟩ := kd
  obtain ⟨_, h⟩ := h
  cases k with
  | lst => obtain ⟨_, c, e, _⟩ := h; exact ⟨_, inferInstance, e⟩
  | dic m => obtain ⟨_, c, e, _⟩ := h; exact ⟨_, inferInstance, e⟩
theorem FeedAt.isSm (h : FeedAt K fa O kd H F) : H fa ≠ none := by
  obtain ⟨o, _, e⟩ := h.nt
  rw [e]; simp
theorem tabs_upd {T : List (Addr × Str)} (t : LamX.Tabs T H) {p : Addr} {o : HO} (h : H p = none) : LamX.Tabs T (upd H p o) := t.ext fun b u e => by
  rw [upd_ne (ne_of_none e h)]; exact e
theorem tabs_wr {T : List (Addr × Str)} (t : LamX.Tabs T H) {p : Addr} {o o' : HO} [i : NT o] (h : H p = some o) (nc : ∀ c q, o ≠ LamX.CodeO c q) : LamX.Tabs T (upd H p o') := fun x hx => by
  obtain ⟨ps, h1, h2, h3⟩ := t x hx
  have ne : x.1 ≠ p := fun z => i.ne ps (Option.some.inj (h.symm.trans (z ▸ h1)))
  refine ⟨ps, by rw [upd_ne ne]; exact h1, h2, fun pos cv hc => ?_⟩
  obtain ⟨c, e1, e2⟩ := h3 pos cv hc
  have nc' : c ≠ p := fun z => nc c x.2 (Option.some.inj (h.symm.trans (z ▸ e2)))
  exact ⟨c, e1, by rw [upd_ne nc']; exact e2⟩
theorem lst_nc (xs : List V) : ∀ c q, HO.lst xs ≠ LamX.CodeO c q := fun c q z => by unfold LamX.CodeO at z; cases z
theorem dK_nc (xs : List (Key × V)) : ∀ c q, HO.dK xs ≠ LamX.CodeO c q := fun c q z => by unfold LamX.CodeO at z; cases z
theorem Hd.ge (S : Hd K fa O kd H F) (g : Ge fa H H') (f : FeedAt K fa O kd H' F') : Hd K fa O kd H' F' where
  ofa := S.ofa
  onn := fun a o => by
    by_cases h : a = fa
    · rw [h]; exact f.nt
    · obtain ⟨u, i, e⟩ := S.onn a o
      exact ⟨u, i, g a u e h⟩
  fd := f
theorem SR.ge (S : SR K fa O kd H σ ρ F) (g : Ge fa H H') (f : FeedAt K fa O kd H' F') : SR K fa O kd H' σ ρ F' :=
  { S.toHd.ge g f with sl := fun i x e => (S.sl i x e).ge S.ofa g }
theorem Hd.on (S : Hd K fa O kd H F) {a : Addr} (o : O a) : H a ≠ none := by
  obtain ⟨u, _, e⟩ := S.onn a o
  rw [e]; simp
/-- a new address may not change -/
theorem Hd.newI (S : Hd K fa O kd H F) {p : Addr} (h : NewIn H p) : ¬ O p := fun o => by
  obtain ⟨u, _, e⟩ := S.onn p o
  exact h u e
theorem Hd.new (S : Hd K fa O kd H F) {p : Addr} (h : H p = none) : ¬ O p := S.newI (NewIn.of h)
theorem Hd.nfI (S : Hd K fa O kd H F) {p : Addr} (h : NewIn H p) : p ≠ fa := fun e => S.newI h (by rw [e]; exact S.ofa)
theorem Hd.nf (S : Hd K fa O kd H F) {p : Addr} (h : H p = none) : p ≠ fa := S.nfI (NewIn.of h)
/-- the record stands, something new is laid -/
theorem FeedAt.go (h : FeedAt K fa O kd H F) (g : Go O H H') (e : H' fa = H fa) (t : LamX.Tabs kd.T H → LamX.Tabs kd.T H') : FeedAt K fa O kd H' F := by
  obtain ⟨k, T⟩ := kd
  obtain ⟨ht, h⟩ := h
  cases k with
  | lst => obtain ⟨z, c, e1, r⟩ := h; exact ⟨t ht, z, c, e.trans e1, r.go g⟩
  | dic m => obtain ⟨z, c, e1, r⟩ := h; exact ⟨t ht, z, c, e.trans e1, r.go g⟩
theorem Hd.laid (S : Hd K fa O kd H F) {p : Addr} {o : HO} (h : H p = none) : FeedAt K fa O kd (upd H p o) F :=
  S.fd.go (Ge.go (Ge.new h) S.ofa) (upd_ne (S.nf h).symm) fun t => tabs_upd t h
/-- what follows a value that is there, a new list, a new tuple -/
abbrev Nx (K : PySem.W.Frag) (fa : Addr) (O : Os) (kd : FK) (H : Hp) (F : Fd) (d : D) (Q : VK) : Prop := ∀ v H2, Ge fa H H2 → FeedAt K fa O kd H2 F → Rp K fa O H2 v d → Q v H2
theorem Hd.here (S : Hd K fa O kd H F) {d : D} {Q : VK} (k : Nx K fa O kd H F d Q) {v : V} (r : Rp K fa O H v d) : Q v H := k v H (Ge.refl fa H) S.fd r
theorem Hd.newL (S : Hd K fa O kd H F) {ds : List D} {vs : List V} {Q : VK} (k : Nx K fa O kd H F (.lst ds) Q) (r : Rps K fa O H vs ds) : ∀ p, H p = none → Q (.ref p) (upd H p (.lst vs)) := fun p hp =>
  k (.ref p) _ (Ge.new hp) (S.laid hp) (.lst upd_same (S.new hp) (r.go (Ge.go (Ge.new hp) S.ofa)))
theorem Hd.newT (S : Hd K fa O kd H F) {ds : List D} {vs : List V} {Q : VK} (k : Nx K fa O kd H F (.tup ds) Q) (r : Rps K fa O H vs ds) : ∀ p, H p = none → Q (.ref p) (upd H p (.tup vs)) := fun p hp =>
  k (.ref p) _ (Ge.new hp) (S.laid hp) (.tup upd_same (S.new hp) (r.go (Ge.go (Ge.new hp) S.ofa)))
end

/-! ### what a piece is to reach, by what it evaluates to -/
/-- an error of the class c with these fields: the class's own object, its fields' dict -/
def ExR (K : PySem.W.Frag) (mg : Str → Option Value) (fa : Addr) (O : Os) (H : Hp) (cls : Value) (od : Option Addr) (c : Str) (fs : List (Str × D)) : Prop :=
  ∃ (C d : Addr) (ws : List (Str × V)), cls = .ref C ∧ mg c = some (.ref C) ∧ od = some d ∧ H d = some (.xd ws) ∧ ¬ O d ∧ ws.map (·.1) = fs.map (·.1) ∧ Rps K fa O H (ws.map (·.2)) (fs.map (·.2))
/-- an error may come here -/
def ExW (X : Cx) (σ : L2.St) (H : Hp) (fa : Addr) (O : Os) (kd : FK) (c : Str) (fs : List (Str × D)) (F' : Fd) : Prop :=
  ∃ E : XK, (∀ (pins : List (Addr × Obj)) (H1 : Hp) (s : Shared) (e : Value) (s' : Shared), Inv X pins σ H1 s → L2.CX X.prog X.w X.stack H1 s E e s' → X.xe e s') ∧
    ∀ cls od H2, Ge fa H H2 → FeedAt X.K fa O kd H2 F' → ExR X.K X.mg fa O H2 cls od c fs → E cls od H2
def Po {α β : Type} (X : Cx) (σ : L2.St) (H : Hp) (fa : Addr) (O : Os) (kd : FK) (R : Hp → β → α → Prop) (out : Ou α) (Q : β → Hp → Prop) : Prop :=
  match out with
  | .ok a F' => ∀ v H2, Ge fa H H2 → FeedAt X.K fa O kd H2 F' → R H2 v a → Q v H2
  | .ex c fs F' => ExW X σ H fa O kd c fs F'
  | .no => False
section
variable {X : Cx} {σ : L2.St} {H H1 : Hp} {fa : Addr} {O : Os} {kd : FK} {α β γ δ : Type}
theorem ExW.ge {c : Str} {fs : List (Str × D)} {F' : Fd} (h : ExW X σ H fa O kd c fs F') (g : Ge fa H H1) : ExW X σ H1 fa O kd c fs F' := by
  obtain ⟨E, p, q⟩ := h
  exact ⟨E, p, fun cls od H2 g2 f r => q cls od H2 (g.trans g2) f r⟩
/-- one piece, then another -/
theorem Po.bind {R : Hp → β → α → Prop} {R' : Hp → δ → γ → Prop} {m : Ou α} {f : α → Fd → Ou γ} {Q' : β → Hp → Prop} {Q : δ → Hp → Prop} (h : Po X σ H fa O kd R' (m.bind f) Q)
    (k : ∀ a F1 v H1, m = .ok a F1 → Ge fa H H1 → FeedAt X.K fa O kd H1 F1 → R H1 v a → Po X σ H1 fa O kd R' (f a F1) Q → Q' v H1) : Po X σ H fa O kd R m Q' := by
  cases m with
  | ok a F1 =>
    intro v H1 g fd r
    refine k a F1 v H1 rfl g fd r ?_
    have h' : Po X σ H fa O kd R' (f a F1) Q := h
    cases e : f a F1 with
    | ok c F2 =>
      rw [e] at h'
      exact fun w H2 g2 fd2 r2 => h' w H2 (g.trans g2) fd2 r2
    | ex c fs F2 =>
      rw [e] at h'
      exact ExW.ge h' g
    | no => rw [e] at h'; exact h'
  | ex c fs F1 => exact h
  | no => exact h
theorem Po.of {R : Hp → β → α → Prop} {x : Option α} {F : Fd} {Q : β → Hp → Prop} (h : Po X σ H fa O kd R (Ou.of x F) Q) : ∃ a, x = some a ∧ ∀ v H2, Ge fa H H2 → FeedAt X.K fa O kd H2 F → R H2 v a → Q v H2 := by
  cases x with
  | none => exact absurd h (fun z => z)
  | some a => exact ⟨a, rfl, h⟩
theorem Po.mono {R : Hp → β → α → Prop} {m : Ou α} {Q Q' : β → Hp → Prop} (h : Po X σ H fa O kd R m Q) (k : ∀ v H', Q v H' → Q' v H') : Po X σ H fa O kd R m Q' := by
  cases m with
  | ok a F => exact fun v H2 g f r => k v H2 (h v H2 g f r)
  | ex c fs F => exact h
  | no => exact h
theorem Po.rel {R R' : Hp → β → α → Prop} {m : Ou α} {Q : β → Hp → Prop} (h : Po X σ H fa O kd R m Q) (k : ∀ H v a, R' H v a → R H v a) : Po X σ H fa O kd R' m Q := by
  cases m with
  | ok a F => exact fun v H2 g f r => h v H2 g f (k _ _ _ r)
  | ex c fs F => exact h
  | no => exact h
end

/-! ### steps of expressions -/
section
variable {X : Cx} {σ : L2.St} {H : Hp} {Q : VK} {a b c : Expr} {pos : Pos}
theorem sm_bin {op : Operator} (h : SmE X a σ H fun x H1 => SmE X b σ H1 fun y H2 => SmOp X (binaryOp op) x y H2 Q) : SmE X (.BinOp a op b pos) σ H Q := PE.sm (pe_op op_sm pe_sm pe_sm) h
theorem sm_cmp {op : CmpOp} (hm : behindInMarks op b = false) (h : SmE X a σ H fun x H1 => SmE X b σ H1 fun y H2 => SmOp X (compareOp op) x y H2 Q) : SmE X (.Compare a [op] [b] pos) σ H Q := PE.sm (pe_cmpR op_sm pe_sm pe_sm hm) h
theorem sw_cmp {op : CmpOp} {Q : Bool → Hp → Prop} (hm : behindInMarks op b = false) (h : SmE X a σ H fun x H1 => SmE X b σ H1 fun y H2 => SmOp X (compareOp op) x y H2 fun z H3 => ∃ k, z = .bl k ∧ Q k H3) : SmW X (.Compare a [op] [b] pos) σ H Q := fun wh pins s I => by
  refine wpAny_isTrue_Compare1 (thn (h pins s I) fun v s1 ⟨x, H1, I1, r1, q1⟩ => thn (q1 pins s1 I1) fun u s2 ⟨y, H2, I2, r2, q2⟩ => thn (q2 pins s2 σ v u I2 r1 r2) fun c s3 ⟨z, H3, I3, r3, k, e, q3⟩ => ?_) hm
  subst e
  cases r3
  exact wpAny_truthy_bool ⟨H3, I3, q3⟩
theorem sm_chain {op op' : CmpOp} (hm : lastMarks [op, op'] [b, c] = false) (h : SmE X a σ H fun x H1 => SmE X b σ H1 fun y H2 => SmOp X (compareOp op) x y H2 fun z H3 => ∃ k, z = .bl k ∧
    (if k = true then SmE X c σ H3 fun w H4 => SmOp X (compareOp op') y w H4 Q else Q (.bl false) H3)) : SmE X (.Compare a [op, op'] [b, c] pos) σ H Q := PE.sm (pe_chain op_sm op_sm pe_sm pe_sm pe_sm hm) h
theorem st_chain {op op' : CmpOp} {Q : Bool → Hp → Prop} (hm : lastMarks [op, op'] [b, c] = false) (h : SmE X a σ H fun x H1 => SmE X b σ H1 fun y H2 => SmOp X (compareOp op) x y H2 fun z H3 => ∃ k, z = .bl k ∧
    (if k = true then SmE X c σ H3 fun w H4 => SmOp X (compareOp op') y w H4 (fun z H' => ∃ k, z = .bl k ∧ Q k H') else (∃ k, V.bl false = .bl k ∧ Q k H3))) : SmT X (.Compare a [op, op'] [b, c] pos) σ H Q := PT.sm (pt_chain op_sm op_sm pe_sm pe_sm pe_sm hm) h
theorem sm_neg (h : SmE X a σ H fun x H1 => ∃ i, x = .int i ∧ Q (.int (-i)) H1) : SmE X (.UnaryOp .USub a pos) σ H Q := PE.sm (pe_un un_neg pe_sm) h
theorem sm_and {rest : List Expr} (h : SmE X a σ H fun x H1 => ∃ k, x = .bl k ∧ if k = true then SmE X (.BoolOp .And (b :: rest) pos) σ H1 Q else Q (.bl false) H1) : SmE X (.BoolOp .And (a :: b :: rest) pos) σ H Q := PE.sm (pe_and pe_sm pe_sm) h
theorem sm_or {rest : List Expr} (h : SmE X a σ H fun x H1 => ∃ k, x = .bl k ∧ if k = true then Q (.bl true) H1 else SmE X (.BoolOp .Or (b :: rest) pos) σ H1 Q) : SmE X (.BoolOp .Or (a :: b :: rest) pos) σ H Q := PE.sm (pe_or pe_sm pe_sm) h
theorem sm_one {op : BoolOp} (h : SmE X a σ H Q) : SmE X (.BoolOp op [a] pos) σ H Q := PE.sm (pe_one pe_sm) h
theorem sw_and {rest : List Expr} {Q : Bool → Hp → Prop} (h : SmT X a σ H fun k H1 => if k = true then SmW X (.BoolOp .And (b :: rest) pos) σ H1 Q else Q false H1) : SmW X (.BoolOp .And (a :: b :: rest) pos) σ H Q := PW.sm (pw_and pt_sm pw_sm) h
theorem sw_or {rest : List Expr} {Q : Bool → Hp → Prop} (h : SmT X a σ H fun k H1 => if k = true then Q true H1 else SmW X (.BoolOp .Or (b :: rest) pos) σ H1 Q) : SmW X (.BoolOp .Or (a :: b :: rest) pos) σ H Q := PW.sm (pw_or pt_sm pw_sm) h
theorem sw_and1 {Q : Bool → Hp → Prop} (h : SmT X a σ H Q) : SmW X (.BoolOp .And [a] pos) σ H Q := PW.sm (pw_and1 pt_sm) h
theorem sw_or1 {Q : Bool → Hp → Prop} (h : SmT X a σ H Q) : SmW X (.BoolOp .Or [a] pos) σ H Q := PW.sm (pw_or1 pt_sm) h
theorem st_not {Q : Bool → Hp → Prop} (h : SmT X a σ H fun k H1 => Q (!k) H1) : SmT X (.UnaryOp .Not a pos) σ H Q := PT.sm (pt_not pt_sm) h
theorem sw_not {Q : Bool → Hp → Prop} (h : SmT X a σ H fun k H1 => Q (!k) H1) : SmW X (.UnaryOp .Not a pos) σ H Q := fun wh pins s I => isTrue_not (h pins s I)
theorem sm_if {t : Expr} (h : SmT X t σ H fun k H1 => if k = true then SmE X a σ H1 Q else SmE X b σ H1 Q) : SmE X (.IfExp t a b pos) σ H Q := PE.sm (pe_ifExp pt_sm pe_sm pe_sm) h
theorem sm_tup {es : List Expr} {k : Nat} (h : SmA X es σ H fun xs H1 => xs.length ≤ sizeLine ∧ ∀ p, H1 p = none → Q (.ref p) (upd H1 p (.tup xs))) : SmE X (.Tuple es k pos) σ H Q := PE.sm (pe_tup pa_sm) h
theorem sm_lst {es : List Expr} (h : SmA X es σ H fun xs H1 => xs.length ≤ sizeLine ∧ ∀ p, H1 p = none → Q (.ref p) (upd H1 p (.lst xs))) : SmE X (.List es pos) σ H Q := PE.sm (pe_lst pa_sm) h
theorem sm_ix (hs : PlainIx b) (h : SmE X a σ H fun x H1 => SmE X b σ H1 fun y H2 => SmIx X x y H2 Q) : SmE X (.Subscript a b pos) σ H Q := PE.sm (pe_ix ix_sm pe_sm pe_sm hs) h
theorem sa_nil {Q : List V → Hp → Prop} (h : Q [] H) : SmA X [] σ H Q := PA.sm pa_nil h
/-- no star -/
def nostar : Expr → Bool
  | .Starred _ _ => false
  | _ => true
theorem star_of {e : Expr} {es : List Expr} {env : Env} (h : nostar e = true) : starEach (e :: es) env = (false, eval e env) :: starEach es env := by
  cases e <;> first | rfl | cases h
theorem sa_cons {e : Expr} {es : List Expr} {Q : List V → Hp → Prop} (hn : nostar e = true) (h : SmE X e σ H fun x H1 => SmA X es σ H1 fun xs H2 => Q (x :: xs) H2) : SmA X (e :: es) σ H Q := PA.sm (pa_cons pe_sm pa_sm (star_of hn)) h
theorem so_none {Q : Option Int → Hp → Prop} (h : Q none H) : SmO X none σ H Q := PO.sm po_none h
theorem so_some {e : Expr} {Q : Option Int → Hp → Prop} (h : SmE X e σ H fun x H1 => ∃ i, x = .int i ∧ Q (some i) H1) : SmO X (some e) σ H Q := PO.sm (po_some pe_sm) h
/-- a test whose value is looked at -/
def plainT : Expr → Bool
  | .UnaryOp .Not _ _ => false
  | .BoolOp _ _ _ => false
  | .IfExp _ _ _ _ => false
  | .Compare _ _ _ _ => false
  | _ => true
theorem st_plain {e : Expr} {Q : Bool → Hp → Prop} (hp : plainT e = true) (h : SmE X e σ H fun x H1 => ∃ k, TruV X.K x H1 k ∧ Q k H1) : SmT X e σ H Q := by
  refine PT.sm (pt_truth pe_sm fun wh => ?_) h
  cases e <;> first | rfl | cases hp | skip
  rename_i op x p
  cases op <;> first | rfl | cases hp
end
end TH
/-! The operations: what they give of data. -/
namespace TH
open PySem PySem.Spec PyProof.Rows L2
section
variable {X : Cx} {H : Hp} {fa : Addr} {O : Os} {kd : FK} {F : Fd} {Q : VK}

theorem B64_or {i j : Int} (h : (B64 i || B64 j) = true) : (-(2 ^ 64) < i ∧ i < 2 ^ 64) ∨ (-(2 ^ 64) < j ∧ j < 2 ^ 64) := by
  unfold B64 at h
  simp only [Bool.or_eq_true, Bool.and_eq_true, decide_eq_true_eq] at h
  exact h
theorem rps_flat {vs : List V} {ds : List D} (n : Nat) (r : Rps X.K fa O H vs ds) : Rps X.K fa O H (List.replicate n vs).flatten (List.replicate n ds).flatten := by
  induction n with
  | zero => exact .nil
  | succ n ih =>
    rw [List.replicate_succ, List.replicate_succ, List.flatten_cons, List.flatten_cons]
    exact r.append ih
theorem op_binD {op : Operator} {dx dy d : D} {x y : V} (S : Hd X.K fa O kd H F) (e : binD op dx dy = some d) (rx : Pk X.K fa O H x dx) (ry : Pk X.K fa O H y dy) (k : Nx X.K fa O kd H F d Q) : SmOp X (binaryOp op) x y H Q := by
  unfold binD at e
  split at e
  · cases e
    obtain rfl := rx.intI
    obtain rfl := ry.intI
    exact OpR.sm op_add ⟨_, _, rfl, rfl, S.here k (.int _)⟩
  · split at e
    · rename_i h
      cases e
      obtain rfl := rx.strI
      obtain rfl := ry.strI
      exact OpR.sm op_add_str ⟨_, _, rfl, rfl, h, S.here k (.str _)⟩
    · cases e
  · rename_i xs ys
    unfold catD at e
    split at e
    · rename_i h
      cases e
      obtain ⟨p, vs, rfl, hp, rp⟩ := rx.tupI
      obtain ⟨q, ws, rfl, hq, rq⟩ := ry.tupI
      have l1 := rp.length
      have l2 := rq.length
      refine OpR.sm op_catA ⟨p, q, vs, ws, rfl, rfl, hp, hq, by rw [l1, l2]; exact h, fun z => ?_, fun z1 z2 => ?_, fun z1 z2 => S.newT k (rp.append rq)⟩
      · subst z
        cases rp
        rcases ry with ry | ⟨_, _, _, _, z, _⟩
        · exact S.here k ry
        · cases z
      · subst z2
        cases rq
        rcases rx with rx | ⟨_, _, _, _, z, _⟩
        · rw [List.append_nil] at k
          exact S.here k rx
        · cases z
    · cases e
  · rename_i xs ys
    unfold catD at e
    split at e
    · rename_i h
      cases e
      obtain ⟨p, vs, rfl, hp, rp⟩ := rx.lstI
      obtain ⟨q, ws, rfl, hq, rq⟩ := ry.lstI
      have l1 := rp.length
      have l2 := rq.length
      exact OpR.sm op_cat ⟨p, q, vs, ws, rfl, rfl, hp, hq, by rw [l1, l2]; exact h, S.newL k (rp.append rq)⟩
    · cases e
  · cases e
    obtain rfl := rx.intI
    obtain rfl := ry.intI
    exact OpR.sm op_sub ⟨_, _, rfl, rfl, S.here k (.int _)⟩
  · split at e
    · rename_i h
      cases e
      obtain rfl := rx.intI
      obtain rfl := ry.intI
      refine OpR.sm op_mul ⟨_, _, rfl, rfl, ?_, S.here k (.int _)⟩
      rcases B64_or h with z | z
      · exact .inl z
      · exact .inr z
    · cases e
  · rename_i xs j
    unfold repD at e
    split at e
    · rename_i h
      cases e
      obtain ⟨p, vs, rfl, hp, rp⟩ := rx.lstI
      obtain rfl := ry.intI
      have l1 := rp.length
      exact OpR.sm op_rep ⟨p, _, vs, rfl, rfl, hp, h.1, h.2.1, by rw [l1]; exact h.2.2, S.newL k (rps_flat _ rp)⟩
    · cases e
  · rename_i xs j
    unfold repT at e
    split at e
    · rename_i h
      cases e
      subst h
      obtain rfl := ry.intI
      obtain ⟨p, vs, rfl, hp, rp⟩ := rx.tupI
      exact OpR.sm op_rep1 ⟨p, vs, rfl, rfl, hp, S.here k rx.tupR⟩
    · split at e
      · rename_i h
        cases e
        obtain ⟨p, vs, rfl, hp, rp⟩ := rx.tupI
        obtain rfl := ry.intI
        have l1 := rp.length
        have hne : vs ≠ [] := fun z => by
          have h1 := h.1
          rw [z] at l1
          rw [List.eq_nil_of_length_eq_zero l1.symm] at h1
          cases h1
        exact OpR.sm op_repT ⟨p, j, vs, rfl, rfl, hp, hne, h.2.1, h.2.2.1, by rw [l1]; exact h.2.2.2, S.newT k (rps_flat _ rp)⟩
      · cases e
  · split at e
    · rename_i h
      cases e
      obtain rfl := rx.intI
      obtain rfl := ry.intI
      exact OpR.sm op_fdivN ⟨_, _, rfl, rfl, h, S.here k (.int _)⟩
    · cases e
  · split at e
    · rename_i h
      cases e
      obtain rfl := rx.intI
      obtain rfl := ry.intI
      exact OpR.sm op_modN ⟨_, _, rfl, rfl, h, S.here k (.int _)⟩
    · cases e
  · split at e
    · rename_i h
      cases e
      obtain rfl := rx.intI
      obtain rfl := ry.intI
      exact OpR.sm op_pow ⟨_, _, rfl, rfl, h, S.here k (.int _)⟩
    · cases e
  · cases e

theorem pk_nonB {v : V} {d : D} (r : Pk X.K fa O H v d) : decide (v = V.non) = d.isNon := by
  rcases r with r | ⟨a, vs, ds, e1, e2, _⟩
  · cases r <;> rfl
  · subst e1 e2; rfl
theorem inD_some {a : D} {ys : List D} {b : Bool} (h : inD a ys = some b) : ∃ v vs, flV a = some v ∧ flVs ys = some vs ∧ b = inV v vs := by
  unfold inD at h
  split at h
  · rename_i v vs h1 h2
    cases h
    exact ⟨v, vs, h1, h2, rfl⟩
  · cases h
theorem flV_rp {d : D} {v w : V} (h : flV d = some v) (r : Rp X.K fa O H w d) : w = v := by
  cases r <;> simp only [flV] at h <;> cases h <;> rfl
theorem flV_pk {d : D} {v w : V} (h : flV d = some v) (r : Pk X.K fa O H w d) : w = v := by
  rcases r with r | ⟨a, vs, ds, _, e2, _⟩
  · exact flV_rp h r
  · subst e2; cases h
theorem flV_flat {d : D} {v : V} (h : flV d = some v) : flatV v = true := by
  unfold flV at h
  split at h <;> cases h <;> rfl
theorem flVs_rps : ∀ {ds : List D} {vs ws : List V}, flVs ds = some vs → Rps X.K fa O H ws ds → ws = vs ∧ ws.all flatV = true
  | [], vs, ws, h, r => by cases h; cases r; exact ⟨rfl, rfl⟩
  | d :: ds, vs, ws, h, r => by
    cases r with
    | cons r1 r2 =>
      simp only [flVs] at h
      split at h
      · rename_i v us h1 h2
        cases h
        obtain ⟨e, f⟩ := flVs_rps h2 r2
        subst e
        have e1 := flV_rp h1 r1
        subst e1
        exact ⟨rfl, by rw [List.all_cons, f, flV_flat h1]; rfl⟩
      · cases h
theorem op_cmpD {op : CmpOp} {dx dy : D} {b : Bool} {x y : V} (hu : X.A.units + 64 < cLine) (e : cmpD op dx dy = some b) (rx : Pk X.K fa O H x dx) (ry : Pk X.K fa O H y dy) (k : Q (.bl b) H) : SmOp X (compareOp op) x y H Q := by
  unfold cmpD at e
  split at e
  · cases e
    obtain rfl := rx.intI
    obtain rfl := ry.intI
    exact OpR.sm op_lt ⟨_, _, rfl, rfl, k⟩
  · cases e
    obtain rfl := rx.intI
    obtain rfl := ry.intI
    exact OpR.sm op_le ⟨_, _, rfl, rfl, k⟩
  · cases e
    obtain rfl := rx.intI
    obtain rfl := ry.intI
    exact OpR.sm op_gt ⟨_, _, rfl, rfl, k⟩
  · cases e
    obtain rfl := rx.intI
    obtain rfl := ry.intI
    exact OpR.sm op_ge ⟨_, _, rfl, rfl, k⟩
  · split at e
    · rename_i h
      simp only [Bool.and_eq_true] at h
      cases e
      exact OpR.sm (op_eqD hu) ⟨_, _, rx.dp h.1.1.1, ry.dp h.1.1.2, h.1.2, h.2, k⟩
    · cases e
  · split at e
    · rename_i h
      simp only [Bool.and_eq_true] at h
      cases e
      exact OpR.sm (op_neD hu) ⟨_, _, rx.dp h.1.1.1, ry.dp h.1.1.2, h.1.2, h.2, k⟩
    · cases e
  · cases e
    obtain rfl := ry.nonI
    refine OpR.sm op_isN ⟨rfl, ?_⟩
    rw [pk_nonB rx]
    exact k
  · rename_i a
    cases e
    obtain rfl := ry.nonI
    refine OpR.sm op_notN ⟨rfl, ?_⟩
    rw [pk_nonB rx]
    exact k
  · obtain ⟨v, vs, e1, e2, rfl⟩ := inD_some e
    obtain ⟨p, ws, rfl, hp, rp⟩ := ry.lstI
    obtain rfl := flV_pk e1 rx
    obtain ⟨rfl, fl⟩ := flVs_rps e2 rp
    exact OpR.sm op_in_seq ⟨p, ws, rfl, .inl (.inl (.inl hp)), flV_flat e1, fl, k⟩
  · obtain ⟨v, vs, e1, e2, rfl⟩ := inD_some e
    obtain ⟨p, ws, rfl, hp, rp⟩ := ry.tupI
    obtain rfl := flV_pk e1 rx
    obtain ⟨rfl, fl⟩ := flVs_rps e2 rp
    exact OpR.sm op_in_seq ⟨p, ws, rfl, .inr hp, flV_flat e1, fl, k⟩
  · rw [Option.map_eq_some_iff] at e
    obtain ⟨b', e, rfl⟩ := e
    obtain ⟨v, vs, e1, e2, rfl⟩ := inD_some e
    obtain ⟨p, ws, rfl, hp, rp⟩ := ry.lstI
    obtain rfl := flV_pk e1 rx
    obtain ⟨rfl, fl⟩ := flVs_rps e2 rp
    exact OpR.sm op_notIn_seq ⟨p, ws, rfl, .inl (.inl (.inl hp)), flV_flat e1, fl, k⟩
  · rw [Option.map_eq_some_iff] at e
    obtain ⟨b', e, rfl⟩ := e
    obtain ⟨v, vs, e1, e2, rfl⟩ := inD_some e
    obtain ⟨p, ws, rfl, hp, rp⟩ := ry.tupI
    obtain rfl := flV_pk e1 rx
    obtain ⟨rfl, fl⟩ := flVs_rps e2 rp
    exact OpR.sm op_notIn_seq ⟨p, ws, rfl, .inr hp, flV_flat e1, fl, k⟩
  · cases e
theorem tru_truD {d : D} {b : Bool} {x : V} (e : truD d = some b) (rx : Pk X.K fa O H x d) : TruV X.K x H b := by
  unfold truD at e
  split at e
  · cases e; obtain rfl := rx.nonI; rfl
  · cases e; obtain rfl := rx.blI; rfl
  · cases e; obtain rfl := rx.intI; rfl
  · rename_i xs
    cases e
    obtain ⟨p, vs, rfl, hp, rp⟩ := rx.tupI
    refine .inr (.inl ⟨vs, hp, ?_⟩)
    cases rp <;> rfl
  · rename_i xs
    cases e
    obtain ⟨p, vs, rfl, hp, rp⟩ := rx.lstI
    refine .inl ⟨vs, .inl (.inl hp), ?_⟩
    cases rp <;> rfl
  · cases e
theorem ix_idxD {dx dy d : D} {x y : V} (S : Hd X.K fa O kd H F) (e : idxD dx dy = some d) (rx : Pk X.K fa O H x dx) (ry : Rp X.K fa O H y dy) (k : Nx X.K fa O kd H F d Q) : SmIx X x y H Q := by
  have at' : ∀ {vs : List V} {ds : List D} {i : Int}, Rps X.K fa O H vs ds → atI ds i = some d → ∃ v, atI vs i = some v ∧ Rp X.K fa O H v d := by
    intro vs ds i r h
    unfold atI at h ⊢
    rw [r.length]
    cases hj : ixN ds.length i with
    | none => rw [hj] at h; cases h
    | some j => rw [hj] at h; exact r.get h
  unfold idxD at e
  split at e
  · obtain ⟨p, vs, rfl, hp, rp⟩ := rx.tupI
    obtain rfl := ry.intI
    obtain ⟨v, hv, rv⟩ := at' rp e
    exact IxR.sm ix_tup ⟨p, vs, _, v, rfl, rfl, hp, hv, S.here k rv⟩
  · obtain ⟨p, vs, rfl, hp, rp⟩ := rx.lstI
    obtain rfl := ry.intI
    obtain ⟨v, hv, rv⟩ := at' rp e
    exact IxR.sm ix_list ⟨p, vs, _, v, rfl, rfl, .inl (.inl hp), hv, S.here k rv⟩
  · cases e
theorem rps_cut {vs : List V} {ds : List D} (lo hi : Option Int) (r : Rps X.K fa O H vs ds) : Rps X.K fa O H (cutV vs lo hi) (cutD ds lo hi) := by
  unfold cutV cutD
  rw [r.length]
  exact (r.drop _).take _
theorem sm_sli {a : Expr} {lo hi : Option Expr} {p2 pos : Pos} {σ : L2.St} (h : SmE X a σ H fun x H1 => SmO X lo σ H1 fun l H2 => SmO X hi σ H2 fun u H3 => ∃ (fa : Addr) (O : Os) (kd : FK) (F : Fd) (d d' : D), Pk X.K fa O H3 x d ∧ Hd X.K fa O kd H3 F ∧ sliD d l u = some d' ∧ Nx X.K fa O kd H3 F d' Q) :
    SmE X (.Subscript a (.Slice lo hi none p2) pos) σ H Q := by
  refine PE.sm (pe_slice (sl_list.or sl_tupA) pe_sm po_sm po_sm) (h.mono fun x H1 h1 => fun pins s I => thn (h1 pins s I) fun u s1 ⟨l, H2, I2, pl, h2⟩ => ⟨l, H2, I2, pl, fun pins s I => thn (h2 pins s I) fun u s1 ⟨l2, H3, I3, p3, h3⟩ => ⟨l2, H3, I3, p3, ?_⟩⟩)
  obtain ⟨fa, O, kd, F, d, d', rx, S, e, k⟩ := h3
  unfold sliD at e
  split at e
  · rename_i xs
    cases e
    obtain ⟨p, vs, rfl, hp, rp⟩ := rx.tupI
    refine .inr ⟨p, vs, rfl, hp, fun z => ?_, fun z => S.newT k (rps_cut _ _ rp)⟩
    have e2 : cutD xs l l2 = xs := by
      unfold cutD
      rw [← rp.length, z.1, z.2, rp.length]
      simp
    rw [e2] at k
    rcases rx with rx | ⟨_, _, _, _, z, _⟩
    · exact S.here k rx
    · cases z
  · rename_i xs
    cases e
    obtain ⟨p, vs, rfl, hp, rp⟩ := rx.lstI
    exact .inl ⟨p, vs, rfl, .inl (.inl hp), S.newL k (rps_cut _ _ rp)⟩
  · cases e
end
end TH
/-! The built-in functions, of data. -/
namespace TH
open PySem PySem.Spec PyProof.Rows L2
/-- sum of a tuple of ints -/
theorem sum_tuple_ints {prog : Program} {w : World} {A : Around} {E : Value → Shared → Prop} {s : Shared} {l : Addr} {its : List Value} {ns : List Int} {Q : Value → Shared → Prop} (hh : A.handled = none) (hl : s.heap.IsTuple l its.toArray) (hi : IntsAre its ns)
    (h : ∀ h' tk t', (∀ b o, s.heap.get? b = some o → h'.get? b = some o) → Q (.int ns.sum t') { s with heap := h', toks := tk }) : wpAny (model prog w) A (call (.builtin "sum") [.ref l]) Q E s := by
  obtain ⟨xs, e⟩ := hi.allInts.items
  have hn : numsOf (intItems xs).toList = ns := by rw [← e]; exact hi.numsOf
  rw [nums_intItems] at hn
  rw [e] at hl
  have hlt : l < s.heap.objs.size := by obtain ⟨_, e, _⟩ := hl; exact Heap.lt_size e
  have hne : l ≠ s.heap.objs.size := Nat.ne_of_lt hlt
  refine call_sum_walkG (wpAny_pyIter_tuple hl ?_)
  refine ⟨s.heap.objs.size, [s.heap.objs.size, l], [s.heap.objs.size], _, _, _, numAt xs, rfl, Walks.tuple (A := A.in1) hh _ l hne (intItems xs), ⟨⟨_, Heap.get?_push_size _ rfl, rfl, rfl⟩, hl.push _⟩, fun b hb => ?_, fun _ _ => intItems_at, fun h' tk t' hk => ?_⟩
  · show b < (s.heap.push _).objs.size
    rw [Heap.size_push]
    rcases List.mem_cons.mp hb with rfl | hb
    · exact Nat.lt_succ_self _
    · rcases List.mem_cons.mp hb with rfl | hb
      · exact Nat.lt_succ_of_lt hlt
      · cases hb
  · have h2 := h h' tk t' fun b o eb => hk b o (fun hb => absurd (Heap.lt_size eb) ((List.mem_singleton.mp hb) ▸ Nat.lt_irrefl _)) (Heap.get?_push_of_some _ eb)
    have e3 : (intItems xs).size = xs.size := by simp [intItems]
    rw [e3, preSum_eq, List.take_of_length_le (by simp), hn]
    exact h2

section
variable {X : Cx} {H : Hp} {fa : Addr} {O : Os} {kd : FK} {F : Fd} {Q : VK}
theorem intsD_map : ∀ {ds : List D} {ns : List Int}, intsD ds = some ns → ds = ns.map D.int
  | [], _, e => by cases e; rfl
  | .int i :: r, _, e => by
    unfold intsD at e
    cases h : intsD r with
    | none => rw [h] at e; cases e
    | some ms => rw [h] at e; cases e; rw [intsD_map h]; rfl
  | .non :: r, _, e => by cases e
  | .bl _ :: r, _, e => by cases e
  | .str _ :: r, _, e => by cases e
  | .tup _ :: r, _, e => by cases e
  | .lst _ :: r, _, e => by cases e
  | .fd :: r, _, e => by cases e
theorem intsD_of : ∀ ns : List Int, intsD (ns.map D.int) = some ns
  | [] => rfl
  | n :: ns => by rw [List.map_cons]; show (intsD (ns.map D.int)).map (n :: ·) = _; rw [intsD_of ns]; rfl
theorem blsD_map : ∀ {ds : List D} {ns : List Bool}, blsD ds = some ns → ds = ns.map D.bl
  | [], _, e => by cases e; rfl
  | .bl i :: r, _, e => by
    unfold blsD at e
    cases h : blsD r with
    | none => rw [h] at e; cases e
    | some ms => rw [h] at e; cases e; rw [blsD_map h]; rfl
  | .non :: r, _, e => by cases e
  | .int _ :: r, _, e => by cases e
  | .str _ :: r, _, e => by cases e
  | .tup _ :: r, _, e => by cases e
  | .lst _ :: r, _, e => by cases e
  | .fd :: r, _, e => by cases e
theorem Rps.bls' : ∀ {vs : List V} {ns : List Bool}, Rps X.K fa O H vs (ns.map D.bl) → vs = ns.map V.bl
  | _, [], .nil => rfl
  | _, _ :: _, .cons h r => by cases h; rw [Rps.bls' r]; rfl
theorem insI_perm (i : Int) : ∀ l : List Int, (insI i l).Perm (i :: l)
  | [] => List.Perm.refl _
  | j :: r => by
    unfold insI
    split
    · exact List.Perm.refl _
    · exact ((insI_perm i r).cons j).trans (List.Perm.swap i j r)
theorem sortI_perm : ∀ l : List Int, (sortI l).Perm l
  | [] => List.Perm.refl _
  | i :: r => (insI_perm i (sortI r)).trans ((sortI_perm r).cons i)
theorem insI_srt (i : Int) : ∀ l : List Int, l.Pairwise (· ≤ ·) → (insI i l).Pairwise (· ≤ ·)
  | [], _ => List.pairwise_singleton _ _
  | j :: r, h => by
    obtain ⟨h1, h2⟩ := List.pairwise_cons.mp h
    unfold insI
    split
    · rename_i hij
      refine List.pairwise_cons.mpr ⟨fun y hy => ?_, h⟩
      rcases List.mem_cons.mp hy with rfl | hy
      · exact hij
      · have := h1 y hy; omega
    · rename_i hij
      refine List.pairwise_cons.mpr ⟨fun y hy => ?_, insI_srt i r h2⟩
      rcases List.mem_cons.mp ((insI_perm i r).mem_iff.mp hy) with rfl | hy
      · omega
      · exact h1 y hy
theorem sortI_srt : ∀ l : List Int, (sortI l).Pairwise (· ≤ ·)
  | [] => List.Pairwise.nil
  | i :: r => insI_srt i _ (sortI_srt r)
theorem upPr_srt : ∀ {ps : List (Int × Int)}, upPr ps = true → ps.Pairwise (fun p q => SrtO.lexB q p = false)
  | [], _ => List.Pairwise.nil
  | p :: r, h => by
    unfold upPr at h
    rw [Bool.and_eq_true, List.all_eq_true] at h
    exact List.pairwise_cons.mpr ⟨fun q hq => by simpa using h.1 q hq, upPr_srt h.2⟩
/-- the pair behind a value -/
noncomputable def prOf (H : Hp) (v : V) : Int × Int := match v with
  | .ref t => match H t with
    | some (.tup [.int i, .int j]) => (i, j)
    | _ => (0, 0)
  | _ => (0, 0)
theorem prs_rel : ∀ {ds : List D} {vs : List V} {ps : List (Int × Int)}, prsD ds = some ps → Rps X.K fa O H vs ds → vs.map (prOf H) = ps ∧ ∀ x ∈ vs, ∃ t, x = V.ref t ∧ H t = some (.tup [.int (prOf H x).1, .int (prOf H x).2])
  | [], _, _, e, r => by cases e; cases r; exact ⟨rfl, fun _ z => by cases z⟩
  | d :: ds, _, ps, e, r => by
    cases r with
    | cons h r =>
      rename_i v vs
      unfold prsD at e
      split at e
      · rename_i e0; cases e0
      · rename_i i j r' e0
        cases e0
        cases h2 : prsD ds with
        | none => rw [h2] at e; cases e
        | some qs =>
          rw [h2] at e
          cases e
          obtain ⟨a1, a2⟩ := prs_rel h2 r
          obtain ⟨p, ws, rfl, hp, rp, _⟩ := h.tupH
          cases rp with
          | cons x1 r1 =>
            cases r1 with
            | cons x2 r2 =>
              cases r2
              cases x1
              cases x2
              have e1 : prOf H (.ref p) = (i, j) := by unfold prOf; simp only [hp]
              refine ⟨by rw [List.map_cons, e1, a1], fun x hx => ?_⟩
              rcases List.mem_cons.mp hx with rfl | hx
              · exact ⟨p, rfl, by rw [e1]; exact hp⟩
              · exact a2 x hx
      · cases e
theorem fmin_le : ∀ (r : List Int) (i : Int), r.foldl min i ≤ i ∧ ∀ y ∈ r, r.foldl min i ≤ y
  | [], i => ⟨Int.le_refl _, fun _ z => by cases z⟩
  | j :: r, i => by
    obtain ⟨h1, h2⟩ := fmin_le r (min i j)
    rw [List.foldl_cons]
    refine ⟨by omega, fun y hy => ?_⟩
    rcases List.mem_cons.mp hy with rfl | hy
    · omega
    · exact h2 y hy
theorem fmin_mem : ∀ (r : List Int) (i : Int), r.foldl min i ∈ i :: r
  | [], i => List.mem_cons_self
  | j :: r, i => by
    rw [List.foldl_cons]
    rcases List.mem_cons.mp (fmin_mem r (min i j)) with h | h
    · rw [h]
      by_cases c : i ≤ j
      · rw [Int.min_eq_left c]; exact List.mem_cons_self
      · rw [Int.min_eq_right (by omega)]; exact List.mem_cons_of_mem _ List.mem_cons_self
    · exact List.mem_cons_of_mem _ (List.mem_cons_of_mem _ h)
theorem fmax_le : ∀ (r : List Int) (i : Int), i ≤ r.foldl max i ∧ ∀ y ∈ r, y ≤ r.foldl max i
  | [], i => ⟨Int.le_refl _, fun _ z => by cases z⟩
  | j :: r, i => by
    obtain ⟨h1, h2⟩ := fmax_le r (max i j)
    rw [List.foldl_cons]
    refine ⟨by omega, fun y hy => ?_⟩
    rcases List.mem_cons.mp hy with rfl | hy
    · omega
    · exact h2 y hy
theorem fmax_mem : ∀ (r : List Int) (i : Int), r.foldl max i ∈ i :: r
  | [], i => List.mem_cons_self
  | j :: r, i => by
    rw [List.foldl_cons]
    rcases List.mem_cons.mp (fmax_mem r (max i j)) with h | h
    · rw [h]
      by_cases c : j ≤ i
      · rw [Int.max_eq_left c]; exact List.mem_cons_self
      · rw [Int.max_eq_right (by omega)]; exact List.mem_cons_of_mem _ List.mem_cons_self
    · exact List.mem_cons_of_mem _ (List.mem_cons_of_mem _ h)
theorem min_one {ns : List Int} {i m : Int} (h : minI ns = some i) (h1 : m ∈ ns) (h2 : ∀ y ∈ ns, m ≤ y) : m = i := by
  cases ns with
  | nil => cases h
  | cons n r =>
    cases h
    have a := h2 _ (fmin_mem r n)
    obtain ⟨b, c⟩ := fmin_le r n
    rcases List.mem_cons.mp h1 with z | z
    · omega
    · have := c _ z; omega
theorem max_one {ns : List Int} {i m : Int} (h : maxI ns = some i) (h1 : m ∈ ns) (h2 : ∀ y ∈ ns, y ≤ m) : m = i := by
  cases ns with
  | nil => cases h
  | cons n r =>
    cases h
    have a := h2 _ (fmax_mem r n)
    obtain ⟨b, c⟩ := fmax_le r n
    rcases List.mem_cons.mp h1 with z | z
    · omega
    · have := c _ z; omega
theorem minI_pos {ns : List Int} {i : Int} (h : minI ns = some i) : 0 < ns.length := by cases ns with | nil => cases h | cons n r => simp
theorem maxI_pos {ns : List Int} {i : Int} (h : maxI ns = some i) : 0 < ns.length := by cases ns with | nil => cases h | cons n r => simp
theorem alike_ints (ns : List Int) : PySem.W.AlikeAll (ns.map PyData.int) := by
  refine ⟨fun x hx y hy => ?_, fun x hx => ?_⟩
  · obtain ⟨i, _, rfl⟩ := List.mem_map.mp hx
    obtain ⟨j, _, rfl⟩ := List.mem_map.mp hy
    rfl
  · obtain ⟨i, _, rfl⟩ := List.mem_map.mp hx
    simp
theorem depth_ints : ∀ ns : List Int, PyData.depthAll (ns.map PyData.int) ≤ 1
  | [] => by simp [PyData.depthAll]
  | n :: ns => by have := depth_ints ns; simp [PyData.depthAll, PyData.depth]; omega
theorem pys_ints : ∀ ns : List Int, D.pys (ns.map D.int) = ns.map PyData.int
  | [] => rfl
  | n :: ns => by rw [List.map_cons, List.map_cons, ← pys_ints ns]; rfl
theorem pures_ints : ∀ ns : List Int, D.pures (ns.map D.int) = true
  | [] => rfl
  | n :: ns => by rw [List.map_cons]; show (true && D.pures _) = true; rw [pures_ints ns]; rfl
def Bi.val : Bi → Value
  | .len => .builtin "len" | .tuple => .type "tuple" | .list => .type "list" | .int => .type "int" | .sum => .builtin "sum" | .min => .builtin "min" | .max => .builtin "max" | .repr => .builtin "repr" | .sorted => .builtin "sorted" | .all => .builtin "all" | .any => .builtin "any" | .abs => .builtin "abs"

theorem reprSm {d : D} {v : V} (hg : X.A.guards = some []) (hu : X.A.units + 64 < cLine) (ok : reprOk d = true) (hd : ∃ a, v = .ref a) (r : Pk X.K fa O H v d) (k : Q (.str d.py.shown) H) : SmC X (.builtin "repr") [v] H Q := fun pins s σ us I rv => by
  unfold reprOk at ok
  simp only [Bool.and_eq_true, Bool.not_eq_true', decide_eq_true_eq] at ok
  obtain ⟨⟨⟨⟨o1, o2⟩, o3⟩, o4⟩, o5⟩ := ok
  obtain ⟨a, rfl⟩ := hd
  rw [Vals.ref1 rv]
  obtain ⟨as, rd⟩ := Dp.reads I d.py (.ref a) (.ref a) (r.dp o1) rfl
  exact repr_of_reads' rd o2 (PyData.noDict_hsm o3) hg (by omega) (fun _ _ e => e) (fun h' u tk hk => ⟨.str d.py.shown, H, I.kept hk, ⟨u, rfl⟩, k⟩) o5

theorem cr_biD {f : Bi} {ds : List D} {d : D} {vs : List V} (hc : X.calm = true) (hg : X.A.guards = some []) (hu : X.A.units + 64 < cLine) (S : Hd X.K fa O kd H F) (e : biD f ds = some d) (r : Pks X.K fa O H vs ds) (k : Nx X.K fa O kd H F d Q) : SmC X f.val vs H Q := by
  have one : ∀ {x : D}, Pks X.K fa O H vs [x] → ∃ v, vs = [v] ∧ Pk X.K fa O H v x := fun z => by
    cases z with
    | cons h t => cases t; exact ⟨_, rfl, h⟩
  unfold biD at e
  split at e
  · cases e
    obtain ⟨v, rfl, h⟩ := one r
    obtain ⟨p, ws, rfl, hp, rp⟩ := h.tupI
    exact CallR.sm call_len_seq ⟨p, ws, rfl, .inr hp, S.here k (by rw [rp.length]; exact .int _)⟩
  · cases e
    obtain ⟨v, rfl, h⟩ := one r
    obtain ⟨p, ws, rfl, hp, rp⟩ := h.lstI
    exact CallR.sm call_len_seq ⟨p, ws, rfl, .inl (.inl (.inl hp)), S.here k (by rw [rp.length]; exact .int _)⟩
  · cases e
    obtain ⟨v, rfl, h⟩ := one r
    obtain ⟨p, ws, rfl, hp, rp⟩ := h.tupI
    refine CallR.sm call_tuple_of ⟨p, ws, rfl, .inr ⟨hp, ?_⟩⟩
    rcases h with h | ⟨_, _, _, _, z, _⟩
    · exact S.here k h
    · cases z
  · cases e
    obtain ⟨v, rfl, h⟩ := one r
    obtain ⟨p, ws, rfl, hp, rp⟩ := h.lstI
    exact CallR.sm call_tuple_of ⟨p, ws, rfl, .inl ⟨.inl (.inl hp), S.newT k rp⟩⟩
  · cases e
    obtain ⟨v, rfl, h⟩ := one r
    obtain ⟨p, ws, rfl, hp, rp⟩ := h.tupI
    exact CallR.sm call_list_of ⟨p, ws, rfl, .inr hp, S.newL k rp⟩
  · cases e
    obtain ⟨v, rfl, h⟩ := one r
    obtain ⟨p, ws, rfl, hp, rp⟩ := h.lstI
    exact CallR.sm call_list_of ⟨p, ws, rfl, .inl (.inl (.inl hp)), S.newL k rp⟩
  · cases e
    obtain ⟨v, rfl, h⟩ := one r
    obtain rfl := h.intI
    exact CallR.sm call_int1 (.inl ⟨_, rfl, S.here k (.int _)⟩)
  · cases e
    obtain ⟨v, rfl, h⟩ := one r
    obtain rfl := h.blI
    exact CallR.sm call_int1 (.inr ⟨_, rfl, S.here k (.int _)⟩)
  · rename_i ys
    cases h2 : intsD ys with
    | none => rw [h2] at e; cases e
    | some ns =>
      rw [h2] at e
      cases e
      obtain ⟨v, rfl, h⟩ := one r
      obtain ⟨p, ws, rfl, hp, rp⟩ := h.tupI
      have e2 := intsD_map h2
      subst e2
      have e3 := rp.ints
      subst e3
      intro pins s σ us I rv
      obtain ⟨its, rI, hT, _⟩ := I.tuple hp
      rw [Vals.ref1 rv]
      exact sum_tuple_ints (I.ok.hd hc) hT rI.ints fun h' tk t' hk => ⟨.int _, H, I.kept hk, ⟨_, rfl⟩, S.here k (.int _)⟩
  · rename_i ys
    cases h2 : intsD ys with
    | none => rw [h2] at e; cases e
    | some ns =>
      rw [h2] at e
      cases e
      obtain ⟨v, rfl, h⟩ := one r
      obtain ⟨p, ws, rfl, hp, rp⟩ := h.lstI
      have e2 := intsD_map h2
      subst e2
      have e3 := rp.ints
      subst e3
      exact CallR.sm (cr_sum hc) ⟨p, ns, rfl, .inl (.inl hp), S.here k (.int _)⟩
  · rename_i ys
    cases h2 : intsD ys with
    | none => rw [h2] at e; cases e
    | some ns =>
      rw [h2] at e
      have e1 : ((minI ns).map D.int) = some d := e
      cases h3 : minI ns with
      | none => rw [h3] at e1; cases e1
      | some m =>
        rw [h3] at e1
        cases e1
        obtain ⟨v, rfl, h⟩ := one r
        obtain ⟨p, ws, rfl, hp, rp⟩ := h.tupI
        have e2 := intsD_map h2
        subst e2
        have hd := h.dp (pures_ints ns)
        cases ns with
        | nil => cases h3
        | cons n ns =>
          cases h3
          have ew := rp.ints
          subst ew
          intro pins s σ us I rv
          rw [Vals.ref1 rv]
          obtain ⟨its, rI, hT, _⟩ := I.tuple hp
          obtain ⟨as, ra⟩ := Dp.readsAll I _ _ _ (rp.dps (pures_ints (n :: ns))) rI
          rw [pys_ints, List.map_cons] at ra
          refine PySem.W.min_tuple_data (I.ok.hd hc) hT (by simpa using ra) (alike_ints (n :: ns)) (by have := depth_ints (n :: ns); rw [List.map_cons] at this; omega) fun i v h' tk bs hv hr hk => ?_
          rw [PySem.W.minD_ints] at hr
          cases hr
          exact ⟨.int _, H, I.kept hk, ⟨_, rfl⟩, S.here k (.int _)⟩
  · rename_i ys
    cases h2 : intsD ys with
    | none => rw [h2] at e; cases e
    | some ns =>
      rw [h2] at e
      have e1 : ((minI ns).map D.int) = some d := e
      cases h3 : minI ns with
      | none => rw [h3] at e1; cases e1
      | some m =>
        rw [h3] at e1
        cases e1
        obtain ⟨v, rfl, h⟩ := one r
        obtain ⟨p, ws, rfl, hp, rp⟩ := h.lstI
        have e2 := intsD_map h2
        subst e2
        have e3 := rp.ints
        subst e3
        exact CallR.sm (cr_min hc) ⟨p, ns, rfl, .inl (.inl hp), minI_pos h3, fun m' a b => by rw [min_one h3 a b]; exact S.here k (.int _)⟩
  · rename_i ys
    cases h2 : intsD ys with
    | none => rw [h2] at e; cases e
    | some ns =>
      rw [h2] at e
      have e1 : ((maxI ns).map D.int) = some d := e
      cases h3 : maxI ns with
      | none => rw [h3] at e1; cases e1
      | some m =>
        rw [h3] at e1
        cases e1
        obtain ⟨v, rfl, h⟩ := one r
        obtain ⟨p, ws, rfl, hp, rp⟩ := h.tupI
        have e2 := intsD_map h2
        subst e2
        cases ns with
        | nil => cases h3
        | cons n ns =>
          cases h3
          have ew := rp.ints
          subst ew
          intro pins s σ us I rv
          rw [Vals.ref1 rv]
          obtain ⟨its, rI, hT, _⟩ := I.tuple hp
          obtain ⟨as, ra⟩ := Dp.readsAll I _ _ _ (rp.dps (pures_ints (n :: ns))) rI
          rw [pys_ints, List.map_cons] at ra
          refine PySem.W.max_tuple_data (I.ok.hd hc) hT (by simpa using ra) (alike_ints (n :: ns)) (by have := depth_ints (n :: ns); rw [List.map_cons] at this; omega) fun i v h' tk bs hv hr hk => ?_
          rw [PySem.W.maxD_ints] at hr
          cases hr
          exact ⟨.int _, H, I.kept hk, ⟨_, rfl⟩, S.here k (.int _)⟩
  · rename_i ys
    cases h2 : intsD ys with
    | none => rw [h2] at e; cases e
    | some ns =>
      rw [h2] at e
      have e1 : ((maxI ns).map D.int) = some d := e
      cases h3 : maxI ns with
      | none => rw [h3] at e1; cases e1
      | some m =>
        rw [h3] at e1
        cases e1
        obtain ⟨v, rfl, h⟩ := one r
        obtain ⟨p, ws, rfl, hp, rp⟩ := h.lstI
        have e2 := intsD_map h2
        subst e2
        have e3 := rp.ints
        subst e3
        exact CallR.sm (cr_max hc) ⟨p, ns, rfl, .inl (.inl hp), maxI_pos h3, fun m' a b => by rw [max_one h3 a b]; exact S.here k (.int _)⟩
  · cases e
    cases r with
    | cons h t =>
      cases t with
      | cons h2 t =>
        cases t
        obtain rfl := h.intI
        obtain rfl := h2.intI
        exact CallR.sm (call_min2 hc) ⟨_, _, rfl, S.here k (.int _)⟩
  · cases e
    cases r with
    | cons h t =>
      cases t with
      | cons h2 t =>
        cases t
        obtain rfl := h.intI
        obtain rfl := h2.intI
        exact CallR.sm (call_max2 hc) ⟨_, _, rfl, S.here k (.int _)⟩
  · split at e
    · rename_i ok
      cases e
      obtain ⟨v, rfl, h⟩ := one r
      obtain ⟨p, ws, rfl, _⟩ := h.tupI
      exact reprSm hg hu ok ⟨p, rfl⟩ h (S.here k (.str _))
    · cases e
  · split at e
    · rename_i ok
      cases e
      obtain ⟨v, rfl, h⟩ := one r
      obtain ⟨p, ws, rfl, _⟩ := h.lstI
      exact reprSm hg hu ok ⟨p, rfl⟩ h (S.here k (.str _))
    · cases e
  · rename_i ys
    obtain ⟨v, rfl, h⟩ := one r
    obtain ⟨p, ws, rfl, hp, rp⟩ := h.lstI
    unfold sortedD at e
    cases h2 : intsD ys with
    | some ns =>
      rw [h2] at e
      cases e
      have e2 := intsD_map h2
      subst e2
      have e3 := rp.ints
      subst e3
      refine CallR.sm cr_sortedI ⟨p, ns, rfl, .inl (.inl hp), fun ns' q hperm hs hq => ?_⟩
      have e4 : ns' = sortI ns := PySem.W.ksm_same (hperm.trans (sortI_perm ns).symm) hs (sortI_srt ns)
      subst e4
      exact S.newL k (Rps.of_ints _) q hq
    | none =>
      rw [h2] at e
      cases h3 : prsD ys with
      | none => rw [h3] at e; cases e
      | some ps =>
        rw [h3] at e
        dsimp only at e
        split at e
        · rename_i up
          cases e
          obtain ⟨a1, a2⟩ := prs_rel h3 rp
          refine CallR.sm cr_sortedPO ⟨p, ws, prOf H, rfl, .inl (.inl hp), a2, fun ys' q hs hb hq => ?_⟩
          have e4 : ys' = ws := SrtO.stb_uniq (ltP_swo _) hs (by
            have q := upPr_srt up
            rw [← a1] at q
            exact List.pairwise_map.mp q) hb
          subst e4
          exact S.newL k rp q hq
        · cases e
  · rename_i ys
    cases h2 : blsD ys with
    | none => rw [h2] at e; cases e
    | some ns =>
      rw [h2] at e
      cases e
      obtain ⟨v, rfl, h⟩ := one r
      obtain ⟨p, ws, rfl, hp, rp⟩ := h.lstI
      have e2 := blsD_map h2
      subst e2
      have e3 := rp.bls'
      subst e3
      exact CallR.sm (cr_all hc) ⟨p, ns, rfl, .inl (.inl hp), S.here k (.bl _)⟩
  · rename_i ys
    cases h2 : blsD ys with
    | none => rw [h2] at e; cases e
    | some ns =>
      rw [h2] at e
      cases e
      obtain ⟨v, rfl, h⟩ := one r
      obtain ⟨p, ws, rfl, hp, rp⟩ := h.lstI
      have e2 := blsD_map h2
      subst e2
      have e3 := rp.bls'
      subst e3
      exact CallR.sm (cr_any hc) ⟨p, ns, rfl, .inl (.inl hp), S.here k (.bl _)⟩
  · cases e
    obtain ⟨v, rfl, h⟩ := one r
    obtain rfl := h.intI
    exact CallR.sm call_abs ⟨_, rfl, S.here k (.int _)⟩
  · cases e
/-- isinstance -/
def Ty.nm : Ty → String
  | .int => "int" | .bool => "bool" | .tuple => "tuple" | .str => "str"
theorem cr_isi {T : Ty} {d : D} {b : Bool} {v : V} (e : isiD T d = some b) (r : Pk X.K fa O H v d) (hf : d ≠ .fd) (k : Q (.bl b) H) : SmC X (.builtin "isinstance") [v, .ty T.nm] H Q := by
  have ty : ∃ t, TyX X.K H v (.type t) ∧ kitB t T.nm = some b := by
    rcases r with r | ⟨a, vs, ds, rfl, rfl, _, e3, _⟩
    · cases r with
      | non => exact ⟨_, .base .non, by cases T <;> cases e <;> first | (show kitB _ _ = some true; decide +kernel) | (show kitB _ _ = some false; decide +kernel)⟩
      | bl x => exact ⟨_, .base (.bl x), by cases T <;> cases e <;> first | (show kitB _ _ = some true; decide +kernel) | (show kitB _ _ = some false; decide +kernel)⟩
      | int x => exact ⟨_, .base (.int x), by cases T <;> cases e <;> first | (show kitB _ _ = some true; decide +kernel) | (show kitB _ _ = some false; decide +kernel)⟩
      | str x => exact ⟨_, .base (.str x), by cases T <;> cases e <;> first | (show kitB _ _ = some true; decide +kernel) | (show kitB _ _ = some false; decide +kernel)⟩
      | tup h n rr => exact ⟨_, .base (.tup h), by cases T <;> cases e <;> first | (show kitB _ _ = some true; decide +kernel) | (show kitB _ _ = some false; decide +kernel)⟩
      | lst h n rr => exact ⟨_, .base (.lst h), by cases T <;> cases e <;> first | (show kitB _ _ = some true; decide +kernel) | (show kitB _ _ = some false; decide +kernel)⟩
      | fd => exact absurd rfl hf
    · exact ⟨_, .base (.lst e3), by cases T <;> cases e <;> first | (show kitB _ _ = some true; decide +kernel) | (show kitB _ _ = some false; decide +kernel)⟩
  obtain ⟨t, ty, kb⟩ := ty
  exact CallR.sm call_isi ⟨v, .ty T.nm, .type t, .type T.nm, b, rfl, (by cases T <;> first | exact .ty | constructor), ty, kit_ty kb, k⟩
end
end TH
/-! What is walked. -/
namespace PySem
open Sem (wp)
open AutoSeq1 (wpAny_loadPart')
set_option maxHeartbeats 1000000 in
theorem enumNew1 {v : Value} {ob : Obj} {G : Heap → Prop} (B : Begins v ob G) :
    Meets (Builtin.«enumerate.__new__» ⟨[.type "enumerate", v], []⟩) (fun _ R s => G s.heap ∧
      R (.ok (.ret (.ref (s.heap.push ob).objs.size))) { s with heap := (s.heap.push ob).push { cls := .type "enumerate", data := .fields #[.none, .bool false, .ref s.heap.objs.size, rawInt 0, .none, .none] } }) :=
  .of_wp fun prog w A R s h => by
    obtain ⟨hp, gn, dr, tk, os⟩ := s
    obtain ⟨hG, hR⟩ := h
    have hs := sub_enumerate
    have it : ∀ {A' : Around} {E : Value → Shared → Prop} {Q : Value → Shared → Prop}, Q (.ref hp.objs.size) ⟨hp.push ob, gn, dr, tk, os⟩ → wpAny (model prog w) A' (pyIter v) Q E ⟨hp, gn, dr, tk, os⟩ :=
      fun q => B.iter prog w _ _ ⟨hp, gn, dr, tk, os⟩ _ hG q
    wp_walk using it
    refine wpAny_stack_any fun st => wpAny_pure ?_
    split
    · rename_i c _ _ _ _ _
      cases (c == Value.type "enumerate") <;> (wp_walk using it; exact ⟨_, rfl, hR⟩)
    · wp_walk using it
      exact ⟨_, rfl, hR⟩
theorem enumCall1 {prog : Program} {w : World} {A : Around} {E : Value → Shared → Prop} {s : Shared} {v : Value} {ob : Obj} {G : Heap → Prop} {Q : Value → Shared → Prop} (B : Begins v ob G) (hG : G s.heap)
    (h : ∀ h', IsEnum h' (s.heap.objs.size + 1) s.heap.objs.size 0 .none → h'.get? s.heap.objs.size = some ob → h'.objs.size = s.heap.objs.size + 2 → (∀ b o, s.heap.get? b = some o → h'.get? b = some o) → Q (.ref (s.heap.objs.size + 1)) { s with heap := h' }) :
    wpAny (model prog w) A (call (.type "enumerate") [v]) Q E s := by
  refine callType_new F.called_enumerate (by decide) (F.typeCall_enumerate_1 _) (F.newCall_enumerate_1 _) (fun obj => F.args_object_init_2 obj _) F.entry_enumerate_new (enumNew1 B) ⟨hG, ?_⟩
  have z1 : (s.heap.push ob).objs.size = s.heap.objs.size + 1 := Heap.size_push ..
  show _ ∧ _
  rw [z1]
  have e1 : IsEnum ((s.heap.push ob).push { cls := .type "enumerate", data := .fields #[.none, .bool false, .ref s.heap.objs.size, rawInt 0, .none, .none] }) (s.heap.objs.size + 1) s.heap.objs.size 0 .none := by
    have q := Heap.get?_push_size (s.heap.push ob) (o := { cls := .type "enumerate", data := .fields #[.none, .bool false, .ref s.heap.objs.size, rawInt 0, .none, .none] }) rfl
    rw [z1] at q
    exact q
  exact ⟨⟨_, e1, rfl⟩, h _ e1 (Heap.get?_push_of_some _ (Heap.get?_push_size _ B.free)) (by rw [Heap.size_push, z1]) fun b o x => Heap.get?_push_of_some _ (Heap.get?_push_of_some _ x)⟩
theorem enumT_end {prog : Program} {w : World} {A : Around} {E : Value → Shared → Prop} {s : Shared} {e it l : Addr} {i : Nat} {k : Int} {items : Array Value} {old : Value} {Q : Option Value → Shared → Prop} (hh : A.handled = none)
    (he : IsEnum s.heap e it k old) (hit : s.heap.IsTupleIter it l i) (hl : s.heap.IsTuple l items) (hx : items[i]? = none) (hQ : ∀ h', Heap.ExtBut it s.heap h' → Q none { s with heap := h' }) : wpAny (model prog w) A (pyNext (.ref e)) Q E s := by
  have ty : s.TypeIs (.ref e) "enumerate" := ⟨_, he, rfl⟩
  unfold pyNext
  refine wpAny_bind (wpAny_attempt (wpAny_callSpecial?_slot (name := Str.ofString "__next__") ty F.slot_enumerate_next (wpAny_call_entry F.slot_enumerate_next ty F.entry_enumerate_next ?_ (F.args_enumerate_next_1 _))))
  show wpAny _ _ (field (.ref e) 2 >>= fun _ => _) _ _ _
  refine wpAny_bind (wpAny_field he rfl (x := Value.ref it) rfl ?_)
  refine wpAny_bind (wpAny_nextOf_tuple_end (A := A.in1) hh hit hl hx fun h1 x x1 x2 => ?_)
  obtain ⟨ob, hob, hcl⟩ := x2
  refine wpAny_bind (wpAny_isInstance (T := "StopIteration") (b := true) ⟨ob, hob, hcl⟩ isSubtype_stop ?_)
  exact wpAny_pure (hQ h1 x1)
end PySem
namespace TH
open PySem PySem.Spec PyProof.Rows L2
/-- enumerate of the tuple at a -/
def IteT (K : PySem.W.Frag) (a : Addr) : It :=
  ⟨fun i H => ∃ (xs : List V) (x : V), SqT K H a xs ∧ xs[i]? = some x, fun i H v H' => ∃ T x, v = .ref T ∧ H T = none ∧ H' = upd H T (.tup [.int (i : Nat), x]) ∧ ∀ xs, SqT K H a xs → xs[i]? = some x, fun i H => ∃ xs : List V, SqT K H a xs ∧ xs.length ≤ i⟩
theorem turn_et {P : Program} {w : World} {K : PySem.W.Frag} {elts : List Expr} {kk : Nat} {tpos : Pos} (a e it : Addr) :
    Turn P w K (.Tuple elts kk tpos) (IteT K a) [e, it] e (fun i h => (∃ old, IsEnum h e it ((i : Nat) : Int) old) ∧ h.IsTupleIter it a i ∧ e ≠ it ∧ e ≠ a ∧ a ≠ it) where
  mem := List.mem_cons_self
  obj := fun i h st b hb => by
    obtain ⟨⟨old, he⟩, ⟨o, ho, hc, hd⟩, _⟩ := st
    rcases List.mem_cons.mp hb with z | z
    · rw [z]; exact ⟨_, he, fun v q => nomatch q⟩
    · rw [List.mem_singleton.mp z]; exact ⟨o, ho, fun v q => by rw [hd] at q; cases q⟩
  keep := fun i h h' st kp => by
    obtain ⟨⟨old, he⟩, hi, n1, n2, n3⟩ := st
    exact ⟨⟨old, kp e (by simp) _ he⟩, hi.at fun o q => kp it (by simp) o q, n1, n2, n3⟩
  item := by
    intro X hP hw hK hc i pins s σ H E I hf st hg
    subst hP hw hK
    obtain ⟨⟨old, he⟩, hit, n1, n2, n3⟩ := st
    obtain ⟨xs, x, hq, hx⟩ := hg
    obtain ⟨its, rv, hT, hz⟩ := I.tuple hq
    obtain ⟨u, hu, ru⟩ := rv.get hx
    have hlt : i < its.toArray.size := by
      have := (List.getElem?_eq_some_iff.mp hu).1
      simpa using this
    have hel : e < s.heap.objs.size := Heap.lt_size he
    have hil : it < s.heap.objs.size := by obtain ⟨_, q, _⟩ := hit; exact Heap.lt_size q
    have hT' : s.heap.IsTuple a its.toArray := hT
    refine wpAny_pyNext_enum_itemD (Draws.tuple (A := X.A.in1) (I.ok.hd hc) it a n3 its.toArray) he ⟨hit, hT'⟩ hlt n1 (by simp [n1, n2]) fun y h' tk hy ho hst hTn hsz hk => ?_
    have ey : y = u := by
      have hy' : its.toArray[i]? = some y := hy
      have : its[i]? = some y := by simpa using hy'
      rw [hu] at this
      exact (Option.some.inj this).symm
    subst ey
    refine ⟨_, rfl, wpAny_letOwnedTupleGo_enum (s := { s with heap := h', toks := tk + 1 }) ho fun h'' he' sb => ?_⟩
    have hT2 : h''.get? s.heap.objs.size = some { cls := .type "tuple", data := .seq #[.int i tk, y] } := (sb.2 _ (Nat.ne_of_gt hel)).trans hTn
    have new : ObjOk X.prog X.w (upd H s.heap.objs.size (.tup [.int (i : Nat), x])) h'' s.heap.objs.size (.tup [.int (i : Nat), x]) :=
      ⟨by show 2 ≤ sizeLine; decide, [.int i tk, y], .cons ⟨_, rfl⟩ (.cons ru .nil), ⟨_, hT2, rfl, _, rfl⟩⟩
    have I1 : Inv X pins σ (upd H s.heap.objs.size (.tup [.int (i : Nat), x])) { s with heap := h'', toks := tk + 1 } :=
      I.turnedNew (ch := [e, it]) (fun b ob hb q => (sb.2 b (fun z => hb (by simp [z]))).trans (hk b ob (fun z => hb (by simp [z])) (fun z => hb (by simp [z])) q)) hf (Nat.le_refl _) new
    refine ⟨.ref s.heap.objs.size, _, I1, rfl, ⟨_, x, rfl, I.hok.fresh (Nat.le_refl _), rfl, fun ys hy => by rw [I.tuple_inj hy hq]; exact hx⟩, ⟨⟨y, ?_⟩, hst.1.at fun o q => (sb.2 it (Ne.symm n1)).trans q, n1, n2, n3⟩, fun b hb => ?_⟩
    · have e1 : ((i + 1 : Nat) : Int) = (i : Int) + 1 := by omega
      rw [e1]; exact he'
    · have hb' : b < s.heap.objs.size := by
        rcases List.mem_cons.mp hb with z | z
        · rw [z]; exact hel
        · rw [List.mem_singleton.mp z]; exact hil
      rw [upd_ne (Nat.ne_of_lt hb')]
      exact (hf b hb).1
  done := by
    intro X hP hw hK hc i pins s σ H E I hf st hg
    subst hP hw hK
    obtain ⟨⟨old, he⟩, hit, n1, n2, n3⟩ := st
    obtain ⟨xs, hq, hx⟩ := hg
    obtain ⟨its, rv, hT, hz⟩ := I.tuple hq
    have hT' : s.heap.IsTuple a its.toArray := hT
    have hl := rv.length
    obtain ⟨f0, f1, f2, f3, f4, f5⟩ := hf it (by simp)
    refine enumT_end (I.ok.hd hc) he hit hT' (by simp; omega) fun h' eb => ⟨rfl, I.turned (t' := s.toks) (fun b o hb q => eb b o hb q) f0 f1 f3 f4 f5⟩
  self := fun A i s Q E st h => let ⟨⟨_, he⟩, _⟩ := st; wpAny_pyIter_enum he h
end TH
section
set_option maxHeartbeats 1000000
/-! zip of a list and a tuple. -/
namespace TZ
open PySem PySem.Spec PyProof.Rows L2 RZ
/-- a row of values: true a list's, false a tuple's -/
abbrev SqB (k : Bool) (K : PySem.W.Frag) (H : Hp) (a : Addr) (xs : List V) : Prop := match k with
  | true => SqL K H a xs
  | false => SqT K H a xs
/-- its object, its iterator, how that begins -/
abbrev RowB (k : Bool) (h : Heap) (a : Addr) (us : Array Value) : Prop := match k with
  | true => h.IsList a us
  | false => h.IsTuple a us
abbrev IterB (k : Bool) (h : Heap) (it a : Addr) (i : Nat) : Prop := match k with
  | true => h.IsListIter it a i
  | false => h.IsTupleIter it a i
abbrev newB (k : Bool) (a : Addr) : Obj := match k with
  | true => { cls := .type "list_iterator", data := .fields #[.ref a, .int 0 0] }
  | false => { cls := .type "tuple_iterator", data := .fields #[.ref a, .int 0 0] }
section
variable {P : Program} {w : World} {A : Around} {X : Cx} {pins : List (Addr × Obj)} {σ : L2.St} {H : Hp} {s : Shared} {h : Heap} {a b it : Addr} {xs : List V} {us : Array Value}
theorem rowB (k : Bool) (I : Inv X pins σ H s) (q : SqB k X.K H a xs) : ∃ its : List Value, Vals xs its ∧ RowB k s.heap a its.toArray := by
  cases k with
  | true => obtain ⟨its, r, p, _⟩ := I.list q; exact ⟨its, r, p.isList⟩
  | false => obtain ⟨its, r, p, _⟩ := I.tuple q; exact ⟨its, r, p⟩
theorem injB (k : Bool) (I : Inv X pins σ H s) {ys : List V} (q : SqB k X.K H a xs) (q' : SqB k X.K H a ys) : xs = ys := by
  cases k with
  | true => exact I.list_inj q q'
  | false => exact I.tuple_inj q q'
theorem rowB_lt (k : Bool) (p : RowB k h a us) : a < h.objs.size := by
  cases k with
  | true => obtain ⟨o, e, _⟩ := id p; exact Heap.lt_size e
  | false => obtain ⟨o, e, _⟩ := id p; exact Heap.lt_size e
theorem iterB_at (k : Bool) {i : Nat} (p : IterB k h it a i) : ∃ o, h.get? it = some o ∧ ∀ v, o.data ≠ .cell v := by
  cases k with
  | true => obtain ⟨o, e, _, d⟩ := id p; exact ⟨o, e, fun v q => by rw [d] at q; cases q⟩
  | false => obtain ⟨o, e, _, d⟩ := id p; exact ⟨o, e, fun v q => by rw [d] at q; cases q⟩
theorem iterB_keep (k : Bool) {i : Nat} {h' : Heap} (p : IterB k h it a i) (g : ∀ o, h.get? it = some o → h'.get? it = some o) : IterB k h' it a i := by
  cases k with
  | true => exact Heap.IsListIter.at p g
  | false => exact Heap.IsTupleIter.at p g
theorem drawB (k : Bool) (hh : A.handled = none) (ne : a ≠ it) : Draws P w A it [it, a] us.size (fun i v => us[i]? = some v) (fun i h => IterB k h it a i ∧ RowB k h a us) := by
  cases k with
  | true => exact Draws.list hh it a ne us
  | false => exact Draws.tuple hh it a ne us
theorem beginB (k : Bool) : Begins (.ref a) (newB k a) fun h => RowB k h a us := by
  cases k with
  | true => exact begins_list a us
  | false => exact begins_tuple a us
theorem iterB_new (k : Bool) (e : h.get? it = some (newB k a)) : IterB k h it a 0 := by
  cases k with
  | true => exact ⟨_, e, rfl, rfl⟩
  | false => exact ⟨_, e, rfl, rfl⟩
end
/-- the rows at a and b as they stand at each turn, what they draw in a new pair -/
def ItB (k l : Bool) (K : PySem.W.Frag) (a b : Addr) : It :=
  ⟨fun i H => ∃ (xs ys : List V) (x y : V), SqB k K H a xs ∧ SqB l K H b ys ∧ xs[i]? = some x ∧ ys[i]? = some y,
    fun i H v H' => ∃ T x y, v = .ref T ∧ H T = none ∧ H' = upd H T (.tup [x, y]) ∧ (∀ xs, SqB k K H a xs → xs[i]? = some x) ∧ ∀ ys, SqB l K H b ys → ys[i]? = some y,
    fun i H => ∃ xs ys : List V, SqB k K H a xs ∧ SqB l K H b ys ∧ i ≤ xs.length ∧ i ≤ ys.length ∧ (xs.length ≤ i ∨ ys.length ≤ i)⟩
/-- the five cells of a zip, i turns on -/
def ZipN (k l : Bool) (z u v j1 j2 a b : Addr) (i : Nat) (h : Heap) : Prop :=
  IsZip h z u v .none ∧ IsTupOf2 h u (.ref j1) (.ref j2) ∧ (∃ x y, IsTupOf2 h v x y) ∧ IterB k h j1 a i ∧ IterB l h j2 b i
abbrev five (z u v j1 j2 : Addr) : List Addr := [z, u, v, j1, j2]
theorem five_mem {z u v j1 j2 c : Addr} (h : c ∈ five z u v j1 j2) : c = z ∨ c = u ∨ c = v ∨ c = j1 ∨ c = j2 := by simpa using h
theorem five_off {z u v j1 j2 c : Addr} (h : c ∉ five z u v j1 j2) : c ≠ z ∧ c ≠ v ∧ c ≠ j1 ∧ c ≠ j2 := by
  refine ⟨?_, ?_, ?_, ?_⟩ <;> intro e <;> exact h (by simp [e])
theorem ZipN.lt {k l : Bool} {z u v j1 j2 a b : Addr} {i : Nat} {h : Heap} (q : ZipN k l z u v j1 j2 a b i h) : ∀ c ∈ five z u v j1 j2, ∃ o, h.get? c = some o ∧ ∀ y, o.data ≠ .cell y := by
  obtain ⟨q1, q2, ⟨x, y, q3⟩, q4, q5⟩ := q
  intro c hc
  rcases five_mem hc with rfl | rfl | rfl | rfl | rfl
  · exact ⟨_, q1, fun _ e => nomatch e⟩
  · exact ⟨_, q2, fun _ e => nomatch e⟩
  · exact ⟨_, q3, fun _ e => nomatch e⟩
  · exact iterB_at k q4
  · exact iterB_at l q5
theorem turnB {k l : Bool} {P : Program} {w : World} {K : PySem.W.Frag} {elts : List Expr} {kk : Nat} {tpos : Pos} {a b z u v j1 j2 : Addr} (D : ZipSep2 z u v j1 j2 [j1, a] [j2, b]) (n1 : a ≠ j1) (n2 : b ≠ j2) :
    Turn P w K (.Tuple elts kk tpos) (ItB k l K a b) (five z u v j1 j2) z (ZipN k l z u v j1 j2 a b) where
  mem := List.mem_cons_self ..
  obj := fun _ _ q c hc => q.lt c hc
  keep := fun i h h' q g => by
    obtain ⟨q1, q2, ⟨x, y, q3⟩, q4, q5⟩ := q
    have g' := fun c (hc : c ∈ five z u v j1 j2) => g c hc
    exact ⟨g' z (by simp) _ q1, g' u (by simp) _ q2, ⟨x, y, g' v (by simp) _ q3⟩, iterB_keep k q4 (g' j1 (by simp)), iterB_keep l q5 (g' j2 (by simp))⟩
  item := by
    rintro X rfl rfl rfl hc i pins s σ H E I hf q ⟨xs, ys, x, y, ra, rb, ex, ey⟩
    have cells := q.lt
    obtain ⟨q1, q2, ⟨x0, y0, q3⟩, q4, q5⟩ := q
    obtain ⟨ia, va, pa⟩ := rowB k I ra
    obtain ⟨ib, vb, pb⟩ := rowB l I rb
    obtain ⟨ux, gx, rx⟩ := va.get ex
    obtain ⟨uy, gy, ry⟩ := vb.get ey
    have hh : X.A.in1.handled = none := I.ok.hd hc
    have la : i < ia.toArray.size := by
      have := (List.getElem?_eq_some_iff.mp gx).1
      simpa using this
    have lb : i < ib.toArray.size := by
      have := (List.getElem?_eq_some_iff.mp gy).1
      simpa using this
    refine wpAny_pyNext_zipD2_item D (drawB k hh n1) (drawB l hh n2) q1 q2 q3 ⟨q4, pa⟩ ⟨q5, pb⟩ la lb fun x1 x2 h' tk y1 y2 z' v' t1 t2 hT hsz keep => ?_
    have e1 : x1 = ux := by
      have : ia.toArray[i]? = some x1 := y1
      rw [List.getElem?_toArray, gx] at this
      exact (Option.some.inj this).symm
    have e2 : x2 = uy := by
      have : ib.toArray[i]? = some x2 := y2
      rw [List.getElem?_toArray, gy] at this
      exact (Option.some.inj this).symm
    subst e1 e2
    have zl : z < s.heap.objs.size := Heap.lt_size q1
    refine ⟨_, rfl, wpAny_letOwnedTupleGo_zip (s := { s with heap := h', toks := tk }) z' fun h2 z2 sb => ?_⟩
    have same : ∀ c o, c ≠ z → h'.get? c = some o → h2.get? c = some o := fun c o ne e => (sb.2 c ne).trans e
    have on : ∀ c o, c ∉ five z u v j1 j2 → s.heap.get? c = some o → h2.get? c = some o := fun c o off e => by
      obtain ⟨o1, o2, o3, o4⟩ := five_off off
      exact same c o o1 (keep c o o1 o2 o3 o4 e)
    have made : h2.get? s.heap.objs.size = some { cls := .type "tuple", data := .seq #[x1, x2] } := same _ _ (Nat.ne_of_gt zl) hT
    have ok : ObjOk X.prog X.w (upd H s.heap.objs.size (.tup [x, y])) h2 s.heap.objs.size (.tup [x, y]) :=
      ⟨(by decide : 2 ≤ sizeLine), [x1, x2], .cons rx (.cons ry .nil), ⟨_, made, rfl, _, rfl⟩⟩
    refine ⟨.ref s.heap.objs.size, _, I.turnedNew (t' := tk) on hf (Nat.le_refl _) ok, rfl, ⟨_, x, y, rfl, I.hok.fresh (Nat.le_refl _), rfl, fun zs r => ?_, fun zs r => ?_⟩, ⟨z2, ?_, ⟨x1, x2, ?_⟩, ?_, ?_⟩, fun c hm => ?_⟩
    · rw [injB k I r ra]; exact ex
    · rw [injB l I r rb]; exact ey
    · exact same _ _ D.TIz (keep _ _ D.TIz D.TITO D.TIi1 D.TIi2 q2)
    · exact same _ _ D.TOz v'
    · exact iterB_keep k t1.1 fun o e => same _ _ D.zi1.symm e
    · exact iterB_keep l t2.1 fun o e => same _ _ D.zi2.symm e
    · obtain ⟨o, e, _⟩ := cells c hm
      rw [upd_ne (Nat.ne_of_lt (Heap.lt_size e))]
      exact (hf c hm).1
  done := by
    rintro X rfl rfl rfl hc i pins s σ H E I hf ⟨q1, q2, ⟨x0, y0, q3⟩, q4, q5⟩ ⟨xs, ys, ra, rb, l1, l2, en⟩
    obtain ⟨ia, va, pa⟩ := rowB k I ra
    obtain ⟨ib, vb, pb⟩ := rowB l I rb
    have hh : X.A.in1.handled = none := I.ok.hd hc
    have ea := va.length
    have eb := vb.length
    refine wpAny_pyNext_zipD2_end D (drawB k hh n1) (drawB l hh n2) q1 q2 q3 ⟨q4, pa⟩ ⟨q5, pb⟩ (by rw [List.size_toArray]; omega) (by rw [List.size_toArray]; omega) (by rw [List.size_toArray, List.size_toArray]; omega) fun h' tk keep => ⟨rfl, ?_⟩
    refine I.turnedL (t' := tk) (fun c o off e => ?_) hf
    obtain ⟨o1, o2, o3, o4⟩ := five_off off
    exact keep c o o1 o2 o3 o4 e
  self := fun _ _ _ _ _ q r => wpAny_pyIter_zip q.1 r
theorem pi_zipB (k l : Bool) {X : Cx} {e e2 : Expr} {ta : TA} {p pos tpos : Pos} {elts : List Expr} {kk : Nat} (hg : Gl X "zip") (hm : X.mg "zip" = none) (ha : PA X [e, e2] ta)
    (hs : starEach [e, e2] X.env = (false, eval e X.env) :: starEach [e2] X.env) (hpl : (backTo pos (starEach [e2] X.env)).any (·.1) = false) :
    PI X (.Tuple elts kk tpos) (.Call (.Name "zip" p) [e, e2] [] pos) (fun σ H R => ta σ H fun vs H1 => ∃ a b xs ys, vs = [.ref a, .ref b] ∧ SqB k X.K H1 a xs ∧ SqB l X.K H1 b ys ∧ R (ItB k l X.K a b) H1) := by
  refine ⟨fun pins s σ H R I h => ?_⟩
  refine Call_ (ld_blt I hg hm PyProof.Rows.boot_zip (PyProof.Rows.callWith_type1 (thn (ha.run pos pins s σ H _ I h) fun us s1 z => ?_) hs hpl))
  obtain ⟨vs, H1, I1, r1, a, b, xs, ys, rfl, ra, rb, q⟩ := z
  obtain ⟨u1, us, rfl, c1, r1⟩ : ∃ u us', us = u :: us' ∧ RelV (.ref a) u ∧ Vals [.ref b] us' := by cases r1 with | cons r rr => exact ⟨_, _, rfl, r, rr⟩
  obtain ⟨u2, rfl, c2⟩ := vals1 r1
  obtain rfl : u1 = Value.ref a := c1
  obtain rfl : u2 = Value.ref b := c2
  obtain ⟨ia, va, pa⟩ := rowB k I1 ra
  obtain ⟨ib, vb, pb⟩ := rowB l I1 rb
  have la := rowB_lt k pa
  have lb := rowB_lt l pb
  refine zip_begins2 (beginB k) (beginB l) pa pb fun h' z1 z2 z3 z4 z5 sz keep => wpAny_pyIter_zip z1 ?_
  refine ⟨_, _, _, _, H1, rfl, I1.kept (t' := s1.toks) keep, turnB (zip_sep2 (fp1 := [a]) (fp2 := [b]) (fun c hc => by rw [List.mem_singleton.mp hc]; exact la) fun c hc => by rw [List.mem_singleton.mp hc]; exact lb) (Nat.ne_of_lt la) (Nat.ne_of_lt (Nat.lt_succ_of_lt lb)), ⟨z1, z2, ⟨_, _, z3⟩, iterB_new k z4, iterB_new l z5⟩, fun c hc => ?_, q⟩
  have le : s1.heap.objs.size ≤ c := by rcases five_mem hc with rfl | rfl | rfl | rfl | rfl <;> omega
  exact I1.fpOk le (I1.hok.fresh le)
abbrev ItLT := ItB true false
abbrev ItTL := ItB false true
section
variable {X : Cx} {e e2 : Expr} {ta : TA} {p pos tpos : Pos} {elts : List Expr} {kk : Nat}
theorem pi_LT (hg : Gl X "zip") (hm : X.mg "zip" = none) (ha : PA X [e, e2] ta) (hs : starEach [e, e2] X.env = (false, eval e X.env) :: starEach [e2] X.env) (hpl : (backTo pos (starEach [e2] X.env)).any (·.1) = false) :
    PI X (.Tuple elts kk tpos) (.Call (.Name "zip" p) [e, e2] [] pos) (fun σ H R => ta σ H fun vs H1 => ∃ a b xs ys, vs = [.ref a, .ref b] ∧ SqL X.K H1 a xs ∧ SqT X.K H1 b ys ∧ R (ItLT X.K a b) H1) := pi_zipB true false hg hm ha hs hpl
theorem pi_TL (hg : Gl X "zip") (hm : X.mg "zip" = none) (ha : PA X [e, e2] ta) (hs : starEach [e, e2] X.env = (false, eval e X.env) :: starEach [e2] X.env) (hpl : (backTo pos (starEach [e2] X.env)).any (·.1) = false) :
    PI X (.Tuple elts kk tpos) (.Call (.Name "zip" p) [e, e2] [] pos) (fun σ H R => ta σ H fun vs H1 => ∃ a b xs ys, vs = [.ref a, .ref b] ∧ SqT X.K H1 a xs ∧ SqL X.K H1 b ys ∧ R (ItTL X.K a b) H1) := pi_zipB false true hg hm ha hs hpl
end
end TZ
end
/-! Walks over data; comprehensions. -/
namespace TH
open PySem PySem.Spec PyProof.Rows L2 RZ
/-- J walks over the items, from H1 on -/
def WkOk (K : PySem.W.Frag) (fa : Addr) (O : Os) (H1 : Hp) (J : It) (items : List D) : Prop :=
  ∃ (G : Hp → Prop) (Y : Nat → Hp → V → Hp → Prop), Walk J items.length G Y ∧ (∀ H, Go O H1 H → G H) ∧
    ∀ (O' : Os) (i : Nat) (H : Hp) (x : V) (H' : Hp) (d : D), (∀ a o [NT o], H1 a = some o → O' a → O a) → (∀ a, O' a → ∃ o, NT o ∧ H a = some o) → Go O H1 H → items[i]? = some d → Y i H x H' →
      (H' = H ∨ ∃ T xs, H T = none ∧ H' = upd H T (.tup xs)) ∧ Rp K fa O' H' x d
section
variable {K : PySem.W.Frag} {fa : Addr} {O : Os} {H1 : Hp} {a b : Addr} {vs ws : List V} {ds es : List D}
theorem rp_later {O' : Os} {H : Hp} {v : V} {d : D} (k : ∀ a o [NT o], H1 a = some o → O' a → O a) (g : Go O H1 H) (r : Rp K fa O H1 v d) : Rp K fa O' H v d :=
  r.mv fun a o _ e n => ⟨g a o e n, fun z => n (k a _ e z)⟩
theorem wk_list (h : H1 a = some (.lst vs)) (n : ¬ O a) (r : Rps K fa O H1 vs ds) : WkOk K fa O H1 (Itl K a) ds := by
  refine ⟨fun H => SqL K H a vs, YAt vs, by rw [← r.length]; exact walk_list (K := K) (a := a) (xs := vs), fun H g => .inl (.inl (g a _ h n)), fun O' i H x H' d k hn g e y => ?_⟩
  obtain ⟨rfl, ex⟩ := y
  obtain ⟨v, ev, rv⟩ := r.get e
  rw [ex] at ev
  cases ev
  exact ⟨.inl rfl, rp_later k g rv⟩
theorem wk_tup (h : H1 a = some (.tup vs)) (n : ¬ O a) (r : Rps K fa O H1 vs ds) : WkOk K fa O H1 (Itt K a) ds := by
  refine ⟨fun H => SqT K H a vs, YAt vs, by rw [← r.length]; exact walk_tup (K := K) (a := a) (xs := vs), fun H g => .inl (.inl (g a _ h n)), fun O' i H x H' d k hn g e y => ?_⟩
  obtain ⟨rfl, ex⟩ := y
  obtain ⟨v, ev, rv⟩ := r.get e
  rw [ex] at ev
  cases ev
  exact ⟨.inl rfl, rp_later k g rv⟩
theorem wk_rng {lo : Int} {n : Nat} : WkOk K fa O H1 (Itr lo n) ((List.range n).map fun i => D.int (lo + (i : Nat))) := by
  refine ⟨_, _, by rw [List.length_map, List.length_range]; exact walk_range (lo := lo) (n := n), fun _ _ => trivial, fun O' i H x H' d k hn g e y => ?_⟩
  obtain ⟨rfl, rfl⟩ := y
  rw [List.getElem?_map] at e
  cases e2 : (List.range n)[i]? with
  | none => rw [e2] at e; cases e
  | some j =>
    rw [e2] at e
    cases e
    obtain ⟨h1, h2⟩ := List.getElem?_eq_some_iff.mp e2
    rw [List.getElem_range] at h2
    subst h2
    exact ⟨.inl rfl, .int _⟩
theorem walk_et : Walk (IteT K a) vs.length (fun H => SqT K H a vs) (YPair (fun i => some (.int (i : Nat))) (fun i => vs[i]?)) := by
  refine ⟨fun i _ hi q => ⟨vs, vs[i], q, by simp [hi]⟩, fun _ q => ⟨vs, q, Nat.le_refl _⟩, fun i H v H' _ q y => ?_⟩
  obtain ⟨T, x, h1, h2, h3, h4⟩ := y
  exact ⟨T, .int (i : Nat), x, h1, h2, h3, rfl, h4 vs q⟩
theorem walk_zt {n : Nat} (hn : n = min vs.length ws.length) : Walk (ItzT K a b) n (fun H => SqT K H a vs ∧ SqT K H b ws) (YPair (fun i => vs[i]?) (fun i => ws[i]?)) := by
  subst hn
  refine ⟨fun i _ hi q => ?_, fun _ q => ⟨vs, ws, q.1, q.2, by omega⟩, fun i H v H' _ q y => ?_⟩
  · have h1 : i < vs.length := by omega
    have h2 : i < ws.length := by omega
    exact ⟨vs, ws, vs[i], ws[i], q.1, q.2, by simp [h1], by simp [h2]⟩
  · obtain ⟨T, x, z, h1, h2, h3, h4, h5⟩ := y
    exact ⟨T, x, z, h1, h2, h3, h4 vs q.1, h5 ws q.2⟩
theorem walk_lt {n : Nat} (hn : n = min vs.length ws.length) : Walk (TZ.ItLT K a b) n (fun H => SqL K H a vs ∧ SqT K H b ws) (YPair (fun i => vs[i]?) (fun i => ws[i]?)) := by
  subst hn
  refine ⟨fun i _ hi q => ?_, fun _ q => ⟨vs, ws, q.1, q.2, by omega⟩, fun i H v H' _ q y => ?_⟩
  · have h1 : i < vs.length := by omega
    have h2 : i < ws.length := by omega
    exact ⟨vs, ws, vs[i], ws[i], q.1, q.2, by simp [h1], by simp [h2]⟩
  · obtain ⟨T, x, z, h1, h2, h3, h4, h5⟩ := y
    exact ⟨T, x, z, h1, h2, h3, h4 vs q.1, h5 ws q.2⟩
theorem walk_tl {n : Nat} (hn : n = min vs.length ws.length) : Walk (TZ.ItTL K a b) n (fun H => SqT K H a vs ∧ SqL K H b ws) (YPair (fun i => vs[i]?) (fun i => ws[i]?)) := by
  subst hn
  refine ⟨fun i _ hi q => ?_, fun _ q => ⟨vs, ws, q.1, q.2, by omega⟩, fun i H v H' _ q y => ?_⟩
  · have h1 : i < vs.length := by omega
    have h2 : i < ws.length := by omega
    exact ⟨vs, ws, vs[i], ws[i], q.1, q.2, by simp [h1], by simp [h2]⟩
  · obtain ⟨T, x, z, h1, h2, h3, h4, h5⟩ := y
    exact ⟨T, x, z, h1, h2, h3, h4 vs q.1, h5 ws q.2⟩
theorem enumD_length (ds : List D) : (enumD ds).length = ds.length := by unfold enumD; simp
theorem enumD_get {i : Nat} {d : D} (e : (enumD ds)[i]? = some d) : ∃ x, ds[i]? = some x ∧ d = .tup [.int (i : Nat), x] := by
  unfold enumD at e
  rw [List.getElem?_zipWith] at e
  cases h1 : (List.range ds.length)[i]? with
  | none => rw [h1] at e; cases e
  | some j =>
    cases h2 : ds[i]? with
    | none => rw [h1, h2] at e; cases e
    | some x =>
      rw [h1, h2] at e
      cases e
      obtain ⟨q1, q2⟩ := List.getElem?_eq_some_iff.mp h1
      rw [List.getElem_range] at q2
      subst q2
      exact ⟨x, rfl, rfl⟩
theorem zipD_length (ds es : List D) : (zipD ds es).length = min ds.length es.length := by unfold zipD; simp
theorem zipD_get {i : Nat} {d : D} (e : (zipD ds es)[i]? = some d) : ∃ x y, ds[i]? = some x ∧ es[i]? = some y ∧ d = .tup [x, y] := by
  unfold zipD at e
  rw [List.getElem?_zipWith] at e
  cases h1 : ds[i]? with
  | none => rw [h1] at e; cases e
  | some x =>
    cases h2 : es[i]? with
    | none => rw [h1, h2] at e; cases e
    | some y => rw [h1, h2] at e; cases e; exact ⟨x, y, rfl, rfl, rfl⟩
/-- a new pair -/
theorem pair_new {O' : Os} {H : Hp} {T : Addr} {x y : V} {dx dy : D} (hn : ∀ a, O' a → ∃ o, NT o ∧ H a = some o) (hT : H T = none) (rx : Rp K fa O' H x dx) (ry : Rp K fa O' H y dy) :
    (upd H T (.tup [x, y]) = H ∨ ∃ T' xs, H T' = none ∧ upd H T (.tup [x, y]) = upd H T' (.tup xs)) ∧ Rp K fa O' (upd H T (.tup [x, y])) (.ref T) (.tup [dx, dy]) := by
  have nT : ¬ O' T := fun z => by
    obtain ⟨u, _, e⟩ := hn T z
    rw [hT] at e; cases e
  have g : Go O' H (upd H T (.tup [x, y])) := fun a o _ e _ => by rw [upd_ne (ne_of_none e hT)]; exact e
  exact ⟨.inr ⟨T, _, hT, rfl⟩, .tup upd_same nT (.cons (rx.go g) (.cons (ry.go g) .nil))⟩
theorem wk_enumL (h : H1 a = some (.lst vs)) (n : ¬ O a) (r : Rps K fa O H1 vs ds) : WkOk K fa O H1 (Ite K a) (enumD ds) := by
  refine ⟨fun H => SqL K H a vs, YPair (fun i => some (.int (i : Nat))) (fun i => vs[i]?), by rw [enumD_length, ← r.length]; exact walk_enum (K := K) (a := a) (xs := vs), fun H g => .inl (.inl (g a _ h n)), fun O' i H x H' d k hn g e y => ?_⟩
  obtain ⟨T, p, q, rfl, hT, rfl, e1, e2⟩ := y
  cases e1
  obtain ⟨z, ez, rfl⟩ := enumD_get e
  obtain ⟨v, ev, rv⟩ := r.get ez
  have e3 : vs[i]? = some q := e2
  rw [e3] at ev
  cases ev
  exact pair_new hn hT (.int _) (rp_later k g rv)
theorem wk_enumT (h : H1 a = some (.tup vs)) (n : ¬ O a) (r : Rps K fa O H1 vs ds) : WkOk K fa O H1 (IteT K a) (enumD ds) := by
  refine ⟨fun H => SqT K H a vs, YPair (fun i => some (.int (i : Nat))) (fun i => vs[i]?), by rw [enumD_length, ← r.length]; exact walk_et (K := K) (a := a) (vs := vs), fun H g => .inl (.inl (g a _ h n)), fun O' i H x H' d k hn g e y => ?_⟩
  obtain ⟨T, p, q, rfl, hT, rfl, e1, e2⟩ := y
  cases e1
  obtain ⟨z, ez, rfl⟩ := enumD_get e
  obtain ⟨v, ev, rv⟩ := r.get ez
  have e3 : vs[i]? = some q := e2
  rw [e3] at ev
  cases ev
  exact pair_new hn hT (.int _) (rp_later k g rv)
theorem wk_zipL (h : H1 a = some (.lst vs)) (n : ¬ O a) (r : Rps K fa O H1 vs ds) (h' : H1 b = some (.lst ws)) (n' : ¬ O b) (r' : Rps K fa O H1 ws es) : WkOk K fa O H1 (Itz K a b) (zipD ds es) := by
  refine ⟨fun H => SqL K H a vs ∧ SqL K H b ws, YPair (fun i => vs[i]?) (fun i => ws[i]?), walk_zip (K := K) (a := a) (b := b) (xs := vs) (ys := ws) (by rw [zipD_length, r.length, r'.length]), fun H g => ⟨.inl (.inl (g a _ h n)), .inl (.inl (g b _ h' n'))⟩, fun O' i H x H' d k hn g e y => ?_⟩
  obtain ⟨T, p, q, rfl, hT, rfl, e1, e2⟩ := y
  obtain ⟨z, u, ez, eu, rfl⟩ := zipD_get e
  obtain ⟨v, ev, rv⟩ := r.get ez
  obtain ⟨v', ev', rv'⟩ := r'.get eu
  have e3 : vs[i]? = some p := e1
  have e4 : ws[i]? = some q := e2
  rw [e3] at ev
  rw [e4] at ev'
  cases ev
  cases ev'
  exact pair_new hn hT (rp_later k g rv) (rp_later k g rv')
theorem wk_zipT (h : H1 a = some (.tup vs)) (n : ¬ O a) (r : Rps K fa O H1 vs ds) (h' : H1 b = some (.tup ws)) (n' : ¬ O b) (r' : Rps K fa O H1 ws es) : WkOk K fa O H1 (ItzT K a b) (zipD ds es) := by
  refine ⟨fun H => SqT K H a vs ∧ SqT K H b ws, YPair (fun i => vs[i]?) (fun i => ws[i]?), walk_zt (K := K) (a := a) (b := b) (vs := vs) (ws := ws) (by rw [zipD_length, r.length, r'.length]), fun H g => ⟨.inl (.inl (g a _ h n)), .inl (.inl (g b _ h' n'))⟩, fun O' i H x H' d k hn g e y => ?_⟩
  obtain ⟨T, p, q, rfl, hT, rfl, e1, e2⟩ := y
  obtain ⟨z, u, ez, eu, rfl⟩ := zipD_get e
  obtain ⟨v, ev, rv⟩ := r.get ez
  obtain ⟨v', ev', rv'⟩ := r'.get eu
  have e3 : vs[i]? = some p := e1
  have e4 : ws[i]? = some q := e2
  rw [e3] at ev
  rw [e4] at ev'
  cases ev
  cases ev'
  exact pair_new hn hT (rp_later k g rv) (rp_later k g rv')
theorem wk_zipLT (h : H1 a = some (.lst vs)) (n : ¬ O a) (r : Rps K fa O H1 vs ds) (h' : H1 b = some (.tup ws)) (n' : ¬ O b) (r' : Rps K fa O H1 ws es) : WkOk K fa O H1 (TZ.ItLT K a b) (zipD ds es) := by
  refine ⟨fun H => SqL K H a vs ∧ SqT K H b ws, YPair (fun i => vs[i]?) (fun i => ws[i]?), walk_lt (K := K) (a := a) (b := b) (vs := vs) (ws := ws) (by rw [zipD_length, r.length, r'.length]), fun H g => ⟨.inl (.inl (g a _ h n)), .inl (.inl (g b _ h' n'))⟩, fun O' i H x H' d k hn g e y => ?_⟩
  obtain ⟨T, p, q, rfl, hT, rfl, e1, e2⟩ := y
  obtain ⟨z, u, ez, eu, rfl⟩ := zipD_get e
  obtain ⟨v, ev, rv⟩ := r.get ez
  obtain ⟨v', ev', rv'⟩ := r'.get eu
  have e3 : vs[i]? = some p := e1
  have e4 : ws[i]? = some q := e2
  rw [e3] at ev
  rw [e4] at ev'
  cases ev
  cases ev'
  exact pair_new hn hT (rp_later k g rv) (rp_later k g rv')
theorem wk_zipTL (h : H1 a = some (.tup vs)) (n : ¬ O a) (r : Rps K fa O H1 vs ds) (h' : H1 b = some (.lst ws)) (n' : ¬ O b) (r' : Rps K fa O H1 ws es) : WkOk K fa O H1 (TZ.ItTL K a b) (zipD ds es) := by
  refine ⟨fun H => SqT K H a vs ∧ SqL K H b ws, YPair (fun i => vs[i]?) (fun i => ws[i]?), walk_tl (K := K) (a := a) (b := b) (vs := vs) (ws := ws) (by rw [zipD_length, r.length, r'.length]), fun H g => ⟨.inl (.inl (g a _ h n)), .inl (.inl (g b _ h' n'))⟩, fun O' i H x H' d k hn g e y => ?_⟩
  obtain ⟨T, p, q, rfl, hT, rfl, e1, e2⟩ := y
  obtain ⟨z, u, ez, eu, rfl⟩ := zipD_get e
  obtain ⟨v, ev, rv⟩ := r.get ez
  obtain ⟨v', ev', rv'⟩ := r'.get eu
  have e3 : vs[i]? = some p := e1
  have e4 : ws[i]? = some q := e2
  rw [e3] at ev
  rw [e4] at ev'
  cases ev
  cases ev'
  exact pair_new hn hT (rp_later k g rv) (rp_later k g rv')
end
section
variable {X : Cx} {σ : L2.St} {H : Hp} {R : It → Hp → Prop} {tg it e e2 : Expr} {p pos tpos : Pos} {elts : List Expr} {kk : Nat}
theorem si_lst (h : SmE X it σ H fun v H1 => ∃ a, v = .ref a ∧ (∃ xs, SqL X.K H1 a xs) ∧ R (Itl X.K a) H1) : SmI X tg it σ H R := PI.sm (pi_list pe_sm) h
theorem si_tup (h : SmE X it σ H fun v H1 => ∃ a, v = .ref a ∧ (∃ xs, SqT X.K H1 a xs) ∧ R (Itt X.K a) H1) : SmI X tg it σ H R := PI.sm (pi_tup pe_sm) h
theorem pi_et {ta : TA} (hg : Gl X "enumerate") (hm : X.mg "enumerate" = none) (ha : PA X [e] ta) (hs : starEach [e] X.env = [(false, eval e X.env)]) :
    PI X (.Tuple elts kk tpos) (.Call (.Name "enumerate" p) [e] [] pos) (fun σ H R => ta σ H fun vs H1 => ∃ a xs, vs = [.ref a] ∧ SqT X.K H1 a xs ∧ R (IteT X.K a) H1) := by
  refine ⟨fun pins s σ H R I h => ?_⟩
  refine Call_ (ld_blt I hg hm boot_enumerate (PyProof.Rows.callWith_type1 (thn (ha.run pos pins s σ H _ I h) fun us s1 ⟨vs, H1, I1, r1, a, xs, ex, hq, q⟩ => ?_) hs rfl))
  subst ex
  rw [Vals.ref1 r1]
  obtain ⟨its, rv, p', hz⟩ := I1.tuple hq
  have p2 : s1.heap.IsTuple a its.toArray := p'
  have hlt : a < s1.heap.objs.size := p'.lt
  refine enumCall1 (begins_tuple a its.toArray) p2 fun h' he hit hsz hk => wpAny_pyIter_enum he ?_
  have I2 : Inv X pins σ H1 { s1 with heap := h' } := I1.kept (t' := s1.toks) hk
  refine ⟨s1.heap.objs.size + 1, [s1.heap.objs.size + 1, s1.heap.objs.size], _, _, H1, rfl, I2, turn_et a (s1.heap.objs.size + 1) s1.heap.objs.size, ⟨⟨.none, he⟩, ⟨_, hit, rfl, rfl⟩, Nat.succ_ne_self _, Nat.ne_of_gt (Nat.lt_succ_of_lt hlt), Nat.ne_of_lt hlt⟩, fun b hb => ?_, q⟩
  have hle : s1.heap.objs.size ≤ b := by
    rcases List.mem_cons.mp hb with z | z
    · rw [z]; exact Nat.le_add_right _ _
    · rw [List.mem_singleton.mp z]; exact Nat.le_refl _
  exact I1.fpOk hle (I1.hok.fresh hle)
end
end TH
/-! Comprehensions. -/
namespace TH
open PySem PySem.Spec PyProof.Rows L2
theorem wipe_set {i : Nat} {x : Option V} : ∀ {vs : List Nat} {σ : L2.St}, i ∈ vs → wipe (σ.set i x) vs = wipe σ vs
  | [], _, h => by cases h
  | v :: vs, σ, h => by
    unfold wipe
    by_cases hv : v = i
    · subst hv
      by_cases hm : v ∈ vs
      · rw [wipe_set hm]
      · have e : ∀ (vs : List Nat) (τ : L2.St), v ∉ vs → wipe (τ.set v x) vs = (wipe τ vs).set v x := by
          intro vs
          induction vs with
          | nil => intro _ _; rfl
          | cons u us ih =>
            intro τ hu
            rw [List.mem_cons, not_or] at hu
            unfold wipe
            rw [ih τ hu.2, List.set_comm _ _ hu.1]
        rw [e vs σ hm, List.set_set]
    · rcases List.mem_cons.mp h with z | z
      · exact absurd z.symm hv
      · rw [wipe_set z]
theorem wipe_wipe : ∀ (vs : List Nat) (σ : L2.St), wipe (wipe σ vs) vs = wipe σ vs := by
  have key : ∀ (us vs : List Nat) (σ : L2.St), (∀ u ∈ us, u ∈ vs) → wipe (wipe σ us) vs = wipe σ vs := by
    intro us
    induction us with
    | nil => intro _ _ _; rfl
    | cons u us ih =>
      intro vs σ h
      show wipe ((wipe σ us).set u none) vs = _
      rw [wipe_set (h u List.mem_cons_self)]
      exact ih vs σ fun w hw => h w (List.mem_cons_of_mem _ hw)
  exact fun vs σ => key vs vs σ fun _ h => h
theorem wipeE_get : ∀ {vs : List Nat} {ρ : Env'} {i : Nat} {s : Sl}, (wipeE ρ vs)[i]? = some s → s = .no ∨ (i ∉ vs ∧ ρ[i]? = some s)
  | [], _, _, _, h => .inr ⟨by simp, h⟩
  | v :: vs, ρ, i, s, h => by
    have h' : ((wipeE ρ vs).set v .no)[i]? = some s := h
    by_cases hv : v = i
    · subst hv
      by_cases hl : v < (wipeE ρ vs).length
      · rw [List.getElem?_set_self hl] at h'; cases h'; exact .inl rfl
      · rw [List.getElem?_eq_none (by simpa using hl)] at h'; cases h'
    · rw [List.getElem?_set_ne hv] at h'
      rcases wipeE_get h' with z | ⟨z1, z2⟩
      · exact .inl z
      · exact .inr ⟨by simp only [List.mem_cons, not_or]; exact ⟨fun e => hv e.symm, z1⟩, z2⟩
theorem wipe_keep : ∀ {vs : List Nat} {σ : L2.St} {i : Nat}, i ∉ vs → (wipe σ vs)[i]? = σ[i]?
  | [], _, _, _ => rfl
  | v :: vs, σ, i, h => by
    rw [List.mem_cons, not_or] at h
    unfold wipe
    rw [List.getElem?_set_ne (Ne.symm h.1)]
    exact wipe_keep h.2
section
variable {K : PySem.W.Frag} {fa : Addr} {O : Os} {kd : FK} {H H' : Hp} {σ : L2.St} {ρ : Env'} {F F' : Fd}
theorem SR.wipe (S : SR K fa O kd H σ ρ F) (vs : List Nat) : SR K fa O kd H (wipe σ vs) (wipeE ρ vs) F :=
  ⟨S.toHd, fun i x e => by
    rcases wipeE_get e with z | ⟨z1, z2⟩
    · rw [z]; trivial
    · rw [wipe_keep z1]; exact S.sl i x z2⟩
theorem SR.set (S : SR K fa O kd H σ ρ F) {i : Nat} {v : V} {d : D} (r : Rp K fa O H v d) (hi : i < σ.length) : SR K fa O kd H (σ.set i (some v)) (ρ.set i (.im d)) F :=
  ⟨S.toHd, fun j x e => by
    by_cases hj : i = j
    · subst hj
      by_cases hl : i < ρ.length
      · rw [List.getElem?_set_self hl] at e
        cases e
        rw [List.getElem?_set_self hi]
        exact ⟨v, rfl, r⟩
      · rw [List.getElem?_eq_none (by simpa using hl)] at e; cases e
    · rw [List.getElem?_set_ne hj] at e
      rw [List.getElem?_set_ne hj]
      exact S.sl j x e⟩
/-- other addresses may change too, if they are new -/
theorem SlR.os {O' : Os} (hs : ∀ a, O a → O' a) (k : ∀ a o [NT o], H a = some o → O' a → O a) {x : Option (Option V)} {s : Sl} (h : SlR K fa O H x s) : SlR K fa O' H x s := by
  cases s with
  | no => trivial
  | im d => obtain ⟨v, e, r⟩ := h; exact ⟨v, e, r.os k⟩
  | ow ds => obtain ⟨a, vs, e, nf, o, ha, r⟩ := h; exact ⟨a, vs, e, nf, hs a o, ha, r.os k⟩
  | od kvs => obtain ⟨a, ws, e, nf, o, ha, ek, r⟩ := h; exact ⟨a, ws, e, nf, hs a o, ha, ek, r.os k⟩
theorem FeedAt.os {O' : Os} (k : ∀ a o [NT o], H a = some o → O' a → O a) (h : FeedAt K fa O kd H F) : FeedAt K fa O' kd H F := by
  obtain ⟨k0, T⟩ := kd
  obtain ⟨ht, h⟩ := h
  cases k0 with
  | lst => obtain ⟨z, c, e1, r⟩ := h; exact ⟨ht, z, c, e1, r.os k⟩
  | dic m => obtain ⟨z, c, e1, r⟩ := h; exact ⟨ht, z, c, e1, r.os k⟩
end
/-- the target's part -/
def tgT (K : PySem.W.Frag) : IE → TG
  | .v i => gName i
  | .tup (.cons (.v i) (.cons (.v j) .nil)) => gTup K 2 (gCons (gName i) (gCons (gName j) gNil))
  | .tup (.cons (.v i) (.cons (.v j) (.cons (.v k) .nil))) => gTup K 3 (gCons (gName i) (gCons (gName j) (gCons (gName k) gNil)))
  | _ => fun _ _ _ _ => False
/-- the slots of a target -/
def tgS : IE → List Nat
  | .v i => [i]
  | .tup (.cons (.v i) (.cons (.v j) .nil)) => [i, j]
  | .tup (.cons (.v i) (.cons (.v j) (.cons (.v k) .nil))) => [i, j, k]
  | _ => []
section
variable {K : PySem.W.Frag} {fa : Addr} {O : Os} {kd : FK} {H : Hp} {σ : L2.St} {ρ ρ' : Env'} {F : Fd}
/-- the slots are data that are bound anew, or as they were -/
def Kept (σ σ' : L2.St) (ρ ρ' : Env') : Prop := ∀ (j : Nat) (s : Sl), ρ'[j]? = some s → (∃ d, s = .im d) ∨ (ρ[j]? = some s ∧ σ'[j]? = σ[j]?)
theorem kept_set (i : Nat) (d : D) (x : Option V) : Kept σ (σ.set i x) ρ (ρ.set i (.im d)) := fun j s e => by
  by_cases h : i = j
  · subst h
    by_cases hl : i < ρ.length
    · rw [List.getElem?_set_self hl] at e; cases e; exact .inl ⟨d, rfl⟩
    · rw [List.getElem?_eq_none (by simpa using hl)] at e; cases e
  · rw [List.getElem?_set_ne h] at e ⊢
    exact .inr ⟨e, rfl⟩
theorem Kept.trans {σ1 σ2 : L2.St} {ρ1 ρ2 : Env'} (a : Kept σ σ1 ρ ρ1) (b : Kept σ1 σ2 ρ1 ρ2) : Kept σ σ2 ρ ρ2 := fun j s e => by
  rcases b j s e with h | ⟨h1, h2⟩
  · exact .inl h
  · rcases a j s h1 with h | ⟨h3, h4⟩
    · exact .inl h
    · exact .inr ⟨h3, h2.trans h4⟩
theorem tg_bind {tg : IE} {d : D} {v : V} {Q : L2.St → Hp → Prop} (S : SR K fa O kd H σ ρ F) (e : bindT tg d ρ = some ρ') (r : Rp K fa O H v d) (hl : ∀ i ∈ tgS tg, i < σ.length)
    (k : ∀ σ', (∀ vs, (∀ i ∈ tgS tg, i ∈ vs) → wipe σ' vs = wipe σ vs) → σ'.length = σ.length → SR K fa O kd H σ' ρ' F → Kept σ σ' ρ ρ' → Q σ' H) : tgT K tg v σ H Q := by
  unfold bindT at e
  split at e
  · rename_i i
    cases e
    exact k _ (fun vs h => wipe_set (h i (by simp [tgS]))) (by simp) (S.set r (hl i (by simp [tgS]))) (kept_set _ _ _)
  · rename_i i j x y
    cases e
    obtain ⟨a, vs, rfl, ha, rp⟩ := r.tupI
    cases rp with
    | cons r1 t =>
      cases t with
      | cons r2 t =>
        cases t
        refine ⟨a, _, rfl, ha, rfl, _, _, rfl, _, _, rfl, rfl, ?_⟩
        refine k _ (fun vs h => ?_) (by simp) ((S.set r1 (hl i (by simp [tgS]))).set r2 (by rw [List.length_set]; exact hl j (by simp [tgS]))) ((kept_set _ _ _).trans (kept_set _ _ _))
        rw [wipe_set (h j (by simp [tgS])), wipe_set (h i (by simp [tgS]))]
  · rename_i i j l x y z
    cases e
    obtain ⟨a, vs, rfl, ha, rp⟩ := r.tupI
    cases rp with
    | cons r1 t =>
      cases t with
      | cons r2 t =>
        cases t with
        | cons r3 t =>
          cases t
          refine ⟨a, _, rfl, ha, rfl, _, _, rfl, _, _, rfl, _, _, rfl, rfl, ?_⟩
          refine k _ (fun vs h => ?_) (by simp) (((S.set r1 (hl i (by simp [tgS]))).set r2 (by rw [List.length_set]; exact hl j (by simp [tgS]))).set r3 (by rw [List.length_set, List.length_set]; exact hl l (by simp [tgS]))) (((kept_set _ _ _).trans (kept_set _ _ _)).trans (kept_set _ _ _))
          rw [wipe_set (h l (by simp [tgS])), wipe_set (h j (by simp [tgS])), wipe_set (h i (by simp [tgS]))]
  · cases e
end
/-- in every block that the comprehension's scope makes -/
def Blk (X : Cx) (scope : Scope) (P : Cx → Prop) : Prop := ∀ (s : Shared) (H : Hp) (C : Addr) (cl : List (Str × Addr)) (fp : List Addr), P (X.blk s H scope (compEnvC scope cl C X.env) fp)
def SmTs (X : Cx) (ifs : List Expr) (σ : L2.St) (H : Hp) (Q : Bool → Hp → Prop) : Prop := ∀ (pins : List (Addr × Obj)) (s : Shared), Inv X pins σ H s →
    wpAny (model X.prog X.w) X.A (forIn ifs true fun c r => if r = true then do let ok ← isTrue c X.env (eval c X.env); pure (ForInStep.yield ok) else pure (ForInStep.yield r)) (TP X pins σ Q) X.xe s
theorem st_nil {X : Cx} {σ : L2.St} {H : Hp} {Q : Bool → Hp → Prop} (h : Q true H) : SmTs X [] σ H Q := fun pins s I => pts_nil.run pins s σ H Q I h
theorem st_one {X : Cx} {c : Expr} {σ : L2.St} {H : Hp} {Q : Bool → Hp → Prop} (h : SmT X c σ H Q) : SmTs X [c] σ H Q := fun pins s I => (pts_one pt_sm).run pins s σ H Q I h
section
variable {X : Cx} {scope : Scope}
theorem pe_blk {e : Expr} : ∀ (s : Shared) (H : Hp) (C : Addr) (cl : List (Str × Addr)) (fp : List Addr), PE (X.blk s H scope (compEnvC scope cl C X.env) fp) e (fun σ H Q => Blk X scope fun Y => SmE Y e σ H Q) :=
  fun s H C cl fp => ⟨fun pins t σ G Q I h => h s H C cl fp pins t I⟩
theorem pts_blk {ifs : List Expr} : ∀ (s : Shared) (H : Hp) (C : Addr) (cl : List (Str × Addr)) (fp : List Addr), PTs (X.blk s H scope (compEnvC scope cl C X.env) fp) ifs (fun σ H Q => Blk X scope fun Y => SmTs Y ifs σ H Q) :=
  fun s H C cl fp => ⟨fun pins t σ G Q I h => h s H C cl fp pins t I⟩
theorem pi_blk {tg it : Expr} : ∀ (s : Shared) (H : Hp) (C : Addr) (cl : List (Str × Addr)) (fp : List Addr), PI (X.blk s H scope (compEnvC scope cl C X.env) fp) tg it (fun σ H R => Blk X scope fun Y => SmI Y tg it σ H R) :=
  fun s H C cl fp => ⟨fun pins t σ G Q I h => h s H C cl fp pins t I⟩
end
end TH
/-! A comprehension of one clause, of two. -/
namespace TH
open PySem PySem.Spec PyProof.Rows L2
section
variable {K : PySem.W.Frag} {fa : Addr} {O : Os} {kd : FK} {H H1 H' : Hp} {σ : L2.St} {ρ : Env'} {F F' : Fd}
theorem ge_newI (g : Ge fa H H1) (f : FeedAt K fa O kd H1 F) {a : Addr} (h : NewIn H1 a) : NewIn H a := fun o _ e => by
  by_cases hf : a = fa
  · obtain ⟨u, _, e1⟩ := f.nt
    exact h u (hf ▸ e1)
  · exact h o (g a o e hf)
theorem ge_none (g : Ge fa H H1) (f : FeedAt K fa O kd H1 F) {a : Addr} (h : H1 a = none) : NewIn H a := ge_newI g f (NewIn.of h)
/-- a list under way, at Dl -/
def OD (O : Os) (Dl : Addr) : Os := fun a => O a ∨ a = Dl
theorem od_k' {Dl : Addr} (h : NewIn H Dl) : ∀ a o [NT o], H a = some o → OD O Dl a → O a := fun a u _ ha o => by
  rcases o with o | o
  · exact o
  · rw [o] at ha; exact absurd ha (h u)
theorem od_k {Dl : Addr} (h : H Dl = none) : ∀ a o [NT o], H a = some o → OD O Dl a → O a := od_k' (NewIn.of h)
theorem feed_nc {O' : Os} {kd' : FK} (f : FeedAt K fa O' kd H F) (f2 : FeedAt K fa O kd' H F') : FeedAt K fa O' kd' H F' := by
  obtain ⟨k0, T⟩ := kd
  obtain ⟨k1, T1⟩ := kd'
  obtain ⟨_, f⟩ := f
  obtain ⟨t2, f2⟩ := f2
  cases k0 with
  | lst =>
    obtain ⟨z, c, e, r⟩ := f
    cases k1 with
    | lst =>
      obtain ⟨z2, c2, e2, r2⟩ := f2
      have e3 := e2
      rw [e] at e3
      simp only [Option.some.injEq, HO.lst.injEq, List.cons.injEq, V.ref.injEq] at e3
      obtain ⟨rfl, _⟩ := e3
      obtain ⟨a1, v1, q1, h1, w1, n1⟩ := r.lstI
      obtain ⟨a2, v2, q2, h2, w2, n2⟩ := r2.lstI
      cases q1
      cases q2
      have w3 := w2.ints
      rw [w3] at h2
      exact ⟨t2, z2, c, e2, .lst h2 n1 (Rps.of_ints _)⟩
    | dic m2 => obtain ⟨z2, c2, e2, r2⟩ := f2; rw [e] at e2; cases e2
  | dic m =>
    obtain ⟨z, c, e, r⟩ := f
    cases k1 with
    | lst => obtain ⟨z2, c2, e2, r2⟩ := f2; rw [e] at e2; cases e2
    | dic m2 =>
      obtain ⟨z2, c2, e2, r2⟩ := f2
      have e3 := e2
      rw [e] at e3
      simp only [fldV, Option.some.injEq, HO.dK.injEq, List.cons.injEq, Prod.mk.injEq, V.ref.injEq] at e3
      obtain ⟨⟨_, rfl⟩, _⟩ := e3
      obtain ⟨a1, v1, q1, h1, w1, n1⟩ := r.lstI
      obtain ⟨a2, v2, q2, h2, w2, n2⟩ := r2.lstI
      cases q1
      cases q2
      have w3 := w2.ints
      rw [w3] at h2
      exact ⟨t2, z2, c, e2, .lst h2 n1 (Rps.of_ints _)⟩
/-- a list that is new since H -/
def FrR (K : PySem.W.Frag) (fa : Addr) (O : Os) (H : Hp) : Hp → V → D → Prop := fun H2 v d => ∃ p vs ds, v = .ref p ∧ d = .lst ds ∧ NewIn H p ∧ H2 p = some (.lst vs) ∧ Rps K fa (OD O p) H2 vs ds ∧ ∀ kd F, FeedAt K fa O kd H2 F → FeedAt K fa (OD O p) kd H2 F
theorem FrR.rp {v : V} {d : D} {H2 : Hp} (S : Hd K fa O kd H F) (r : FrR K fa O H H2 v d) : Rp K fa O H2 v d := by
  obtain ⟨p, vs, ds, rfl, rfl, h1, h2, r, _⟩ := r
  exact .lst h2 (S.newI h1) (r.os fun a _ _ _ o => .inl o)
/-- the slots, with a list under way -/
theorem SR.under (S : SR K fa O kd H σ ρ F) {Dl : Addr} (hn : NewIn H Dl) (g : Ge fa H H') (hD : ∃ o, NT o ∧ H' Dl = some o) (f : FeedAt K fa (OD O Dl) kd H' F') : SR K fa (OD O Dl) kd H' σ ρ F' :=
  ⟨⟨.inl S.ofa, fun a o => by
    rcases o with o | o
    · by_cases h : a = fa
      · rw [h]; exact f.nt
      · obtain ⟨u, _, e⟩ := S.onn a o
        exact ⟨u, inferInstance, g a u e h⟩
    · rw [o]; exact hD, f⟩, fun i x e => ((S.sl i x e).os (fun a o => Or.inl o) (od_k' hn)).ge (Or.inl S.ofa) g⟩
end
/-- one turn's item -/
theorem drop_at {α : Type} {l : List α} {i : Nat} (h : i < l.length) : l.drop i = l[i] :: l.drop (i + 1) := by simp
theorem lc_read {X : Cx} {scope : Scope} {elt tg' it' : Expr} {ifs' : List Expr} {tg : IE} {vs : List Nat} {σ : L2.St} {ρ : Env'} {H : Hp} {fa : Addr} {O : Os} {kd : FK} {F F0 F1 : Fd} {Q : VK} {items ys : List D}
    {t : Env' → Fd → Ou Bool} {e : Env' → Fd → Ou D}
    (S : SR X.K fa O kd H σ ρ F) (hit : ∀ R, (∀ J H1, Ge fa H H1 → FeedAt X.K fa O kd H1 F0 → WkOk X.K fa O H1 J items → R J H1) → SmI X tg' it' σ H R)
    (hl : lcLoop t e (bindT tg) (wipeE ρ vs) items F0 = .ok ys F1) (hz : items.length ≤ sizeLine)
    (ht : ∀ O' H' σ' ρ' F' k F'' (Q : Bool → Hp → Prop), σ'.length = σ.length → SR X.K fa O' kd H' σ' ρ' F' → t ρ' F' = .ok k F'' → (∀ H2, Ge fa H' H2 → FeedAt X.K fa O' kd H2 F'' → Q k H2) → Blk X scope fun Y => SmTs Y ifs' σ' H' Q)
    (he : ∀ O' H' σ' ρ' F' d F'' (Q : VK), σ'.length = σ.length → SR X.K fa O' kd H' σ' ρ' F' → e ρ' F' = .ok d F'' → (∀ v H2, Ge fa H' H2 → FeedAt X.K fa O' kd H2 F'' → Rp X.K fa O' H2 v d → Q v H2) → Blk X scope fun Y => SmE Y elt σ' H' Q)
    (hv : ∀ i ∈ tgS tg, i ∈ vs ∧ i < σ.length) (k : ∀ v H2, Ge fa H H2 → FeedAt X.K fa O kd H2 F1 → FrR X.K fa O H H2 v (.lst ys) → Q v H2) :
    tLc (SmI X tg' it') (tgT X.K tg) (fun σ H Q => Blk X scope fun Y => SmTs Y ifs' σ H Q) (fun σ H Q => Blk X scope fun Y => SmE Y elt σ H Q) vs σ H Q := by
  unfold tLc
  refine hit _ fun J H1 g1 f1 ⟨G, Y, wk, hG, hY⟩ => ?_
  intro Dl hD
  have hn : NewIn H Dl := ge_none g1 f1 hD
  have nfa : Dl ≠ fa := S.nfI hn
  refine lc_it (g := tgT X.K tg) (tt := fun σ H Q => Blk X scope fun Y => SmTs Y ifs' σ H Q) (te := fun σ H Q => Blk X scope fun Y => SmE Y elt σ H Q) (vs := vs) (σ := σ) (Qd := fun Hc => Q (.ref Dl) Hc) wk (fun i Hc => ∃ zs Fi rest ws, lcLoop t e (bindT tg) (wipeE ρ vs) (items.drop i) Fi = .ok rest F1 ∧ ys = zs ++ rest ∧ zs.length ≤ i ∧ Hc Dl = some (.lst ws) ∧ Rps X.K fa (OD O Dl) Hc ws zs ∧ Ge fa H1 Hc ∧ FeedAt X.K fa (OD O Dl) kd Hc Fi)
    ⟨[], F0, ys, [], by rw [List.drop_zero]; exact hl, rfl, Nat.le_refl _, upd_same, .nil, Ge.new hD, ?_⟩ (fun i Hc _ ⟨zs, Fi, rest, ws, _, _, _, _, _, g, _⟩ => hG Hc (g.go S.ofa)) ?_ ?_
  · exact (f1.os (od_k hD)).go (Ge.go (Ge.new hD) (.inl S.ofa)) (upd_ne nfa.symm) fun t => tabs_upd t hD
  · rintro i x Hc H' hi ⟨zs, Fi, rest, ws, el, ey, hzs, eD, rw', g, f⟩ y
    rw [drop_at hi] at el
    have ge0 : items[i]? = some items[i] := by simp [hi]
    have onn : ∀ a, OD O Dl a → ∃ o, NT o ∧ Hc a = some o := fun a o => by
      rcases o with o | o
      · by_cases h : a = fa
        · rw [h]; exact f.nt
        · obtain ⟨u, _, e⟩ := (S.toHd.ge g1 f1).onn a o
          exact ⟨u, inferInstance, g a u e h⟩
      · exact ⟨_, inferInstance, o ▸ eD⟩
    obtain ⟨hH', rx⟩ := hY (OD O Dl) i Hc x H' items[i] (od_k hD) onn (g.go S.ofa) ge0 y
    have gx : Ge fa Hc H' ∧ FeedAt X.K fa (OD O Dl) kd H' Fi ∧ H' Dl = some (.lst ws) := by
      rcases hH' with rfl | ⟨T, xs, hT, rfl⟩
      · exact ⟨Ge.refl _ _, f, eD⟩
      · have nT : T ≠ fa := fun z => f.isSm (z ▸ hT)
        have nD : Dl ≠ T := fun z => by rw [← z, eD] at hT; cases hT
        exact ⟨Ge.new hT, f.go (Ge.go (Ge.new hT) (.inl S.ofa)) (upd_ne nT.symm) (fun t => tabs_upd t hT), by rw [upd_ne nD]; exact eD⟩
    obtain ⟨g2, f2, eD2⟩ := gx
    have S2 : SR X.K fa (OD O Dl) kd H' (wipe σ vs) (wipeE ρ vs) Fi := (S.under hn (g1.trans (g.trans g2)) ⟨_, inferInstance, eD2⟩ f2).wipe vs
    unfold lcLoop at el
    cases eb : bindT tg items[i] (wipeE ρ vs) with
    | none => rw [eb] at el; cases el
    | some ρ' =>
      rw [eb] at el
      dsimp only at el
      refine tg_bind S2 eb rx (fun j hj => by rw [wipe_length]; exact (hv j hj).2) fun σ' hw hl' S3 hk => ⟨by rw [hw vs fun j hj => (hv j hj).1, wipe_wipe], ?_⟩
      have hl3 : σ'.length = σ.length := by rw [hl', wipe_length]
      cases et : t ρ' Fi with
      | ex _ _ _ => rw [et] at el; cases el
      | no => rw [et] at el; cases el
      | ok kk F2 =>
        rw [et] at el
        have el2 : (if kk = true then (e ρ' F2).bindC fun y F => (lcLoop t e (bindT tg) (wipeE ρ vs) (items.drop (i + 1)) F).bindC fun ys F => .ok (y :: ys) F else lcLoop t e (bindT tg) (wipeE ρ vs) (items.drop (i + 1)) F2) = .ok rest F1 := el
        refine ht (OD O Dl) H' σ' ρ' Fi kk F2 _ hl3 S3 et fun H3 g3 f3 => ?_
        have eD3 := g3 Dl _ eD2 nfa
        have rw3 : Rps X.K fa (OD O Dl) H3 ws zs := rw'.go ((g2.trans g3).go (.inl S.ofa))
        cases kk with
        | false =>
          rw [if_neg Bool.false_ne_true] at el2 ⊢
          exact ⟨zs, F2, rest, ws, el2, ey, Nat.le_succ_of_le hzs, eD3, rw3, g.trans (g2.trans g3), f3⟩
        | true =>
          rw [if_pos rfl] at el2 ⊢
          cases ee : e ρ' F2 with
          | ex _ _ _ => rw [ee] at el2; cases el2
          | no => rw [ee] at el2; cases el2
          | ok dy F3 =>
            rw [ee] at el2
            have el3 : ((lcLoop t e (bindT tg) (wipeE ρ vs) (items.drop (i + 1)) F3).bindC fun ys F => .ok (dy :: ys) F) = .ok rest F1 := el2
            cases er : lcLoop t e (bindT tg) (wipeE ρ vs) (items.drop (i + 1)) F3 with
            | ex _ _ _ => rw [er] at el3; cases el3
            | no => rw [er] at el3; cases el3
            | ok rest2 F4 =>
              rw [er] at el3
              cases el3
              refine he (OD O Dl) H3 σ' ρ' F2 dy F3 _ hl3 (S3.ge g3 f3) ee fun y H4 g4 f4 r4 => ?_
              have eD4 := g4 Dl _ eD3 nfa
              have lw := rw3.length
              refine ⟨ws, eD4, by rw [lw]; exact Nat.lt_of_le_of_lt hzs (Nat.lt_of_lt_of_le hi hz), zs ++ [dy], F3, rest2, ws ++ [y], er, by rw [ey, List.append_assoc]; rfl, by rw [List.length_append]; exact Nat.succ_le_succ hzs, upd_same, ?_, ?_, ?_⟩
              · exact ((rw3.go (g4.go (.inl S.ofa))).append (.cons r4 .nil)).go (Go.wr (.inr rfl))
              · intro a o _ ea na
                have hne : a ≠ Dl := fun z => by rw [z, hD] at ea; cases ea
                rw [upd_ne hne]
                exact (g.trans (g2.trans (g3.trans g4))) a o ea na
              · exact f4.go (Go.wr (.inr rfl)) (upd_ne nfa.symm) fun t => tabs_wr t eD4 (lst_nc _)
  · rintro Hc ⟨zs, Fi, rest, ws, el, ey, hzs, eD, rw', g, f⟩
    rw [List.drop_length] at el
    cases el
    rw [List.append_nil] at ey
    subst ey
    exact k (.ref Dl) Hc (g1.trans g) (f.os fun a _ _ _ o => .inl o) ⟨Dl, ws, ys, rfl, rfl, hn, eD, rw', fun kd' F' f' => feed_nc f f'⟩
end TH
/-! A comprehension of two clauses. -/
namespace TH
open PySem PySem.Spec PyProof.Rows L2
theorem ge_but {fa Dl : Addr} {H1 H H' : Hp} (hD : H1 Dl = none) (g : Ge fa H1 H) (h : ∀ a o [NT o], H a = some o → a ≠ fa → a ≠ Dl → H' a = some o) : Ge fa H1 H' := fun a o _ e na => by
  have hne : a ≠ Dl := fun z => by rw [z, hD] at e; cases e
  exact h a o (g a o e na) na hne
theorem lc_inner {X : Cx} {scope : Scope} {elt tg' it' : Expr} {ifs' : List Expr} {tg : IE} {vs : List Nat} {σ : L2.St} {ρ : Env'} {H : Hp} {fa Dl : Addr} {O : Os} {kd : FK} {F F0 F1 : Fd} {Nx' : Hp → Prop} {items ys zs : List D} {ws : List V}
    {t : Env' → Fd → Ou Bool} {e : Env' → Fd → Ou D} (hO : O Dl) (nfa : Dl ≠ fa)
    (S : SR X.K fa O kd H σ ρ F) (hit : ∀ R, (∀ J H1, Ge fa H H1 → FeedAt X.K fa O kd H1 F0 → WkOk X.K fa O H1 J items → R J H1) → Blk X scope fun Y => SmI Y tg' it' σ H R)
    (hl : lcLoop t e (bindT tg) (wipeE ρ vs) items F0 = .ok ys F1) (eD : H Dl = some (.lst ws)) (rz : Rps X.K fa O H ws zs) (hz : zs.length + ys.length ≤ sizeLine)
    (ht : ∀ O' H' σ' ρ' F' k F'' (Q : Bool → Hp → Prop), σ'.length = σ.length → SR X.K fa O' kd H' σ' ρ' F' → t ρ' F' = .ok k F'' → (∀ H2, Ge fa H' H2 → FeedAt X.K fa O' kd H2 F'' → Q k H2) → Blk X scope fun Y => SmTs Y ifs' σ' H' Q)
    (he : ∀ O' H' σ' ρ' F' d F'' (Q : VK), σ'.length = σ.length → SR X.K fa O' kd H' σ' ρ' F' → e ρ' F' = .ok d F'' → (∀ v H2, Ge fa H' H2 → FeedAt X.K fa O' kd H2 F'' → Rp X.K fa O' H2 v d → Q v H2) → Blk X scope fun Y => SmE Y elt σ' H' Q)
    (hv : ∀ i ∈ tgS tg, i ∈ vs ∧ i < σ.length) (hns : ∀ (i : Nat) (ds : List D), ρ[i]? = some (.ow ds) → σ[i]? ≠ some (some (.ref Dl))) (hnd : ∀ (i : Nat) (kvs : List (Key × D)), ρ[i]? = some (.od kvs) → σ[i]? ≠ some (some (.ref Dl)))
    (k : ∀ H' ws', H' Dl = some (.lst ws') → Rps X.K fa O H' ws' (zs ++ ys) → (∀ a o [NT o], H a = some o → a ≠ fa → a ≠ Dl → H' a = some o) → FeedAt X.K fa O kd H' F1 → Nx' H') :
    Blk X scope fun Y => SmI Y tg' it' σ H fun J1 H4 => ∃ W1 : Nat → Nat → Hp → Prop, (∃ m, W1 0 m H4) ∧ ∀ j m H, W1 j m H →
      (J1.stop j H ∧ Nx' H) ∨ (J1.go j H ∧ ∃ Nx1 : Hp → Prop, (∀ H', Nx1 H' → ∃ k', k' < m ∧ W1 (j + 1) k' H') ∧ ∀ x H', J1.yld j H x H' → tgT X.K tg x (wipe σ vs) H' fun σ3 H5 => wipe σ3 vs = wipe σ vs ∧
        (fun σ H Q => Blk X scope fun Y => SmTs Y ifs' σ H Q) σ3 H5 fun b H6 =>
        if b = true then (fun σ H Q => Blk X scope fun Y => SmE Y elt σ H Q) σ3 H6 fun y H7 => ∃ acc, H7 Dl = some (.lst acc) ∧ acc.length < sizeLine ∧ Nx1 (upd H7 Dl (.lst (acc ++ [y]))) else Nx1 H6) := by
  refine hit _ fun J H1 g1 f1 ⟨G, Y, wk, hG, hY⟩ => ?_
  have eD1 := g1 Dl _ eD nfa
  have rz1 : Rps X.K fa O H1 ws zs := rz.go (g1.go S.ofa)
  -- the invariant
  let Pv : Nat → Hp → Prop := fun i Hc => ∃ ds Fi rest ws', lcLoop t e (bindT tg) (wipeE ρ vs) (items.drop i) Fi = .ok rest F1 ∧ ys = ds ++ rest ∧ Hc Dl = some (.lst ws') ∧ Rps X.K fa O Hc ws' (zs ++ ds) ∧ (∀ a o [NT o], H1 a = some o → a ≠ fa → a ≠ Dl → Hc a = some o) ∧ FeedAt X.K fa O kd Hc Fi
  have goP : ∀ {Hc : Hp}, (∀ a o [NT o], H1 a = some o → a ≠ fa → a ≠ Dl → Hc a = some o) → Go O H1 Hc := fun h a o _ e n => h a o e (fun z => n (z ▸ S.ofa)) (fun z => n (z ▸ hO))
  refine ⟨fun i m Hc => m = items.length - i ∧ i ≤ items.length ∧ Pv i Hc, ⟨items.length, by simp, Nat.zero_le _, [], F0, ys, ws, by rw [List.drop_zero]; exact hl, rfl, eD1, by rw [List.append_nil]; exact rz1, fun a o _ e _ _ => e, f1⟩, ?_⟩
  rintro i m Hc ⟨rfl, hi, ds, Fi, rest, ws', el, ey, eDc, rc, gc, fc⟩
  have gG := hG Hc (goP gc)
  by_cases hlt : i < items.length
  · refine .inr ⟨wk.goes i Hc hlt gG, Pv (i + 1), fun H' p' => ⟨items.length - (i + 1), by omega, rfl, hlt, p'⟩, fun x H' y0 => ?_⟩
    have y := wk.yields i Hc x H' hlt gG y0
    rw [drop_at hlt] at el
    have ge0 : items[i]? = some items[i] := by simp [hlt]
    have onn : ∀ a, O a → ∃ o, NT o ∧ Hc a = some o := fun a o => by
      by_cases h : a = fa
      · rw [h]; exact fc.nt
      · by_cases h2 : a = Dl
        · exact ⟨_, inferInstance, h2 ▸ eDc⟩
        · obtain ⟨u, _, e⟩ := (S.toHd.ge g1 f1).onn a o
          exact ⟨u, inferInstance, gc a u e h h2⟩
    obtain ⟨hH', rx⟩ := hY O i Hc x H' items[i] (fun a _ _ _ o => o) onn (goP gc) ge0 y
    have gx : Ge fa Hc H' ∧ FeedAt X.K fa O kd H' Fi ∧ H' Dl = some (.lst ws') := by
      rcases hH' with rfl | ⟨T, xs, hT, rfl⟩
      · exact ⟨Ge.refl _ _, fc, eDc⟩
      · have nT : T ≠ fa := fun z => fc.isSm (z ▸ hT)
        have nD : Dl ≠ T := fun z => by rw [← z, eDc] at hT; cases hT
        exact ⟨Ge.new hT, fc.go (Ge.go (Ge.new hT) S.ofa) (upd_ne nT.symm) (fun t => tabs_upd t hT), by rw [upd_ne nD]; exact eDc⟩
    obtain ⟨g2, f2, eD2⟩ := gx
    have gHc : ∀ a o [NT o], H a = some o → a ≠ fa → a ≠ Dl → H' a = some o := fun a o _ e n1 n2 => g2 a o (gc a o (g1 a o e n1) n1 n2) n1
    have S2 : SR X.K fa O kd H' (wipe σ vs) (wipeE ρ vs) Fi := by
      refine SR.wipe ⟨⟨S.ofa, fun a o => ?_, f2⟩, fun j s e => ?_⟩ vs
      · obtain ⟨u, _, e⟩ := onn a o
        by_cases h : a = fa
        · rw [h]; exact f2.nt
        · exact ⟨u, inferInstance, g2 a u e h⟩
      · have q := S.sl j s e
        have gO : Go O H H' := fun a o _ e n => gHc a o e (fun z => n (z ▸ S.ofa)) (fun z => n (z ▸ hO))
        cases s with
        | no => trivial
        | im d => obtain ⟨v, ev, r⟩ := q; exact ⟨v, ev, r.go gO⟩
        | ow es =>
          obtain ⟨a, us, ev, nf, o, ha, r⟩ := q
          have nD : a ≠ Dl := fun z => hns j es e (by rw [ev, z])
          exact ⟨a, us, ev, nf, o, gHc a _ ha nf nD, r.go gO⟩
        | od kvs =>
          obtain ⟨a, us, ev, nf, o, ha, ek, r⟩ := q
          have nD : a ≠ Dl := fun z => hnd j kvs e (by rw [ev, z])
          exact ⟨a, us, ev, nf, o, gHc a _ ha nf nD, ek, r.go gO⟩
    unfold lcLoop at el
    cases eb : bindT tg items[i] (wipeE ρ vs) with
    | none => rw [eb] at el; cases el
    | some ρ' =>
      rw [eb] at el
      dsimp only at el
      refine tg_bind S2 eb rx (fun j hj => by rw [wipe_length]; exact (hv j hj).2) fun σ' hw hl' S3 hk => ⟨by rw [hw vs fun j hj => (hv j hj).1, wipe_wipe], ?_⟩
      have hl3 : σ'.length = σ.length := by rw [hl', wipe_length]
      cases et : t ρ' Fi with
      | ex _ _ _ => rw [et] at el; cases el
      | no => rw [et] at el; cases el
      | ok kk F2 =>
        rw [et] at el
        have el2 : (if kk = true then (e ρ' F2).bindC fun y F => (lcLoop t e (bindT tg) (wipeE ρ vs) (items.drop (i + 1)) F).bindC fun ys F => .ok (y :: ys) F else lcLoop t e (bindT tg) (wipeE ρ vs) (items.drop (i + 1)) F2) = .ok rest F1 := el
        refine ht O H' σ' ρ' Fi kk F2 _ hl3 S3 et fun H3 g3 f3 => ?_
        have eD3 := g3 Dl _ eD2 nfa
        have rc3 : Rps X.K fa O H3 ws' (zs ++ ds) := rc.go ((g2.trans g3).go S.ofa)
        have gc3 : ∀ a o [NT o], H1 a = some o → a ≠ fa → a ≠ Dl → H3 a = some o := fun a o _ e n1 n2 => (g2.trans g3) a o (gc a o e n1 n2) n1
        cases kk with
        | false =>
          rw [if_neg Bool.false_ne_true] at el2 ⊢
          exact ⟨ds, F2, rest, ws', el2, ey, eD3, rc3, gc3, f3⟩
        | true =>
          rw [if_pos rfl] at el2 ⊢
          cases ee : e ρ' F2 with
          | ex _ _ _ => rw [ee] at el2; cases el2
          | no => rw [ee] at el2; cases el2
          | ok dy F3 =>
            rw [ee] at el2
            have el3 : ((lcLoop t e (bindT tg) (wipeE ρ vs) (items.drop (i + 1)) F3).bindC fun ys F => .ok (dy :: ys) F) = .ok rest F1 := el2
            cases er : lcLoop t e (bindT tg) (wipeE ρ vs) (items.drop (i + 1)) F3 with
            | ex _ _ _ => rw [er] at el3; cases el3
            | no => rw [er] at el3; cases el3
            | ok rest2 F4 =>
              rw [er] at el3
              cases el3
              refine he O H3 σ' ρ' F2 dy F3 _ hl3 (S3.ge g3 f3) ee fun y H4 g4 f4 r4 => ?_
              have eD4 := g4 Dl _ eD3 nfa
              have lw := rc3.length
              refine ⟨ws', eD4, ?_, ds ++ [dy], F3, rest2, ws' ++ [y], er, by rw [ey, List.append_assoc]; rfl, upd_same, ?_, ?_, ?_⟩
              · rw [lw, List.length_append]
                rw [ey, List.length_append, List.length_cons] at hz
                omega
              · rw [← List.append_assoc]
                exact ((rc3.go (g4.go S.ofa)).append (.cons r4 .nil)).go (Go.wr hO)
              · intro a o _ ea n1 n2
                rw [upd_ne n2]
                exact g4 a o (gc3 a o ea n1 n2) n1
              · exact f4.go (Go.wr hO) (upd_ne nfa.symm) fun t => tabs_wr t eD4 (lst_nc _)
  · have e0 : i = items.length := by omega
    subst e0
    rw [List.drop_length] at el
    cases el
    rw [List.append_nil] at ey
    subst ey
    exact .inl ⟨wk.stops Hc gG, k Hc ws' eDc rc (fun a o _ ea n1 n2 => gc a o (g1 a o ea n1) n1 n2) fc⟩
theorem lc2_read {X : Cx} {scope : Scope} {elt tg' it' tg1' it1' : Expr} {ifs' ifs1' : List Expr} {tg tg1 : IE} {vs vs1 : List Nat} {σ : L2.St} {ρ : Env'} {H : Hp} {fa : Addr} {O : Os} {kd : FK} {F F0 F1 : Fd} {Q : VK} {items ys : List D}
    {t t1 : Env' → Fd → Ou Bool} {i1 : Env' → Fd → Ou (List D)} {e : Env' → Fd → Ou D}
    (S : SR X.K fa O kd H σ ρ F) (hit : ∀ R, (∀ J H1, Ge fa H H1 → FeedAt X.K fa O kd H1 F0 → WkOk X.K fa O H1 J items → R J H1) → SmI X tg' it' σ H R)
    (hl : lcLoop2 t (fun ρ F => (i1 ρ F).bindC fun zs F => lcLoop t1 e (bindT tg1) (wipeE ρ vs1) zs F) (bindT tg) (wipeE ρ vs) items F0 = .ok ys F1) (hz : ys.length ≤ sizeLine)
    (ht : ∀ O' H' σ' ρ' F' k F'' (Q : Bool → Hp → Prop), σ'.length = σ.length → SR X.K fa O' kd H' σ' ρ' F' → t ρ' F' = .ok k F'' → (∀ H2, Ge fa H' H2 → FeedAt X.K fa O' kd H2 F'' → Q k H2) → Blk X scope fun Y => SmTs Y ifs' σ' H' Q)
    (ht1 : ∀ O' H' σ' ρ' F' k F'' (Q : Bool → Hp → Prop), σ'.length = σ.length → SR X.K fa O' kd H' σ' ρ' F' → t1 ρ' F' = .ok k F'' → (∀ H2, Ge fa H' H2 → FeedAt X.K fa O' kd H2 F'' → Q k H2) → Blk X scope fun Y => SmTs Y ifs1' σ' H' Q)
    (hi1 : ∀ O' H' σ' ρ' F' zs F'' (R : It → Hp → Prop), σ'.length = σ.length → SR X.K fa O' kd H' σ' ρ' F' → i1 ρ' F' = .ok zs F'' → (∀ J H1, Ge fa H' H1 → FeedAt X.K fa O' kd H1 F'' → WkOk X.K fa O' H1 J zs → R J H1) → Blk X scope fun Y => SmI Y tg1' it1' σ' H' R)
    (he : ∀ O' H' σ' ρ' F' d F'' (Q : VK), σ'.length = σ.length → SR X.K fa O' kd H' σ' ρ' F' → e ρ' F' = .ok d F'' → (∀ v H2, Ge fa H' H2 → FeedAt X.K fa O' kd H2 F'' → Rp X.K fa O' H2 v d → Q v H2) → Blk X scope fun Y => SmE Y elt σ' H' Q)
    (hv : ∀ i ∈ tgS tg, i ∈ vs ∧ i < σ.length) (hv1 : ∀ i ∈ tgS tg1, i ∈ vs1 ∧ i < σ.length) (k : ∀ v H2, Ge fa H H2 → FeedAt X.K fa O kd H2 F1 → FrR X.K fa O H H2 v (.lst ys) → Q v H2) :
    tLc2 (SmI X tg' it') (tgT X.K tg) (fun σ H Q => Blk X scope fun Y => SmTs Y ifs' σ H Q) (fun σ H R => Blk X scope fun Y => SmI Y tg1' it1' σ H R) (tgT X.K tg1) (fun σ H Q => Blk X scope fun Y => SmTs Y ifs1' σ H Q)
      (fun σ H Q => Blk X scope fun Y => SmE Y elt σ H Q) vs vs1 σ H Q := by
  unfold tLc2
  refine hit _ fun J H1 g1 f1 ⟨G, Y, wk, hG, hY⟩ => ?_
  intro Dl hD
  have hn : NewIn H Dl := ge_none g1 f1 hD
  have nfa : Dl ≠ fa := S.nfI hn
  let g0 : Env' → Fd → Ou (List D) := fun ρ F => (i1 ρ F).bindC fun zs F => lcLoop t1 e (bindT tg1) (wipeE ρ vs1) zs F
  let Pv : Nat → Hp → Prop := fun i Hc => ∃ ds Fi rest ws', lcLoop2 t g0 (bindT tg) (wipeE ρ vs) (items.drop i) Fi = .ok rest F1 ∧ ys = ds ++ rest ∧ Hc Dl = some (.lst ws') ∧ Rps X.K fa (OD O Dl) Hc ws' ds ∧ Ge fa H1 Hc ∧ FeedAt X.K fa (OD O Dl) kd Hc Fi
  refine ⟨fun i m Hc => m = items.length - i ∧ i ≤ items.length ∧ Pv i Hc, ⟨items.length, by simp, Nat.zero_le _, [], F0, ys, [], by rw [List.drop_zero]; exact hl, rfl, upd_same, .nil, Ge.new hD, (f1.os (od_k hD)).go (Ge.go (Ge.new hD) (.inl S.ofa)) (upd_ne nfa.symm) (fun t => tabs_upd t hD)⟩, ?_⟩
  rintro i m Hc ⟨rfl, hi, ds, Fi, rest, ws', el, ey, eDc, rc, gc, fc⟩
  have gG := hG Hc (gc.go S.ofa)
  by_cases hlt : i < items.length
  · refine .inr ⟨wk.goes i Hc hlt gG, Pv (i + 1), fun H' p' => ⟨items.length - (i + 1), by omega, rfl, hlt, p'⟩, fun x H' y0 => ?_⟩
    have y := wk.yields i Hc x H' hlt gG y0
    rw [drop_at hlt] at el
    have ge0 : items[i]? = some items[i] := by simp [hlt]
    have onn : ∀ a, OD O Dl a → ∃ o, NT o ∧ Hc a = some o := fun a o => by
      rcases o with o | o
      · by_cases h : a = fa
        · rw [h]; exact fc.nt
        · obtain ⟨u, _, e⟩ := (S.toHd.ge g1 f1).onn a o
          exact ⟨u, inferInstance, gc a u e h⟩
      · exact ⟨_, inferInstance, o ▸ eDc⟩
    obtain ⟨hH', rx⟩ := hY (OD O Dl) i Hc x H' items[i] (od_k hD) onn (gc.go S.ofa) ge0 y
    have gx : Ge fa Hc H' ∧ FeedAt X.K fa (OD O Dl) kd H' Fi ∧ H' Dl = some (.lst ws') := by
      rcases hH' with rfl | ⟨T, xs, hT, rfl⟩
      · exact ⟨Ge.refl _ _, fc, eDc⟩
      · have nT : T ≠ fa := fun z => fc.isSm (z ▸ hT)
        have nD : Dl ≠ T := fun z => by rw [← z, eDc] at hT; cases hT
        exact ⟨Ge.new hT, fc.go (Ge.go (Ge.new hT) (.inl S.ofa)) (upd_ne nT.symm) (fun t => tabs_upd t hT), by rw [upd_ne nD]; exact eDc⟩
    obtain ⟨g2, f2, eD2⟩ := gx
    have S2 : SR X.K fa (OD O Dl) kd H' (wipe σ vs) (wipeE ρ vs) Fi := (S.under hn (g1.trans (gc.trans g2)) ⟨_, inferInstance, eD2⟩ f2).wipe vs
    unfold lcLoop2 at el
    cases eb : bindT tg items[i] (wipeE ρ vs) with
    | none => rw [eb] at el; cases el
    | some ρ' =>
      rw [eb] at el
      dsimp only at el
      refine tg_bind S2 eb rx (fun j hj => by rw [wipe_length]; exact (hv j hj).2) fun σ' hw hl' S3 hk => ⟨by rw [hw vs fun j hj => (hv j hj).1, wipe_wipe], ?_⟩
      have hl3 : σ'.length = σ.length := by rw [hl', wipe_length]
      cases et : t ρ' Fi with
      | ex _ _ _ => rw [et] at el; cases el
      | no => rw [et] at el; cases el
      | ok kk F2 =>
        rw [et] at el
        have el2 : (if kk = true then (g0 ρ' F2).bindC fun y F => (lcLoop2 t g0 (bindT tg) (wipeE ρ vs) (items.drop (i + 1)) F).bindC fun ys F => .ok (y ++ ys) F else lcLoop2 t g0 (bindT tg) (wipeE ρ vs) (items.drop (i + 1)) F2) = .ok rest F1 := el
        refine ht (OD O Dl) H' σ' ρ' Fi kk F2 _ hl3 S3 et fun H3 g3 f3 => ?_
        have eD3 := g3 Dl _ eD2 nfa
        have rc3 : Rps X.K fa (OD O Dl) H3 ws' ds := rc.go ((g2.trans g3).go (.inl S.ofa))
        have gc3 : Ge fa H1 H3 := gc.trans (g2.trans g3)
        cases kk with
        | false =>
          rw [if_neg Bool.false_ne_true] at el2 ⊢
          exact ⟨ds, F2, rest, ws', el2, ey, eD3, rc3, gc3, f3⟩
        | true =>
          rw [if_pos rfl] at el2 ⊢
          cases ei : i1 ρ' F2 with
          | ex _ _ _ => rw [show g0 ρ' F2 = (i1 ρ' F2).bindC fun zs F => lcLoop t1 e (bindT tg1) (wipeE ρ' vs1) zs F from rfl, ei] at el2; cases el2
          | no => rw [show g0 ρ' F2 = (i1 ρ' F2).bindC fun zs F => lcLoop t1 e (bindT tg1) (wipeE ρ' vs1) zs F from rfl, ei] at el2; cases el2
          | ok zs F3 =>
            rw [show g0 ρ' F2 = lcLoop t1 e (bindT tg1) (wipeE ρ' vs1) zs F3 by show (i1 ρ' F2).bindC _ = _; rw [ei]; rfl] at el2
            cases ee : lcLoop t1 e (bindT tg1) (wipeE ρ' vs1) zs F3 with
            | ex _ _ _ => rw [ee] at el2; cases el2
            | no => rw [ee] at el2; cases el2
            | ok out F4 =>
              rw [ee] at el2
              have el3 : ((lcLoop2 t g0 (bindT tg) (wipeE ρ vs) (items.drop (i + 1)) F4).bindC fun ys F => .ok (out ++ ys) F) = .ok rest F1 := el2
              cases er : lcLoop2 t g0 (bindT tg) (wipeE ρ vs) (items.drop (i + 1)) F4 with
              | ex _ _ _ => rw [er] at el3; cases el3
              | no => rw [er] at el3; cases el3
              | ok rest2 F5 =>
                rw [er] at el3
                cases el3
                refine lc_inner (.inr rfl) nfa (S3.ge g3 f3) (fun R hR => hi1 (OD O Dl) H3 σ' ρ' F2 zs F3 R hl3 (S3.ge g3 f3) ei hR) ee eD3 rc3 ?_ (fun O' H' σ'' ρ'' F' k F'' Q hl => ht1 O' H' σ'' ρ'' F' k F'' Q (hl.trans hl3)) (fun O' H' σ'' ρ'' F' d F'' Q hl => he O' H' σ'' ρ'' F' d F'' Q (hl.trans hl3)) (fun j hj => ⟨(hv1 j hj).1, by rw [hl3]; exact (hv1 j hj).2⟩) ?_ ?_ fun H7 ws7 eD7 r7 g7 f7 => ⟨ds ++ out, F4, rest2, ws7, er, by rw [ey, List.append_assoc], eD7, r7, ge_but hD gc3 g7, f7⟩
                · rw [ey, List.length_append, List.length_append] at hz
                  omega
                · intro j es ej ez
                  rcases hk j _ ej with ⟨_, z⟩ | ⟨h1, h2⟩
                  · cases z
                  · rcases wipeE_get h1 with z | ⟨h3, h4⟩
                    · cases z
                    · rw [h2, wipe_keep h3] at ez
                      obtain ⟨a, us, ev, _, _, ha, _⟩ := S.sl j _ h4
                      rw [ez] at ev
                      cases ev
                      exact hn _ ha
                · intro j kvs ej ez
                  rcases hk j _ ej with ⟨_, z⟩ | ⟨h1, h2⟩
                  · cases z
                  · rcases wipeE_get h1 with z | ⟨h3, h4⟩
                    · cases z
                    · rw [h2, wipe_keep h3] at ez
                      obtain ⟨a, us, ev, _, _, ha, _⟩ := S.sl j _ h4
                      rw [ez] at ev
                      cases ev
                      exact hn _ ha
  · have e0 : i = items.length := by omega
    subst e0
    rw [List.drop_length] at el
    cases el
    rw [List.append_nil] at ey
    subst ey
    exact .inl ⟨wk.stops Hc gG, k (.ref Dl) Hc (g1.trans gc) (fc.os fun a _ _ _ o => .inl o) ⟨Dl, ws', ys, rfl, rfl, hn, eDc, rc, fun kd' F' f' => feed_nc fc f'⟩⟩
end TH
/-! Calls of defs; the contexts. -/
namespace TH
open PySem PySem.Spec PyProof.Rows L2
/-- a def keeps a promise, where no guard is up -/
structure FnG (P : Program) (w : World) (K : PySem.W.Frag) (mg : Str → Option Value) (base : Heap) (k : Nat) (f : Addr) (fd : FuncData) (ps : List Str) (sp : Sp) : Prop where
  run : ∀ (A : Around) (outer : List Env) (s : Shared) (H : Hp) (args : Args) (us : List Value) (vs : List V) (Q : VK) (E : XK), Room k A → A.guards = some [] → Env0 P w K mg base A outer s H → BindsTo s fd args (ps.zip us) → Vals vs us → sp vs H Q E →
    codeAny (model P w) A (.call (.ref f) args) (CR (L2.CX P w) outer P w H s Q E) s
theorem FnG.mono {P : Program} {w : World} {K : PySem.W.Frag} {mg : Str → Option Value} {base : Heap} {j k : Nat} {f : Addr} {fd : FuncData} {ps : List Str} {sp : Sp} (F : FnG P w K mg base j f fd ps sp) (h : j ≤ k) : FnG P w K mg base k f fd ps sp :=
  ⟨fun A outer s H args us vs Q E hr => F.run A outer s H args us vs Q E (hr.mono h)⟩
/-- the promise of a def by a function on data -/
def SpD (K : PySem.W.Frag) (mg : Str → Option Value) (kd : FK) (n : Nat) (g : List D → Fd → Ou D) : Sp := fun vs H Q E => vs.length = n ∧ ∃ fa O ds F, Hd K fa O kd H F ∧ Rps K fa O H vs ds ∧
  match g ds F with
  | .ok d F' => Nx K fa O kd H F' d Q
  | .ex c fs F' => ∀ cls od H2, Ge fa H H2 → FeedAt K fa O kd H2 F' → ExR K mg fa O H2 cls od c fs → E cls od H2
  | .no => False
/-- the def behind the name x: its parameters, how many are given by position -/
structure Cal0 (P : Program) (w : World) (K : PySem.W.Frag) (mg : Str → Option Value) (base : Heap) (k : Nat) (x : Str) (ps : List Str) (ns : List Nat) (sp : Sp) : Prop where
  ex : ∃ f fd, mg x = some (.ref f) ∧ PySem.W.keepIn K (.ref f) = true ∧ FnG P w K mg base k f fd ps sp ∧
    (∀ n, n ∈ ns → ∀ us ws : List Value, us.length = n → us.length + ws.length = ps.length → bindArgs fd ⟨us, (ps.drop n).zip ws⟩ = pure (ps.zip (us ++ ws))) ∧
    ∀ n ord, n + ord.length = ps.length → (∀ i ∈ ord, i < ord.length) → n ≤ 9 → codeO n ord ∈ ns → ∀ us ws : List Value, us.length = n → ws.length = ord.length → bindArgs fd ⟨us, (namesO ord (ps.drop n)).zip ws⟩ = pure (ps.zip (us ++ permO .none ord ws))
abbrev Cal (P : Program) (w : World) (K : PySem.W.Frag) (mg : Str → Option Value) (base : Heap) (kd : FK) (k : Nat) (x : Str) (ps : List Str) (ns : List Nat) (g : List D → Fd → Ou D) : Prop := Cal0 P w K mg base k x ps ns (SpD K mg kd ps.length g)
theorem Cal0.mono {P : Program} {w : World} {K : PySem.W.Frag} {mg : Str → Option Value} {base : Heap} {j k : Nat} {x : Str} {ps : List Str} {ns : List Nat} {sp : Sp} (C : Cal0 P w K mg base j x ps ns sp) (h : j ≤ k) : Cal0 P w K mg base k x ps ns sp := by
  obtain ⟨f, fd, h1, h2, h3, h4, h5⟩ := C.ex
  exact ⟨f, fd, h1, h2, h3.mono h, h4, h5⟩
section
variable {X : Cx} {σ : L2.St} {H : Hp} {Q : VK} {pos p : Pos} {x : Str} {es : List Expr} {kws : List Keyword}
def SmK (X : Cx) (kws : List Keyword) (σ : L2.St) (H : Hp) (Q : List V → Hp → Prop) : Prop := ∀ (pos : Pos) (pins : List (Addr × Obj)) (s : Shared), Inv X pins σ H s →
  wpAny (model X.prog X.w) X.A (evalAll ((backToKw pos (keywordEach kws X.env)).map (·.2))) (AP X pins σ Q) X.xe s
theorem pk_sm : PK X kws (SmK X kws) := ⟨fun pos pins s _ _ _ I h => h pos pins s I⟩
theorem sk_nil {Q : List V → Hp → Prop} (h : Q [] H) : SmK X [] σ H Q := fun pos pins s I => pk_nil.run pos pins s σ H Q I h
theorem sk_cons {e : Expr} {nm : Option Str} {kpos : Pos} {Q : List V → Hp → Prop} (h : SmE X e σ H fun x H1 => SmK X kws σ H1 fun xs H2 => Q (x :: xs) H2) : SmK X (⟨nm, e, kpos⟩ :: kws) σ H Q :=
  fun pos pins s I => (pk_cons pe_sm pk_sm).run pos pins s σ H Q I h
theorem star_any {env : Env} : ∀ {es : List Expr}, es.all nostar = true → (backTo pos (starEach es env)).any (·.1) = false
  | [], _ => rfl
  | e :: es, h => by
    rw [List.all_cons, Bool.and_eq_true] at h
    rw [star_of h.1]
    show (false || (backTo pos (starEach es env)).any (·.1)) = false
    rw [star_any h.2]; rfl
theorem kw_all {env : Env} : ∀ {kws : List Keyword} {ks : List Str}, kws.map (·.arg) = ks.map some → (backToKw pos (keywordEach kws env)).all (·.1.isSome) = true ∧ (backToKw pos (keywordEach kws env)).any (·.1.isNone) = false ∧ (backToKw pos (keywordEach kws env)).filterMap (·.1) = ks
  | [], [], _ => ⟨rfl, rfl, rfl⟩
  | [], _ :: _, h => by cases h
  | _ :: _, [], h => by cases h
  | ⟨a, v, q⟩ :: kws, y :: ks, h => by
    simp only [List.map_cons, List.cons.injEq] at h
    obtain ⟨h1, h2⟩ := h
    obtain ⟨a1, a2, a3⟩ := kw_all (env := env) h2
    cases h1
    refine ⟨?_, ?_, ?_⟩
    · show (true && (backToKw pos (keywordEach kws env)).all (·.1.isSome)) = true
      rw [a1]; rfl
    · show (false || (backToKw pos (keywordEach kws env)).any (·.1.isNone)) = false
      rw [a2]; rfl
    · show y :: (backToKw pos (keywordEach kws env)).filterMap (·.1) = y :: ks
      rw [a3]
/-- what a call may let out, at these slots -/
def PassSt (X : Cx) (σ : L2.St) (E : XK) : Prop := ∀ (pins : List (Addr × Obj)) (H1 : Hp) (s : Shared) (e : Value) (s' : Shared), Inv X pins σ H1 s → L2.CX X.prog X.w X.stack H1 s E e s' → X.xe e s'
/-- the arguments of a call, by position, by name -/
def SmArgs (X : Cx) (es : List Expr) (kws : List Keyword) (σ : L2.St) (H : Hp) (Q : List V → List V → Hp → Prop) : Prop :=
  match es, kws with
  | [], [] => Q [] [] H
  | [], kw :: kws => SmK X (kw :: kws) σ H fun zs H1 => Q [] zs H1
  | e :: es, [] => SmA X (e :: es) σ H fun vs H1 => Q vs [] H1
  | e :: es, kw :: kws => SmA X (e :: es) σ H fun vs H1 => SmK X (kw :: kws) σ H1 fun zs H2 => Q vs zs H2
theorem SmA.mono {es : List Expr} {Q Q' : List V → Hp → Prop} (h : SmA X es σ H Q) (k : ∀ v H', Q v H' → Q' v H') : SmA X es σ H Q' := fun pos pins s I => thn (h pos pins s I) fun _ _ ⟨v, H', I', r, q⟩ => ⟨v, H', I', r, k v H' q⟩
theorem SmK.mono {es : List Keyword} {Q Q' : List V → Hp → Prop} (h : SmK X es σ H Q) (k : ∀ v H', Q v H' → Q' v H') : SmK X es σ H Q' := fun pos pins s I => thn (h pos pins s I) fun _ _ ⟨v, H', I', r, q⟩ => ⟨v, H', I', r, k v H' q⟩
theorem SmArgs.mono {es : List Expr} {kws : List Keyword} {Q Q' : List V → List V → Hp → Prop} (h : SmArgs X es kws σ H Q) (k : ∀ v z H', Q v z H' → Q' v z H') : SmArgs X es kws σ H Q' := by
  unfold SmArgs at h ⊢
  split at h
  · exact k _ _ _ h
  · exact h.mono fun z H' q => k _ _ _ q
  · exact h.mono fun z H' q => k _ _ _ q
  · exact h.mono fun z H' q => q.mono fun z2 H2 q2 => k _ _ _ q2
theorem sm_callG {k : Nat} {ps nz : List Str} {sp : Sp} {f : Addr} {fd : FuncData} {φ : List Value → List Value} {ψ : List V → List V} (hg : Gl X x) (hm : X.mg x = some (.ref f)) (hkp : PySem.W.keepIn X.K (.ref f) = true) (F : FnG X.prog X.w X.K X.mg X.base k f fd ps sp) (hr : Room k X.A) (hgd : X.A.guards = some []) (hdb : (x == ("__debug__" : Str)) = false) (hs : es.all nostar = true)
    (hk : kws.map (·.arg) = nz.map some) (hb : ∀ us ws : List Value, us.length = es.length → ws.length = nz.length → bindArgs fd ⟨us, nz.zip ws⟩ = pure (ps.zip (us ++ φ ws))) (hv : ∀ zs ws, Vals zs ws → Vals (ψ zs) (φ ws)) (hn0 : nz = [] → φ [] = [])
    (h : SmArgs X es kws σ H fun vs zs H2 => vs.length = es.length ∧ zs.length = nz.length ∧ ∃ E, PassSt X σ E ∧ sp (vs ++ ψ zs) H2 Q E) : SmE X (.Call (.Name x p) es kws pos) σ H Q := fun pins s I => by
  refine wpAny_Call_Name_kw (ld_glob I hg hm ?_ hdb)
  obtain ⟨a1, a2, a3⟩ := kw_all (pos := pos) (env := X.env) hk
  have fin : ∀ (us ws : List Value) (vs zs : List V) (H2 : Hp) (s2 : Shared), Inv X pins σ H2 s2 → Vals vs us → Vals zs ws → (vs.length = es.length ∧ zs.length = nz.length ∧ ∃ E, PassSt X σ E ∧ sp (vs ++ ψ zs) H2 Q E) →
      wpAny (model X.prog X.w) X.A (call (.ref f) us (nz.zip ws)) (EP X pins σ Q) X.xe s2 := by
    intro us ws vs zs H2 s2 I2 r rz ⟨l1, l2, E, hx, hsp⟩
    have b := hb us ws (by rw [← r.length, l1]) (by rw [← rz.length, l2])
    refine wpAny_call (codeAny_mono (F.run X.A X.stack s2 H2 ⟨us, nz.zip ws⟩ (us ++ φ ws) (vs ++ ψ zs) Q E hr hgd I2.env0 (.of_eq b) (r.append (hv zs ws rz)) hsp) fun r s' hq => ?_)
    cases r with
    | error e => exact hx pins H2 s2 e s' I2 hq
    | ok fl =>
      cases fl with
      | ret u => exact I2.after hq
      | next => exact False.elim hq
      | brk => exact False.elim hq
      | cont => exact False.elim hq
  have fin0 : ∀ (us : List Value) (vs : List V) (H2 : Hp) (s2 : Shared), nz = [] → Inv X pins σ H2 s2 → Vals vs us → (vs.length = es.length ∧ ([] : List V).length = nz.length ∧ ∃ E, PassSt X σ E ∧ sp (vs ++ ψ []) H2 Q E) →
      wpAny (model X.prog X.w) X.A (call (.ref f) us) (EP X pins σ Q) X.xe s2 := by
    intro us vs H2 s2 e0 I2 r q
    have q2 := fin us [] vs [] H2 s2 I2 r .nil q
    rw [e0] at q2
    exact q2
  cases kws with
  | nil =>
    have e0 : nz = [] := by
      cases h0 : nz with
      | nil => rfl
      | cons _ _ => rw [h0] at hk; cases hk
    cases es with
    | nil => exact PySem.W.callWith_K0 I.kIn hkp (fin0 [] [] H s e0 I .nil h)
    | cons e es =>
      have h : SmA X (e :: es) σ H fun vs H1 => _ := h
      have hs' := hs
      rw [List.all_cons, Bool.and_eq_true] at hs'
      refine PySem.W.callWith_K (h₀ := X.base) I.ok.mod.kin hkp (thn (h pos pins s I) fun us s1 ⟨vs, H1, I1, r, q⟩ => ⟨I1.kIn, fin0 us vs H1 s1 e0 I1 r q⟩) (star_of hs'.1) (star_any hs'.2)
  | cons kw kws =>
    cases es with
    | nil =>
      have h : SmK X (kw :: kws) σ H fun zs H1 => _ := h
      refine PySem.W.callWith_KW0 (h₀ := X.base) I.ok.mod.kin hkp a1 (thn (h pos pins s I) fun ws s1 ⟨zs, H1, I1, r, q⟩ => ⟨I1.kIn, ?_⟩) (by rw [a2]; rfl)
      rw [a3]
      exact fin [] ws [] zs H1 s1 I1 .nil r q
    | cons e es =>
      have h : SmA X (e :: es) σ H fun vs H1 => SmK X (kw :: kws) σ H1 _ := h
      have hs' := hs
      rw [List.all_cons, Bool.and_eq_true] at hs'
      refine PySem.W.callWith_KW (h₀ := X.base) I.ok.mod.kin hkp a1 (thn (h pos pins s I) fun us s1 ⟨vs, H1, I1, r, q⟩ => thn (q pos pins s1 I1) fun ws s2 ⟨zs, H2, I2, rz, q2⟩ => ⟨I2.kIn, ?_⟩) (by rw [star_any hs, a2]; rfl) (star_of hs'.1)
      rw [a3]
      exact fin us ws vs zs H2 s2 I2 r rz q2
theorem sm_call {k : Nat} {ps : List Str} {ns : List Nat} {sp : Sp} (hg : Gl X x) (C : Cal0 X.prog X.w X.K X.mg X.base k x ps ns sp) (hr : Room k X.A) (hgd : X.A.guards = some []) (hdb : (x == ("__debug__" : Str)) = false) (hs : es.all nostar = true)
    (hk : kws.map (·.arg) = (ps.drop es.length).map some) (hn : es.length ∈ ns) (hl : es.length + kws.length = ps.length)
    (h : SmArgs X es kws σ H fun vs zs H2 => vs.length = es.length ∧ vs.length + zs.length = ps.length ∧ ∃ E, PassSt X σ E ∧ sp (vs ++ zs) H2 Q E) : SmE X (.Call (.Name x p) es kws pos) σ H Q := by
  obtain ⟨f, fd, hm, hkp, F, hb, _⟩ := C.ex
  have ln : (ps.drop es.length).length = ps.length - es.length := List.length_drop
  refine sm_callG (nz := ps.drop es.length) (φ := id) (ψ := id) hg hm hkp F hr hgd hdb hs hk (fun us ws h1 h2 => hb es.length hn us ws h1 (by omega)) (fun _ _ r => r) (fun _ => rfl) (SmArgs.mono h fun vs zs H2 ⟨h1, h2, h3⟩ => ⟨h1, by omega, h3⟩)
theorem permO_vals {ord : List Nat} {zs : List V} {ws : List Value} (r : Vals zs ws) : Vals (permO .non ord zs) (permO .none ord ws) := by
  unfold permO
  have one : ∀ j, RelV (zs.getD j .non) (ws.getD j .none) := fun j => by
    rw [List.getD_eq_getElem?_getD, List.getD_eq_getElem?_getD]
    cases e : zs[j]? with
    | none =>
      have e2 : ws[j]? = none := by
        rw [List.getElem?_eq_none_iff] at e ⊢
        rw [← r.length]; exact e
      rw [e2]; rfl
    | some x =>
      obtain ⟨u, e2, ru⟩ := r.get e
      rw [e2]; exact ru
  induction List.range ord.length with
  | nil => exact .nil
  | cons i l ih => exact .cons (one _) ih
theorem permO_rps {K : PySem.W.Frag} {fa : Addr} {O : Os} {H : Hp} {ord : List Nat} {zs : List V} {ys : List D} (r : Rps K fa O H zs ys) : Rps K fa O H (permO .non ord zs) (permO .non ord ys) := by
  unfold permO
  have one : ∀ j, Rp K fa O H (zs.getD j .non) (ys.getD j .non) := fun j => by
    rw [List.getD_eq_getElem?_getD, List.getD_eq_getElem?_getD]
    cases e : ys[j]? with
    | none =>
      have e2 : zs[j]? = none := by
        rw [List.getElem?_eq_none_iff] at e ⊢
        rw [r.length]; exact e
      rw [e2]; exact .non
    | some x =>
      obtain ⟨u, e2, ru⟩ := r.get e
      rw [e2]; exact ru
  induction List.range ord.length with
  | nil => exact .nil
  | cons i l ih => exact .cons (one _) ih
/-- .. with keywords in an order of their own -/
theorem sm_callp {k : Nat} {ps : List Str} {ns ord : List Nat} {sp : Sp} (hg : Gl X x) (C : Cal0 X.prog X.w X.K X.mg X.base k x ps ns sp) (hr : Room k X.A) (hgd : X.A.guards = some []) (hdb : (x == ("__debug__" : Str)) = false) (hs : es.all nostar = true)
    (hk : kws.map (·.arg) = (namesO ord (ps.drop es.length)).map some) (hn : codeO es.length ord ∈ ns) (hl : es.length + ord.length = ps.length) (ho : ∀ i ∈ ord, i < ord.length) (h9 : es.length ≤ 9) (hne : ord ≠ [])
    (h : SmArgs X es kws σ H fun vs zs H2 => vs.length = es.length ∧ zs.length = ord.length ∧ ∃ E, PassSt X σ E ∧ sp (vs ++ permO .non ord zs) H2 Q E) : SmE X (.Call (.Name x p) es kws pos) σ H Q := by
  obtain ⟨f, fd, hm, hkp, F, _, hb⟩ := C.ex
  have ln : (namesO ord (ps.drop es.length)).length = ord.length := by unfold namesO; rw [List.length_map]
  refine sm_callG (nz := namesO ord (ps.drop es.length)) (φ := permO .none ord) (ψ := permO .non ord) hg hm hkp F hr hgd hdb hs hk (fun us ws h1 h2 => hb es.length ord hl ho h9 hn us ws h1 (by rw [h2, ln])) (fun _ _ r => permO_vals r) (fun z => ?_) (SmArgs.mono h fun vs zs H2 ⟨h1, h2, h3⟩ => ⟨h1, by rw [ln]; exact h2, h3⟩)
  exfalso
  have := congrArg List.length z
  rw [ln] at this
  exact hne (List.eq_nil_of_length_eq_zero this)
end
end TH
/-! The text against the small language: a check by evaluation. -/
namespace TH
open PySem PySem.Spec PyProof.Rows L2

def bNames : List Str := ["len", "tuple", "list", "int", "sum", "min", "max", "repr", "sorted", "all", "any", "abs", "isinstance", "bool", "str", "range", "enumerate", "zip", "set"]
def visB (sc : Scope) (x : Str) : Bool := match sc.names.lookup x with | some .local => true | some .cell => true | some .free => true | _ => false
def locB (sc : Scope) (x : Str) : Bool := match sc.names.lookup x with | some .local => true | some .cell => true | _ => false
def glB (sc : Scope) (x : Str) : Bool := match sc.names.lookup x with | some .globalImplicit => true | _ => false
def dbB (x : Str) : Bool := !(x == ("__debug__" : Str))
def constB (d : D) (c : Const) : Bool := match d, c with
  | .int i, .int j => decide (i = j)
  | .bl i, .bool j => decide (i = j)
  | .str i, .str j => decide (i = j)
  | .non, .none => true
  | _, _ => false
def fldB (b : FK0) (n : Nat) (c : Const) : Bool :=
  match b, c with
  | .dic m, .str x => decide (x = m.key n) && decide (n ≤ 3)
  | .lst, .int i => decide (i = (n : Int)) && decide (n ≤ 3)
  | _, _ => false
def noSl : Expr → Bool
  | .Slice _ _ _ _ => false
  | _ => true
def noSet : Expr → Bool
  | .Set _ _ _ => false
  | _ => true
def isTupE : Expr → Bool
  | .Tuple _ _ _ => true
  | _ => false
def isAnd : IE → Bool
  | .band _ _ => true
  | _ => false
def isOr : IE → Bool
  | .bor _ _ => true
  | _ => false
def isNil : IE → Bool
  | .nil => true
  | _ => false
def isAbs : IE → Bool
  | .absent => true
  | _ => false
/-- the target of a walk by pairs is a tuple -/
def pairI : IE → Bool
  | .enum _ => true
  | .zip _ _ => true
  | _ => false
/-- a test's form is one that is served -/
def tOk (a : IE) (e : Expr) : Bool := isT a || plainT e
def tOkI (it : IE) (tg : Expr) : Bool := !pairI it || isTupE tg
/-- a target's name, in the scope of its block -/
def nameT (N : List Str) (scope rs : Scope) (i : Nat) (x : Str) : Bool := decide (N[i]? = some x) && locB rs x && (decide (rs.names.lookup x = some .local) || decide (scope.names.lookup x = some .cell))
def chTg (N : List Str) (scope rs : Scope) (tg : IE) (e : Expr) : Bool :=
  match tg with
  | .v i => match e with
    | .Name x _ => nameT N scope rs i x
    | _ => false
  | .tup (.cons (.v i) (.cons (.v j) .nil)) => match e with
    | .Tuple [.Name x _, .Name y _] _ _ => nameT N scope rs i x && nameT N scope rs j y
    | _ => false
  | .tup (.cons (.v i) (.cons (.v j) (.cons (.v k) .nil))) => match e with
    | .Tuple [.Name x _, .Name y _, .Name z _] _ _ => nameT N scope rs i x && nameT N scope rs j y && nameT N scope rs k z
    | _ => false
  | _ => false
def ownN (N : List Str) (own : List Nat) : List (Str × Nat) := own.map fun i => (N.getD i "", i)
theorem ownN_snd (N : List Str) (own : List Nat) : (ownN N own).map (·.2) = own := by
  unfold ownN
  rw [List.map_map]
  show own.map (fun i => i) = own
  simp
/-- the names of defs that tell what came, of classes of errors, of tuples of numbers: told apart by their numbers -/
def heardB (nm : Str → Option (List Str × List Nat)) (x : Str) : Bool := match nm x with
  | some ([_], []) => true
  | _ => false
def hasH (nm : Str → Option (List Str × List Nat)) (sc : Scope) : Bool := sc.names.any fun y => heardB nm y.1
def noPar (p : Arguments) : Bool := p.posonlyargs.isEmpty && p.args.isEmpty && p.vararg.isNone && p.kwonlyargs.isEmpty && p.kw_defaults.isEmpty && p.kwarg.isNone && p.defaults.isEmpty
def hOk (nm : Str → Option (List Str × List Nat)) (scope sc : Scope) : Bool := !hasH nm (relS scope sc) || hasH nm sc
def tgOk (N : List Str) (own : List Nat) (tg : IE) : Bool := (tgS tg).all fun i => own.contains i && decide (i < N.length)
section
variable (N : List Str) (nm : Str → Option (List Str × List Nat))
mutual
def chE : IE → Scope → Expr → Bool
  | .v i, sc, e => match e with
    | .Name x _ => decide (N[i]? = some x) && visB sc x && dbB x && !(x == ("__classdict__" : Str))
    | _ => false
  | .fget b i n, sc, e => match e with
    | .Subscript (.Name x _) (.Constant c _ _) _ => decide (N[i]? = some x) && visB sc x && dbB x && !(x == ("__classdict__" : Str)) && fldB b n c
    | _ => false
  | .c d, _, e => match e with
    | .Constant c _ _ => constB d c
    | _ => false
  | .bin op a b, sc, e => match e with
    | .BinOp a' op' b' _ => decide (op = op') && chE a sc a' && chE b sc b'
    | _ => false
  | .neg a, sc, e => match e with
    | .UnaryOp op a' _ => decide (op = .USub) && chE a sc a'
    | _ => false
  | .not a, sc, e => match e with
    | .UnaryOp op a' _ => decide (op = .Not) && tOk a a' && chE a sc a'
    | _ => false
  | .band a b, sc, e => match e with
    | .BoolOp op (a' :: b' :: rest) pos => decide (op = .And) && tOk a a' && chE a sc a' && (match rest with
      | [] => tOk b b' && chE b sc b'
      | _ :: _ => isAnd b && chE b sc (.BoolOp .And (b' :: rest) pos))
    | _ => false
  | .bor a b, sc, e => match e with
    | .BoolOp op (a' :: b' :: rest) pos => decide (op = .Or) && tOk a a' && chE a sc a' && (match rest with
      | [] => tOk b b' && chE b sc b'
      | _ :: _ => isOr b && chE b sc (.BoolOp .Or (b' :: rest) pos))
    | _ => false
  | .cmp op a b, sc, e => match e with
    | .Compare a' [op'] [b'] _ => decide (op = op') && !behindInMarks op' b' && chE a sc a' && chE b sc b'
    | _ => false
  | .chn op1 op2 a b c, sc, e => match e with
    | .Compare a' [o1, o2] [b', c'] _ => decide (op1 = o1) && decide (op2 = o2) && !lastMarks [o1, o2] [b', c'] && chE a sc a' && chE b sc b' && chE c sc c'
    | _ => false
  | .ife t a b, sc, e => match e with
    | .IfExp t' a' b' _ => tOk t t' && chE t sc t' && chE a sc a' && chE b sc b'
    | _ => false
  | .tup es, sc, e => match e with
    | .Tuple es' _ _ => chL es sc es'
    | _ => false
  | .lst es, sc, e => match e with
    | .List es' _ => chL es sc es'
    | _ => false
  | .ix a i, sc, e => match e with
    | .Subscript a' i' _ => noSl i' && chE a sc a' && chE i sc i'
    | _ => false
  | .sl a lo hi, sc, e => match e with
    | .Subscript a' (.Slice lo' hi' none _) _ => chE a sc a' && (match lo' with
      | none => isAbs lo
      | some e => !isAbs lo && chE lo sc e) && (match hi' with
      | none => isAbs hi
      | some e => !isAbs hi && chE hi sc e)
    | _ => false
  | .call x es ks, sc, e => match e with
    | .Call (.Name y _) es' kws _ => decide (x = y) && glB sc y && dbB y && (match nm y with
      | some (ps, ns) => ns.contains es'.length && !ns.contains 1000 && !ns.contains 1001 && decide (kws.map (·.arg) = (ps.drop es'.length).map some) && decide (es'.length + kws.length = ps.length) && chL es sc es' && chK ks sc kws
      | none => false)
    | _ => false
  | .callp x es ks ord, sc, e => match e with
    | .Call (.Name y _) es' kws _ => decide (x = y) && glB sc y && dbB y && (match nm y with
      | some (ps, ns) => ns.contains (codeO es'.length ord) && !ns.contains 1000 && !ns.contains 1001 && decide (kws.map (·.arg) = (namesO ord (ps.drop es'.length)).map some) && decide (es'.length + ord.length = ps.length) && decide (kws.length = ord.length) && ord.all (fun i => decide (i < ord.length)) && decide (es'.length ≤ 9) && !ord.isEmpty && chL es sc es' && chK ks sc kws
      | none => false)
    | _ => false
  | .bi f es, sc, e => match e with
    | .Call (.Name y _) (e0 :: r) [] _ => decide (y = f.name) && glB sc y && chL es sc (e0 :: r)
    | _ => false
  | .isi T a, sc, e => match e with
    | .Call (.Name y _) [a', .Name t _] [] _ => decide (y = "isinstance") && decide (t = T.name) && glB sc y && glB sc t && chE a sc a'
    | _ => false
  | .inG neg a x ns, sc, e => match e with
    | .Compare a' [op] [.Name y _] _ => decide (op = if neg = true then .NotIn else .In) && decide (x = y) && glB sc y && dbB y && decide (nm y = some ([], 1001 :: ns)) && chE a sc a'
    | _ => false
  | .mix i b, sc, e => match e with
    | .Call (.Attribute (.Name x _) m q) [b'] [] q2 => decide (m = "index") && decide (N[i]? = some x) && visB sc x && dbB x && !(x == ("__classdict__" : Str)) && chE b sc b' && (q.endLine == q2.line)
    | _ => false
  | .heard x b, sc, e => match e with
    | .Call (.Name y _) [.Lambda params body scope _] [] _ => decide (x = y) && glB sc y && dbB y && heardB nm y && noPar params && LamX.lamSB sc scope && !hasH nm scope && chE b scope body
    | _ => false
  | .lenset a, sc, e => match e with
    | .Call (.Name y _) [.Call (.Name t _) [a'] [] _] [] _ => decide (y = "len") && decide (t = "set") && glB sc y && glB sc t && chE a sc a'
    | _ => false
  | .lstrng lo hi, sc, e => match e with
    | .Call (.Name y _) [.Call (.Name t _) (e0 :: r) [] _] [] _ => decide (y = "list") && decide (t = "range") && glB sc y && glB sc t && (match r with
      | [] => isAbs lo && chE hi sc e0
      | [e1] => !isAbs lo && chE lo sc e0 && chE hi sc e1
      | _ => false)
    | _ => false
  | .rng es, sc, e => match e with
    | .Call (.Name y _) (e0 :: r) [] _ => decide (y = "range") && glB sc y && decide (r.length ≤ 1) && chL es sc (e0 :: r)
    | _ => false
  | .enum a, sc, e => match e with
    | .Call (.Name y _) [a'] [] _ => decide (y = "enumerate") && glB sc y && chE a sc a'
    | _ => false
  | .zip a b, sc, e => match e with
    | .Call (.Name y _) [a', b'] [] _ => decide (y = "zip") && glB sc y && chE a sc a' && chE b sc b'
    | _ => false
  | .lc elt tg it ifs own, sc, e => match e with
    | .ListComp elt' [⟨tg', it', ifs', as⟩] scope _ => decide (as = 0) && (noSet it' && hOk nm scope sc) && blkC N sc scope (ownN N own) && chTg N scope (relS scope sc) tg tg' && tgOk N own tg && tOkI it tg' && chE it sc it' &&
        (match ifs' with
          | [] => isNil ifs
          | [c] => tOk ifs c && chE ifs (relS scope sc) c
          | _ => false) && chE elt (relS scope sc) elt'
    | _ => false
  | .lc2 elt tg it ifs tg1 it1 ifs1 own own1, sc, e => match e with
    | .ListComp elt' [⟨tg', it', ifs', as⟩, ⟨tg1', it1', ifs1', as1⟩] scope _ => decide (as = 0) && (noSet it' && hOk nm scope sc) && blkC N sc scope (ownN N own) && chTg N scope (relS scope sc) tg tg' && tgOk N own tg && tOkI it tg' && chE it sc it' &&
        (match ifs' with
          | [] => isNil ifs
          | [c] => tOk ifs c && chE ifs (relS scope sc) c
          | _ => false) && chE elt (relS scope sc) elt' &&
        decide (as1 = 0) && noSet it1' && chTg N scope (relS scope sc) tg1 tg1' && tgOk N own1 tg1 && tOkI it1 tg1' && chE it1 (relS scope sc) it1' && (own1.all fun i => own.contains i) &&
        (match ifs1' with
          | [] => isNil ifs1
          | [c] => tOk ifs1 c && chE ifs1 (relS scope sc) c
          | _ => false)
    | _ => false
  | .bad, _, e => nostar e
  | _, _, _ => false
def chL : IE → Scope → List Expr → Bool
  | .nil, _, es => es.isEmpty
  | .cons a r, sc, es => match es with
    | e :: es => chE a sc e && chL r sc es
    | [] => false
  | _, _, _ => false
def chK : IE → Scope → List Keyword → Bool
  | .nil, _, es => es.isEmpty
  | .cons a r, sc, es => match es with
    | ⟨_, e, _⟩ :: es => chE a sc e && chK r sc es
    | [] => false
  | _, _, _ => false
end
end
example : chE [] (fun _ => none) (.neg (.c (.int 1))) ⟨.function, [], false, false, []⟩ (.UnaryOp .USub (.Constant (.int 1) 0 ⟨0,0,0,0⟩) ⟨0,0,0,0⟩) = true := rfl
end TH
/-! The check, read backwards. -/
namespace TH
open PySem PySem.Spec PyProof.Rows L2
section
variable {N : List Str} {nm : Str → Option (List Str × List Nat)} {sc : Scope} {x : Expr}
theorem ch_v {i : Nat} (h : chE N nm (.v i) sc x = true) : ∃ y p, x = .Name y p ∧ N[i]? = some y ∧ visB sc y = true ∧ dbB y = true ∧ (y == ("__classdict__" : Str)) = false := by
  unfold chE at h
  split at h
  · simp only [Bool.and_eq_true, decide_eq_true_eq, Bool.not_eq_true'] at h
    exact ⟨_, _, rfl, h.1.1.1, h.1.1.2, h.1.2, h.2⟩
  · cases h
theorem ch_fget {b : FK0} {i n : Nat} (h : chE N nm (.fget b i n) sc x = true) : ∃ y p c j p2 p3, x = .Subscript (.Name y p) (.Constant c j p2) p3 ∧ N[i]? = some y ∧ visB sc y = true ∧ dbB y = true ∧ (y == ("__classdict__" : Str)) = false ∧ fldB b n c = true := by
  unfold chE at h
  split at h
  · simp only [Bool.and_eq_true, decide_eq_true_eq, Bool.not_eq_true'] at h
    exact ⟨_, _, _, _, _, _, rfl, h.1.1.1.1, h.1.1.1.2, h.1.1.2, h.1.2, h.2⟩
  · cases h
theorem ch_c {d : D} (h : chE N nm (.c d) sc x = true) : ∃ c j p, x = .Constant c j p ∧ constB d c = true := by
  unfold chE at h
  split at h
  · exact ⟨_, _, _, rfl, h⟩
  · cases h
theorem ch_bin {op : Operator} {a b : IE} (h : chE N nm (.bin op a b) sc x = true) : ∃ a' b' p, x = .BinOp a' op b' p ∧ chE N nm a sc a' = true ∧ chE N nm b sc b' = true := by
  unfold chE at h
  split at h
  · simp only [Bool.and_eq_true, decide_eq_true_eq] at h
    obtain ⟨⟨rfl, h1⟩, h2⟩ := h
    exact ⟨_, _, _, rfl, h1, h2⟩
  · cases h
theorem ch_neg {a : IE} (h : chE N nm (.neg a) sc x = true) : ∃ a' p, x = .UnaryOp .USub a' p ∧ chE N nm a sc a' = true := by
  unfold chE at h
  split at h
  · simp only [Bool.and_eq_true, decide_eq_true_eq] at h
    obtain ⟨rfl, h1⟩ := h
    exact ⟨_, _, rfl, h1⟩
  · cases h
theorem ch_not {a : IE} (h : chE N nm (.not a) sc x = true) : ∃ a' p, x = .UnaryOp .Not a' p ∧ tOk a a' = true ∧ chE N nm a sc a' = true := by
  unfold chE at h
  split at h
  · simp only [Bool.and_eq_true, decide_eq_true_eq] at h
    obtain ⟨⟨rfl, h1⟩, h2⟩ := h
    exact ⟨_, _, rfl, h1, h2⟩
  · cases h
theorem ch_band {a b : IE} (h : chE N nm (.band a b) sc x = true) : ∃ a' b' rest pos, x = .BoolOp .And (a' :: b' :: rest) pos ∧ tOk a a' = true ∧ chE N nm a sc a' = true ∧ ((rest = [] ∧ tOk b b' = true ∧ chE N nm b sc b' = true) ∨ (rest ≠ [] ∧ isAnd b = true ∧ chE N nm b sc (.BoolOp .And (b' :: rest) pos) = true)) := by
  unfold chE at h
  split at h
  · rename_i op a' b' rest pos
    simp only [Bool.and_eq_true, decide_eq_true_eq] at h
    obtain ⟨⟨⟨rfl, h2⟩, h3⟩, h4⟩ := h
    refine ⟨_, _, _, _, rfl, h2, h3, ?_⟩
    split at h4
    · rw [Bool.and_eq_true] at h4; exact .inl ⟨rfl, h4.1, h4.2⟩
    · rw [Bool.and_eq_true] at h4; exact .inr ⟨by simp, h4.1, h4.2⟩
  · cases h
theorem ch_bor {a b : IE} (h : chE N nm (.bor a b) sc x = true) : ∃ a' b' rest pos, x = .BoolOp .Or (a' :: b' :: rest) pos ∧ tOk a a' = true ∧ chE N nm a sc a' = true ∧ ((rest = [] ∧ tOk b b' = true ∧ chE N nm b sc b' = true) ∨ (rest ≠ [] ∧ isOr b = true ∧ chE N nm b sc (.BoolOp .Or (b' :: rest) pos) = true)) := by
  unfold chE at h
  split at h
  · rename_i op a' b' rest pos
    simp only [Bool.and_eq_true, decide_eq_true_eq] at h
    obtain ⟨⟨⟨rfl, h2⟩, h3⟩, h4⟩ := h
    refine ⟨_, _, _, _, rfl, h2, h3, ?_⟩
    split at h4
    · rw [Bool.and_eq_true] at h4; exact .inl ⟨rfl, h4.1, h4.2⟩
    · rw [Bool.and_eq_true] at h4; exact .inr ⟨by simp, h4.1, h4.2⟩
  · cases h
theorem ch_cmp {op : CmpOp} {a b : IE} (h : chE N nm (.cmp op a b) sc x = true) : ∃ a' b' p, x = .Compare a' [op] [b'] p ∧ behindInMarks op b' = false ∧ chE N nm a sc a' = true ∧ chE N nm b sc b' = true := by
  unfold chE at h
  split at h
  · simp only [Bool.and_eq_true, decide_eq_true_eq, Bool.not_eq_true'] at h
    obtain ⟨⟨⟨rfl, h1⟩, h2⟩, h3⟩ := h
    exact ⟨_, _, _, rfl, h1, h2, h3⟩
  · cases h
theorem ch_chn {op1 op2 : CmpOp} {a b c : IE} (h : chE N nm (.chn op1 op2 a b c) sc x = true) : ∃ a' b' c' p, x = .Compare a' [op1, op2] [b', c'] p ∧ lastMarks [op1, op2] [b', c'] = false ∧ chE N nm a sc a' = true ∧ chE N nm b sc b' = true ∧ chE N nm c sc c' = true := by
  unfold chE at h
  split at h
  · simp only [Bool.and_eq_true, decide_eq_true_eq, Bool.not_eq_true'] at h
    obtain ⟨⟨⟨⟨⟨rfl, rfl⟩, h1⟩, h2⟩, h3⟩, h4⟩ := h
    exact ⟨_, _, _, _, rfl, h1, h2, h3, h4⟩
  · cases h
theorem ch_ife {t a b : IE} (h : chE N nm (.ife t a b) sc x = true) : ∃ t' a' b' p, x = .IfExp t' a' b' p ∧ tOk t t' = true ∧ chE N nm t sc t' = true ∧ chE N nm a sc a' = true ∧ chE N nm b sc b' = true := by
  unfold chE at h
  split at h
  · simp only [Bool.and_eq_true] at h
    obtain ⟨⟨⟨h1, h2⟩, h3⟩, h4⟩ := h
    exact ⟨_, _, _, _, rfl, h1, h2, h3, h4⟩
  · cases h
theorem ch_tup {es : IE} (h : chE N nm (.tup es) sc x = true) : ∃ es' k p, x = .Tuple es' k p ∧ chL N nm es sc es' = true := by
  unfold chE at h
  split at h
  · exact ⟨_, _, _, rfl, h⟩
  · cases h
theorem ch_lst {es : IE} (h : chE N nm (.lst es) sc x = true) : ∃ es' p, x = .List es' p ∧ chL N nm es sc es' = true := by
  unfold chE at h
  split at h
  · exact ⟨_, _, rfl, h⟩
  · cases h
theorem ch_ix {a i : IE} (h : chE N nm (.ix a i) sc x = true) : ∃ a' i' p, x = .Subscript a' i' p ∧ noSl i' = true ∧ chE N nm a sc a' = true ∧ chE N nm i sc i' = true := by
  unfold chE at h
  split at h
  · simp only [Bool.and_eq_true] at h
    exact ⟨_, _, _, rfl, h.1.1, h.1.2, h.2⟩
  · cases h
theorem ch_sl {a lo hi : IE} (h : chE N nm (.sl a lo hi) sc x = true) : ∃ a' lo' hi' p2 p, x = .Subscript a' (.Slice lo' hi' none p2) p ∧ chE N nm a sc a' = true ∧
    ((lo' = none ∧ isAbs lo = true) ∨ ∃ e, lo' = some e ∧ isAbs lo = false ∧ chE N nm lo sc e = true) ∧ ((hi' = none ∧ isAbs hi = true) ∨ ∃ e, hi' = some e ∧ isAbs hi = false ∧ chE N nm hi sc e = true) := by
  unfold chE at h
  split at h
  · rename_i a' lo' hi' p2 p
    simp only [Bool.and_eq_true] at h
    obtain ⟨⟨h1, h2⟩, h3⟩ := h
    refine ⟨_, _, _, _, _, rfl, h1, ?_, ?_⟩
    · cases lo' with
      | none => exact .inl ⟨rfl, h2⟩
      | some e =>
        simp only [Bool.and_eq_true, Bool.not_eq_true'] at h2
        exact .inr ⟨e, rfl, h2.1, h2.2⟩
    · cases hi' with
      | none => exact .inl ⟨rfl, h3⟩
      | some e =>
        simp only [Bool.and_eq_true, Bool.not_eq_true'] at h3
        exact .inr ⟨e, rfl, h3.1, h3.2⟩
  · cases h
theorem ch_call {y : Str} {es ks : IE} (h : chE N nm (.call y es ks) sc x = true) : ∃ p es' kws q ps ns, x = .Call (.Name y p) es' kws q ∧ glB sc y = true ∧ dbB y = true ∧ nm y = some (ps, ns) ∧ (es'.length ∈ ns ∧ 1000 ∉ ns ∧ 1001 ∉ ns) ∧ kws.map (·.arg) = (ps.drop es'.length).map some ∧ es'.length + kws.length = ps.length ∧
    chL N nm es sc es' = true ∧ chK N nm ks sc kws = true := by
  unfold chE at h
  split at h
  · rename_i z p es' kws q
    simp only [Bool.and_eq_true, decide_eq_true_eq] at h
    obtain ⟨⟨⟨rfl, h1⟩, h2⟩, h3⟩ := h
    split at h3
    · rename_i ps ns e
      simp only [Bool.and_eq_true, decide_eq_true_eq, Bool.not_eq_true', List.contains_iff_mem] at h3
      obtain ⟨⟨⟨⟨⟨⟨a1, b1⟩, b2⟩, a2⟩, a3⟩, a4⟩, a5⟩ := h3
      have a1 : es'.length ∈ ns ∧ 1000 ∉ ns ∧ 1001 ∉ ns := ⟨a1, fun z => by simp [z] at b1, fun z => by simp [z] at b2⟩
      exact ⟨p, es', kws, q, ps, ns, rfl, h1, h2, e, a1, a2, a3, a4, a5⟩
    · cases h3
  · cases h
theorem ch_callp {y : Str} {es ks : IE} {ord : List Nat} (h : chE N nm (.callp y es ks ord) sc x = true) : ∃ p es' kws q ps ns, x = .Call (.Name y p) es' kws q ∧ glB sc y = true ∧ dbB y = true ∧ nm y = some (ps, ns) ∧ (codeO es'.length ord ∈ ns ∧ 1000 ∉ ns ∧ 1001 ∉ ns) ∧ kws.map (·.arg) = (namesO ord (ps.drop es'.length)).map some ∧ es'.length + ord.length = ps.length ∧ kws.length = ord.length ∧
    (∀ i ∈ ord, i < ord.length) ∧ es'.length ≤ 9 ∧ ord ≠ [] ∧ chL N nm es sc es' = true ∧ chK N nm ks sc kws = true := by
  unfold chE at h
  split at h
  · rename_i z p es' kws q
    simp only [Bool.and_eq_true, decide_eq_true_eq] at h
    obtain ⟨⟨⟨rfl, h1⟩, h2⟩, h3⟩ := h
    split at h3
    · rename_i ps ns e
      simp only [Bool.and_eq_true, decide_eq_true_eq, Bool.not_eq_true', List.contains_iff_mem, List.all_eq_true] at h3
      obtain ⟨⟨⟨⟨⟨⟨⟨⟨⟨⟨a1, b1⟩, b2⟩, a2⟩, a3⟩, a4⟩, a5⟩, a6⟩, a7⟩, a8⟩, a9⟩ := h3
      exact ⟨p, es', kws, q, ps, ns, rfl, h1, h2, e, ⟨a1, fun z => by simp [z] at b1, fun z => by simp [z] at b2⟩, a2, a3, a4, a5, a6, (by intro z; rw [z] at a7; cases a7), a8, a9⟩
    · cases h3
  · cases h
theorem ch_inG {neg : Bool} {a : IE} {y : Str} {ns : List Nat} (h : chE N nm (.inG neg a y ns) sc x = true) : ∃ a' p q, x = .Compare a' [if neg = true then .NotIn else .In] [.Name y p] q ∧ glB sc y = true ∧ dbB y = true ∧ nm y = some ([], 1001 :: ns) ∧ chE N nm a sc a' = true := by
  unfold chE at h
  split at h
  · simp only [Bool.and_eq_true, decide_eq_true_eq] at h
    obtain ⟨⟨⟨⟨⟨rfl, rfl⟩, h1⟩, h2⟩, h3⟩, h4⟩ := h
    exact ⟨_, _, _, rfl, h1, h2, h3, h4⟩
  · cases h
theorem ch_mix {i : Nat} {b : IE} (h : chE N nm (.mix i b) sc x = true) : ∃ y p q b' q2, x = .Call (.Attribute (.Name y p) "index" q) [b'] [] q2 ∧ N[i]? = some y ∧ visB sc y = true ∧ dbB y = true ∧ (y == ("__classdict__" : Str)) = false ∧ chE N nm b sc b' = true ∧ (q.endLine == q2.line) = true := by
  unfold chE at h
  split at h
  · simp only [Bool.and_eq_true, decide_eq_true_eq, Bool.not_eq_true'] at h
    obtain ⟨⟨⟨⟨⟨⟨rfl, h1⟩, h2⟩, h3⟩, h4⟩, h5⟩, h6⟩ := h
    exact ⟨_, _, _, _, _, rfl, h1, h2, h3, h4, h5, h6⟩
  · cases h
theorem ch_heard {y : Str} {b : IE} (h : chE N nm (.heard y b) sc x = true) : ∃ p params body scope lp q, x = .Call (.Name y p) [.Lambda params body scope lp] [] q ∧ glB sc y = true ∧ dbB y = true ∧ heardB nm y = true ∧ noPar params = true ∧ LamX.lamSB sc scope = true ∧ hasH nm scope = false ∧ chE N nm b scope body = true := by
  unfold chE at h
  split at h
  · simp only [Bool.and_eq_true, decide_eq_true_eq, Bool.not_eq_true'] at h
    obtain ⟨⟨⟨⟨⟨⟨⟨rfl, h1⟩, h2⟩, h3⟩, h4⟩, h5⟩, h6⟩, h7⟩ := h
    exact ⟨_, _, _, _, _, _, rfl, h1, h2, h3, h4, h5, h6, h7⟩
  · cases h
theorem ch_bi {f : Bi} {es : IE} (h : chE N nm (.bi f es) sc x = true) : ∃ p e0 r q, x = .Call (.Name f.name p) (e0 :: r) [] q ∧ glB sc f.name = true ∧ chL N nm es sc (e0 :: r) = true := by
  unfold chE at h
  split at h
  · simp only [Bool.and_eq_true, decide_eq_true_eq] at h
    obtain ⟨⟨rfl, h1⟩, h2⟩ := h
    exact ⟨_, _, _, _, rfl, h1, h2⟩
  · cases h
theorem ch_isi {T : Ty} {a : IE} (h : chE N nm (.isi T a) sc x = true) : ∃ p a' p2 q, x = .Call (.Name "isinstance" p) [a', .Name T.name p2] [] q ∧ glB sc "isinstance" = true ∧ glB sc T.name = true ∧ chE N nm a sc a' = true := by
  unfold chE at h
  split at h
  · simp only [Bool.and_eq_true, decide_eq_true_eq] at h
    obtain ⟨⟨⟨⟨rfl, rfl⟩, h1⟩, h2⟩, h3⟩ := h
    exact ⟨_, _, _, _, rfl, h1, h2, h3⟩
  · cases h
theorem ch_lenset {a : IE} (h : chE N nm (.lenset a) sc x = true) : ∃ p p2 a' q q2, x = .Call (.Name "len" p) [.Call (.Name "set" p2) [a'] [] q] [] q2 ∧ glB sc "len" = true ∧ glB sc "set" = true ∧ chE N nm a sc a' = true := by
  unfold chE at h
  split at h
  · simp only [Bool.and_eq_true, decide_eq_true_eq] at h
    obtain ⟨⟨⟨⟨rfl, rfl⟩, h1⟩, h2⟩, h3⟩ := h
    exact ⟨_, _, _, _, _, rfl, h1, h2, h3⟩
  · cases h
theorem ch_lstrng {lo hi : IE} (h : chE N nm (.lstrng lo hi) sc x = true) : ∃ p p2 q q2, glB sc "list" = true ∧ glB sc "range" = true ∧
    ((∃ e0, x = .Call (.Name "list" p) [.Call (.Name "range" p2) [e0] [] q] [] q2 ∧ isAbs lo = true ∧ chE N nm hi sc e0 = true) ∨ ∃ e0 e1, x = .Call (.Name "list" p) [.Call (.Name "range" p2) [e0, e1] [] q] [] q2 ∧ isAbs lo = false ∧ chE N nm lo sc e0 = true ∧ chE N nm hi sc e1 = true) := by
  unfold chE at h
  split at h
  · rename_i y p t p2 e0 r q q2
    simp only [Bool.and_eq_true, decide_eq_true_eq] at h
    obtain ⟨⟨⟨⟨rfl, rfl⟩, h1⟩, h2⟩, h3⟩ := h
    refine ⟨p, p2, q, q2, h1, h2, ?_⟩
    split at h3
    · rw [Bool.and_eq_true] at h3
      exact .inl ⟨_, rfl, h3.1, h3.2⟩
    · simp only [Bool.and_eq_true, Bool.not_eq_true'] at h3
      exact .inr ⟨_, _, rfl, h3.1.1, h3.1.2, h3.2⟩
    · cases h3
  · cases h
theorem ch_rng {es : IE} (h : chE N nm (.rng es) sc x = true) : ∃ p e0 r q, x = .Call (.Name "range" p) (e0 :: r) [] q ∧ glB sc "range" = true ∧ r.length ≤ 1 ∧ chL N nm es sc (e0 :: r) = true := by
  unfold chE at h
  split at h
  · simp only [Bool.and_eq_true, decide_eq_true_eq] at h
    obtain ⟨⟨⟨rfl, h1⟩, h2⟩, h3⟩ := h
    exact ⟨_, _, _, _, rfl, h1, h2, h3⟩
  · cases h
theorem ch_enum {a : IE} (h : chE N nm (.enum a) sc x = true) : ∃ p a' q, x = .Call (.Name "enumerate" p) [a'] [] q ∧ glB sc "enumerate" = true ∧ chE N nm a sc a' = true := by
  unfold chE at h
  split at h
  · simp only [Bool.and_eq_true, decide_eq_true_eq] at h
    obtain ⟨⟨rfl, h1⟩, h2⟩ := h
    exact ⟨_, _, _, rfl, h1, h2⟩
  · cases h
theorem ch_zip {a b : IE} (h : chE N nm (.zip a b) sc x = true) : ∃ p a' b' q, x = .Call (.Name "zip" p) [a', b'] [] q ∧ glB sc "zip" = true ∧ chE N nm a sc a' = true ∧ chE N nm b sc b' = true := by
  unfold chE at h
  split at h
  · simp only [Bool.and_eq_true, decide_eq_true_eq] at h
    obtain ⟨⟨⟨rfl, h1⟩, h2⟩, h3⟩ := h
    exact ⟨_, _, _, _, rfl, h1, h2, h3⟩
  · cases h
/-- the tests of a clause -/
def IfsOk (N : List Str) (nm : Str → Option (List Str × List Nat)) (ifs : IE) (sc : Scope) (es : List Expr) : Prop := (es = [] ∧ ifs = .nil) ∨ ∃ c, es = [c] ∧ tOk ifs c = true ∧ chE N nm ifs sc c = true
theorem ifs_ok {ifs : IE} {es : List Expr} (h : (match es with | [] => isNil ifs | [c] => tOk ifs c && chE N nm ifs sc c | _ => false) = true) : IfsOk N nm ifs sc es := by
  split at h
  · refine .inl ⟨rfl, ?_⟩
    cases ifs <;> first | rfl | cases h
  · rw [Bool.and_eq_true] at h
    exact .inr ⟨_, rfl, h.1, h.2⟩
  · cases h
theorem ch_lc {elt tg it ifs : IE} {own : List Nat} (h : chE N nm (.lc elt tg it ifs own) sc x = true) : ∃ elt' tg' it' ifs' scope pos, x = .ListComp elt' [⟨tg', it', ifs', 0⟩] scope pos ∧ (noSet it' = true ∧ hOk nm scope sc = true) ∧ blkC N sc scope (ownN N own) = true ∧ chTg N scope (relS scope sc) tg tg' = true ∧
    tgOk N own tg = true ∧ tOkI it tg' = true ∧ chE N nm it sc it' = true ∧ IfsOk N nm ifs (relS scope sc) ifs' ∧ chE N nm elt (relS scope sc) elt' = true := by
  unfold chE at h
  split at h
  · simp only [Bool.and_eq_true, decide_eq_true_eq] at h
    obtain ⟨⟨⟨⟨⟨⟨⟨⟨rfl, h1⟩, h2⟩, h3⟩, h4⟩, h5⟩, h6⟩, h7⟩, h8⟩ := h
    exact ⟨_, _, _, _, _, _, rfl, h1, h2, h3, h4, h5, h6, ifs_ok h7, h8⟩
  · cases h
theorem ch_lc2 {elt tg it ifs tg1 it1 ifs1 : IE} {own own1 : List Nat} (h : chE N nm (.lc2 elt tg it ifs tg1 it1 ifs1 own own1) sc x = true) : ∃ elt' tg' it' ifs' tg1' it1' ifs1' scope pos, x = .ListComp elt' [⟨tg', it', ifs', 0⟩, ⟨tg1', it1', ifs1', 0⟩] scope pos ∧ (noSet it' = true ∧ hOk nm scope sc = true) ∧
    blkC N sc scope (ownN N own) = true ∧ chTg N scope (relS scope sc) tg tg' = true ∧ tgOk N own tg = true ∧ tOkI it tg' = true ∧ chE N nm it sc it' = true ∧ IfsOk N nm ifs (relS scope sc) ifs' ∧ chE N nm elt (relS scope sc) elt' = true ∧
    noSet it1' = true ∧ chTg N scope (relS scope sc) tg1 tg1' = true ∧ tgOk N own1 tg1 = true ∧ tOkI it1 tg1' = true ∧ chE N nm it1 (relS scope sc) it1' = true ∧ (∀ i ∈ own1, i ∈ own) ∧ IfsOk N nm ifs1 (relS scope sc) ifs1' := by
  unfold chE at h
  split at h
  · simp only [Bool.and_eq_true, decide_eq_true_eq] at h
    obtain ⟨⟨⟨⟨⟨⟨⟨⟨⟨⟨⟨⟨⟨⟨⟨⟨rfl, h1⟩, h2⟩, h3⟩, h4⟩, h5⟩, h6⟩, h7⟩, h8⟩, rfl⟩, b1⟩, b2⟩, b3⟩, b4⟩, b5⟩, b6⟩, b7⟩ := h
    refine ⟨_, _, _, _, _, _, _, _, _, rfl, h1, h2, h3, h4, h5, h6, ifs_ok h7, h8, b1, b2, b3, b4, b5, fun i hi => ?_, ifs_ok b7⟩
    simpa using List.all_eq_true.mp b6 i hi
  · cases h
theorem ch_star {e : IE} {v : Expr} {p : Pos} : ¬ chE N nm e sc (.Starred v p) = true := fun h => by
  cases e <;> first | cases h | skip
theorem nostar_ch {e : IE} (h : chE N nm e sc x = true) : nostar x = true := by
  cases x <;> first | rfl | exact absurd h ch_star
theorem chL_star : ∀ {e : IE} {xs : List Expr}, chL N nm e sc xs = true → xs.all nostar = true
  | e, [], _ => rfl
  | e, x :: xs, h => by
    cases e <;> first | (cases h; done) | skip
    rename_i a r
    have h' : (chE N nm a sc x && chL N nm r sc xs) = true := h
    rw [Bool.and_eq_true] at h'
    rw [List.all_cons, nostar_ch h'.1, chL_star h'.2]; rfl
end
end TH
section
set_option maxHeartbeats 4000000
/-! isinstance of a caught error that has fields. -/
namespace TH
open PySem PySem.Spec PySem.Calls PyProof.Rows L2 PySem.W
section
variable {P : Program} {w : World} {B : Around} {J : Value → Shared → Prop} {t : Shared} {K : Frag} {y C : Addr} {o : Obj} {od : Option Obj}
theorem fnd_class {z : Str} {b g : Value} (c1 : (clsIn K C).isSome = true) (c2 : findIn K (.ref C) z = some (some b)) (c3 : specialIn K b "__get__" = some (some g)) (c4 : takesIn K b = some true) : findObj K C od z = some (.bind g b) := by
  obtain ⟨cd, e⟩ := Option.isSome_iff_exists.mp c1
  unfold findObj
  rw [e, Option.bind_some, c2, Option.bind_some]
  simp [c3, c4]
/-- e.__class__ of an error with its dict -/
theorem err_class {Q : Option Value → Shared → Prop} (T : ExcC K C) (kin : K.In t.heap) (I : InstAt t.heap y o C od) (q : Q (some (.ref C)) { t with toks := t.toks + 1 }) : wpAny (model P w) B (getAttr? (.ref y) "__class__") Q J t := by
  have e0 : findObj K C od "__class__" = some (.bind (.builtin "getset_descriptor.__get__") (.builtin "object.__class__")) := fnd_class (by obtain ⟨cd, e, _⟩ := any_some T.hd; rw [e]; rfl) T.ha T.hn T.ht
  obtain ⟨h, gs, dr, tk, os⟩ := t
  have a0 := I.type (M := model P w)
  have a1 := looks_findIn (M := model P w) kin T.hg
  have a2 := looks_findIn (M := model P w) kin T.hk
  have a3 := looks_find (M := model P w) kin I e0
  have a4 : Looks (model P w) h (isInstance (.ref y) (.type "BaseException")) true := a0.andThen (looks_subIn kin T.hs)
  have b0 : (false && onTheHeap (Value.builtin "BaseException.__getattribute__")) = false := rfl
  have b2 : (Value.builtin "BaseException.__getattribute__" == Value.builtin "object.__getattribute__") = false := by decide +kernel
  have b1 : (onTheHeap (Value.ref C) && Value.builtin "BaseException.__getattribute__" == Value.builtin "object.__getattribute__") = false := by rw [b2]; rfl
  unfold getAttr? getAttrBy? getAttrBy
  apply wpAny_bind; apply wpAny_mkText; apply wpAny_bind; apply wpAny_attempt; apply wpAny_holding; apply wpAny_bind
  apply a0.at; apply wpAny_bind; apply a1.at
  show wpAny _ _ (if (onTheHeap (Value.ref C) && Value.builtin "BaseException.__getattribute__" == Value.builtin "object.__getattribute__") = true then _ else _) _ _ _
  rw [b1, if_neg Bool.false_ne_true]
  unfold getAttrByItsOwn; unfold hookBefore
  apply wpAny_bind
  rw [if_pos (show onTheHeap (Value.ref C) = true from rfl)]
  apply a2.at
  apply wpAny_bind; apply wpAny_attempt; apply wpAny_holding
  unfold callGetattribute
  rw [b0, if_neg Bool.false_ne_true]
  unfold boundAndCalled
  rw [PySem.F.excAttr_ValueError.ga.bind (.ref y)]
  apply wpAny_bind; apply wpAny_pure
  show wpAny _ _ (call (.builtin "BaseException.__getattribute__") [.ref y, .str "__class__" tk]) _ _ _
  apply wpAny_call
  refine codeAny_call_builtin PySem.F.excAttr_ValueError.ga.plain PySem.F.entry_bexc_ga (@check_slot (model P w) _ _ ⟨h, gs, dr, tk + 1, os⟩ "BaseException.__getattribute__" "BaseException" "__getattribute__" (.ref y) [.str "__class__" tk] [] _ (by decide +kernel) (by decide +kernel) a4 (PySem.F.args_bexc_ga (.ref y) (.str "__class__" tk)) ?_)
  unfold Builtin.«object.__getattribute__»
  refine wpAny_bind (wpAny_of_eq (a := ((Value.ref y : Value), [Value.str "__class__" tk])) (by first | rfl | (simp only [slotArgs]; rfl)) ?_)
  apply wpAny_bind; apply wpAny_pure; apply wpAny_bind; apply a0.at; apply wpAny_bind; apply a3.at
  show wpAny _ _ (holding [Value.builtin "object.__class__"] (call (.builtin "getset_descriptor.__get__") [.builtin "object.__class__", .ref y, .ref C]) >>= ret) _ _ _
  apply wpAny_bind; apply wpAny_holding; apply wpAny_call
  refine class_get (s := ⟨h, gs, dr, tk + 1, os⟩) (ox := o) (od := od) kin I T.hm ?_
  apply wpAny_pure
  show wpAny _ _ (handedOut (.ref C)) _ _ _
  rw [handedOut_of (v := .ref C) rfl]
  first
    | exact wpAny_pure (wpAny_pure q)
    | exact wpAny_pure q
    | exact wpAny_pure (wpAny_bind (wpAny_pure (wpAny_pure q)))
theorem err_kit (T : ExcC K C) : KitX K (.ref y) (.ref C) (fun h => InstAt h y o C od) where
  ty := fun _ _ _ I => I.type
  it := fun _ _ kin _ => by
    obtain ⟨cd, e, _⟩ := any_some T.hd
    unfold clsIn at e
    split at e
    · rename_i c' d' cd' sl' z
      intro A' Q' E' s' k q
      unfold isType loadHead
      exact wpAny_bind (wpAny_loadPart (k _ _ (kin _ _ z)) (wpAny_pure q))
    · cases e
  ne := fun h tp dd its n sl kin z => by
    refine Bool.eq_false_iff.mpr fun b => ?_
    obtain rfl : C = tp := Value.ref.inj (beq_iff_eq.mp b)
    obtain ⟨cd, e, _⟩ := any_some T.hd
    unfold clsIn at e
    split at e
    · rename_i c' d' cd' sl' z2
      cases (kin _ _ z2).symm.trans z
    · cases e
  ca := fun kin I q => err_class T kin I q
end
/-- isinstance(e, D), e the caught error, its class C, its dict dd -/
theorem err_isi {X : Cx} {a C dd : Addr} {oe : Obj} {pn : List (Addr × Obj)} {c : V} {cv : Value} {b : Bool} {H : Hp} {Q : VK} {ws : List (Str × V)} (T : ExcC X.K C) (hz : Zc (.ref C) (some dd) oe) (hf : ∃ vs, oe.data = .fields vs) (hd : H dd = some (.xd ws))
    (hcv : ∀ u, RelV c u → u = cv) (e : kitOne X.K (.ref C) cv = some b) (q : Q (.bl b) H) : SmC (X.suite a ((a, oe) :: pn)) (.builtin "isinstance") [.ref a, c] H Q := by
  intro pins s σ us I r
  cases r with
  | cons rx r =>
    cases r with
    | cons rt r =>
      cases r
      cases rx
      have ec := hcv _ rt
      subst ec
      obtain ⟨ha, _⟩ := I.pin (a, oe) (List.mem_append.mpr (.inl List.mem_cons_self))
      obtain ⟨vs, hv⟩ := hf
      have ok : ObjOk X.prog X.w H s.heap dd (.xd ws) := I.hok dd _ hd
      obtain ⟨mA, hns, _⟩ := ok
      obtain ⟨od, ho, _⟩ := lookIn_ns hns
      have J : InstAt s.heap a oe C (some od) := ⟨ha, hz.1, by unfold notCls; rw [hv] <;> rfl, by rw [hz.2]; exact ho⟩
      exact kia_one (err_kit T) I.kIn J e (fun z => nomatch z) fun tk => ⟨.bl b, H, I.kept (t' := tk) fun _ _ z => z, rfl, q⟩
end TH
end
section
set_option maxHeartbeats 2000000
/-! A lambda handed to a def that calls it and tells what came. -/
namespace TH
open PySem PySem.Spec PyProof.Rows L2
def SmS (X : Cx) (st : Stmt) (W : Ends) (σ : L2.St) (H : Hp) : Prop := ∀ (pins : List (Addr × Obj)) (s : Shared), Inv X pins σ H s → wpAny (model X.prog X.w) X.A (exec st X.env) (SP X pins W) X.xe s
def SmSs (X : Cx) (sts : List Stmt) (W : Ends) (σ : L2.St) (H : Hp) : Prop := ∀ (pins : List (Addr × Obj)) (s : Shared), Inv X pins σ H s → wpAny (model X.prog X.w) X.A (execs sts X.env) (SP X pins W) X.xe s
theorem ps_sm {X : Cx} {st : Stmt} : PS X st (SmS X st) := ⟨fun pins s _ _ _ I h => h pins s I⟩
theorem pss_sm {X : Cx} {sts : List Stmt} : PSs X sts (SmSs X sts) := ⟨fun pins s _ _ _ I h => h pins s I⟩
theorem PS.sm {X : Cx} {st : Stmt} {t : TS} {W : Ends} {σ : L2.St} {H : Hp} (h : PS X st t) (q : t W σ H) : SmS X st W σ H := fun pins s I => h.run pins s σ H W I q
theorem PSs.sm {X : Cx} {st : List Stmt} {t : TS} {W : Ends} {σ : L2.St} {H : Hp} (h : PSs X st t) (q : t W σ H) : SmSs X st W σ H := fun pins s I => h.run pins s σ H W I q
/-- what the lambda's body is to reach -/
def LamPo (K : PySem.W.Frag) (mg : Str → Option Value) (fa : Addr) (O : Os) (kd : FK) (m : Ou D) (H : Hp) (E : XK) (Q : VK) : Prop :=
  match m with
  | .ok d F' => Nx K fa O kd H F' d Q
  | .ex c fs F' => ∀ cls od H2, Ge fa H H2 → FeedAt K fa O kd H2 F' → ExR K mg fa O H2 cls od c fs → E cls od H2
  | .no => False
abbrev E0' : XK := fun _ _ _ => False
abbrev hCx (P : Program) (w : World) (K : PySem.W.Frag) (mg : Str → Option Value) (base : Heap) (N : List Str) (x : Str) (sg : Scope) (g : Addr) (cd : Value) (A : Around) (stk : List Env) (s : Shared) (H : Hp) : Cx := cxOf (L2.CX P w) P w K mg base N x sg g cd A stk s H E0'
/-- the call of the lambda, within the def that got it -/
def LamAct (P : Program) (w : World) (K : PySem.W.Frag) (mg : Str → Option Value) (base : Heap) (N : List Str) (x a : Str) (sg : Scope) (g : Addr) (cd : Value) (A : Around) (stk : List Env) (s : Shared) (H : Hp) (f c' : Addr) (q : Str) (tl : XK → VK → Prop) : Prop :=
  ∀ (W : WX) (pn : List (Addr × Obj)) (xe : Value → Shared → Prop) (E : XK) (p1 p2 : Pos), Takes ((hCx P w K mg base N x sg g cd A stk s H).tr pn xe) W → (∀ cls d σ' H', E cls d H' → W cls d σ' H') →
    PE ((hCx P w K mg base N x sg g cd A stk s H).tr pn xe) (.Call (.Name a p1) [] [] p2) (fun σ' H' Q => σ'[0]? = some (some (.ref f)) ∧ H' c' = some (LamX.CodeO c' q) ∧ H' = H ∧ tl E Q)
/-- a def of one parameter that calls what it got, and tells what came -/
def HrdD (P : Program) (w : World) (K : PySem.W.Frag) (mg : Str → Option Value) (base : Heap) (kd : FK) (x a : Str) (g : List D → Fd → Ou D) : Prop :=
  ∃ (gA : Addr) (N : List Str) (pg : Arguments) (bg : List Stmt) (sg : Scope) (dV kV doc pm cd ct oc : Value) (an od : Option Addr) (osl : Array (Option Value)),
    mg x = some (.ref gA) ∧ PySem.W.keepIn K (.ref gA) = true ∧ K.lookup gA = some ⟨oc, od, .func (PySem.W.fnOf x x pg bg sg dV kV doc pm an cd ct), osl⟩ ∧ PySem.W.codeIn K cd x = true ∧
    L2.Binds K (PySem.W.fnOf x x pg bg sg dV kV doc pm an cd ct) [a] [] ∧ FnScope N [a] sg ∧ N[0]? = some a ∧ Vis sg a ∧ dbB a = true ∧ (a == ("__classdict__" : Str)) = false ∧
    ∀ (A : Around) (stk : List Env) (s : Shared) (H : Hp) (f c' : Addr) (q : Str) (fa : Addr) (O : Os) (F : Fd) (m : Ou D) (Q : VK), Hd K fa O kd H F → H c' = some (LamX.CodeO c' q) →
      LamAct P w K mg base N x a sg gA cd A stk s H f c' q (fun E Q => LamPo K mg fa O kd m H E Q) →
      (∀ d F', told g m = .ok d F' → Nx K fa O kd H F' d Q) → (∃ d F', told g m = .ok d F') →
      SmSs (hCx P w K mg base N x sg gA cd A stk s H).nox bg { nx := fun _ H' => Q .non H', rt := Q } (L2.start N [.ref f]) H
section
variable {X : Cx} {pins : List (Addr × Obj)} {σ : L2.St} {H : Hp} {s : Shared}
theorem lam_act {N : List Str} {x a : Str} {sg : Scope} {g f c' : Addr} {cd pm ctv : Value} {params : Arguments} {body : Expr} {scope : Scope} {k : Nat} {fa : Addr} {O : Os} {kd : FK} {m : Ou D}
    (I : Inv X pins σ H s) (L : LamX.LamS X.env.scope scope) (of : s.heap.get? f = some (PySem.W.kla_obj "<lambda>" (X.env.qual ++ "<lambda>") params body scope (cloFrom X.env.cells scope.names []) pm c' ctv)) (nf : H f = none) (nfr : f ∉ frs X.stack)
    (bind0 : bindArgs (PySem.W.kla_fn "<lambda>" (X.env.qual ++ "<lambda>") params body scope (cloFrom X.env.cells scope.names []) pm (.ref c') ctv) ⟨[], []⟩ = pure [])
    (hr : Room (k + 1) (X.A.deeper (envOfC x sg s.heap.objs.size g cd))) (gd : X.A.guards = some [])
    (hbody : ∀ (A : Around) (outer : List Env) (s : Shared) (E : XK) (Q : VK), Room k (A.deeper (LamX.lamEnv X scope s.heap.objs.size f c')) → A.guards = some [] → LamPo X.K X.mg fa O kd m H E Q → SmE (LamX.lamCx X A outer s H E scope f c') body σ H Q)
    (hN : N[0]? = some a) (hv : Vis sg a) (hd : dbB a = true) (hcd : (a == ("__classdict__" : Str)) = false) :
    LamAct X.prog X.w X.K X.mg X.base N x a sg g cd X.A X.stack s H f c' (X.env.qual ++ "<lambda>") (fun E Q => LamPo X.K X.mg fa O kd m H E Q) := by
  intro W pn xe E p1 p2 tk hW
  refine ⟨fun pZ sZ σZ HZ Q IZ ⟨h1, h2, h3, h4⟩ => ?_⟩
  subst h3
  refine wpAny_Call_Name_kw (thn ((pe_var (pos := p1) (i := 0) hN hv (by simpa [dbB] using hd) hcd).run pZ sZ σZ HZ (fun v H1 => v = .ref f ∧ H1 = HZ) IZ ⟨.ref f, h1, rfl, rfl⟩) fun u s1 ⟨v, H1, I1, r1, e1, e2⟩ => ?_)
  subst e1 e2
  obtain rfl : u = Value.ref f := r1
  have of1 := I1.base.keep f _ of nf nfr (fun z => nomatch (show f ∈ ([] : List Addr) from z))
  refine PySem.W.callWith_F0 ⟨_, _, _, _, of1⟩ ?_
  have un : Un (frs X.stack) [] H1 H1 s.heap s1.heap := I1.base
  obtain ⟨⟨oc, vs, t, k1, k2, k3⟩, _, _⟩ := I1.hok c' _ h2
  have run : codeAny (model X.prog X.w) (X.A.deeper (envOfC x sg s.heap.objs.size g cd)) (.call (.ref f) ⟨[], []⟩) (CR (L2.CX X.prog X.w) (envOfC x sg s.heap.objs.size g cd :: X.stack) X.prog X.w H1 s1 Q E) s1 := by
    refine PySem.W.kla_callFunE hr.depth of1 rfl L.co L.gen rfl ⟨c', oc, vs, t, rfl, k1, k2, k3⟩ ?_
    rw [bind0]
    refine wpAny_pure (wpAny_newFunctionEnv (fun y hy => (L.own y hy).2) (fun y hy => absurd hy (by simp)) (fun h₁ hns hsb => ⟨I1.nolimit.fresh _ hsb, ?_⟩) L.kind)
    show codeAny _ _ (.expr body (LamX.lamEnv X scope s1.heap.objs.size f c')) _ _
    have kp : ∀ b o, s1.heap.get? b = some o → h₁.get? b = some o := fun b o e => hsb.extBut b o (Nat.ne_of_lt (Heap.lt_size e)) (Heap.get?_push_of_some _ e)
    have J : Inv (LamX.lamCx X (X.A.deeper (envOfC x sg s.heap.objs.size g cd)) (envOfC x sg s.heap.objs.size g cd :: X.stack) s1 H1 E scope f c') [] σ H1 { s1 with heap := h₁, toks := s1.toks + ([] : List (Str × Value)).length } :=
      LamX.lam_start2 I L I1.env0 hr.hd un hns kp
    refine PySem.W.kla_codeExpr (wpAny_mono (hbody _ _ s1 E Q (hr.deeper _) (by first | exact gd | (simpa [Around.deeper] using gd)) h4 [] _ J) (fun v s' ⟨w', H', J', rv, q⟩ => ⟨w', H', J'.os, J'.bare, J'.base, J'.hok, rv, q⟩) fun _ _ z => z)
  have pass : Passes (L2.CX X.prog X.w) ((hCx X.prog X.w X.K X.mg X.base N x sg g cd X.A X.stack s H1).tr pn xe) E := passes_call tk hW
  refine wpAny_call (codeAny_mono run fun r s' z => ?_)
  cases r with
  | error e => exact pass pZ σZ H1 s1 e s' I1 z
  | ok fl =>
    cases fl with
    | ret u => exact I1.after z
    | next => exact False.elim z
    | brk => exact False.elim z
    | cont => exact False.elim z
/-- the tables stand behind what is laid -/
theorem ge_tabs {fa : Addr} {O : Os} {kd : FK} {H H1 : Hp} {K : PySem.W.Frag} {F : Fd} (S : Hd K fa O kd H F) (e : LamX.ExtN H H1) (t : LamX.Tabs kd.T H1) : FeedAt K fa O kd H1 F := by
  obtain ⟨o, i, ef⟩ := S.fd.nt
  exact S.fd.go ((Ge.extN (fa := fa) e).go S.ofa) ((e _ _ ef i.ne).trans ef.symm) fun _ => t
/-- a table of code objects for the lambdas of this def -/
def TabX (X : Cx) (kd : FK) : Prop := ∃ c P, X.env.code = .ref c ∧ LamX.TabB X.base X.mg c P ∧ (P, X.env.qual ++ "<lambda>") ∈ kd.T ∧ ∀ p ∈ kd.T, p.1 = P → p.2 = X.env.qual ++ "<lambda>"
theorem takes_lam {A : Around} {outer : List Env} {E : XK} {scope : Scope} {f c' : Addr} : Takes (LamX.lamCx X A outer s H E scope f c') (fun cls d _ H => E cls d H) := takes_of (X := LamX.lamCx X A outer s H E scope f c') (E := E) rfl rfl rfl rfl
theorem po_lam {A : Around} {outer : List Env} {E : XK} {scope : Scope} {f c' : Addr} {fa : Addr} {O : Os} {kd : FK} {m : Ou D} {Q : VK} (h : LamPo X.K X.mg fa O kd m H E Q) : Po (LamX.lamCx X A outer s H E scope f c') σ H fa O kd (Rp X.K fa O) m Q := by
  cases m with
  | ok d F => exact h
  | ex c fs F => exact ⟨E, fun pins H1 s e s' I2 z => passes_call takes_lam (fun _ _ _ _ q => q) pins σ H1 s e s' I2 z, h⟩
  | no => exact h
/-- x(lambda: body) -/
theorem sm_lam {x a : Str} {g : List D → Fd → Ou D} {params : Arguments} {body : Expr} {scope : Scope} {k : Nat} {fa : Addr} {O : Os} {kd : FK} {F : Fd} {m : Ou D} {Q : VK} {p lpos pos : Pos} (hrd : HrdD X.prog X.w X.K X.mg X.base kd x a g) (tb : TabX X kd) (hg : Gl X x) (hdb : dbB x = true)
    (hr : Room (k + 2) X.A) (gd : X.A.guards = some []) (L : LamX.LamS X.env.scope scope) (hdef : defaultsOf params X.env = ([], []))
    (bind0 : ∀ (q : Str) (cl : List (Str × Addr)) (pm cv ctv : Value), bindArgs (PySem.W.kla_fn "<lambda>" q params body scope cl pm cv ctv) ⟨[], []⟩ = pure []) (S : Hd X.K fa O kd H F)
    (hbody : ∀ (A : Around) (outer : List Env) (s : Shared) (H1 : Hp) (E : XK) (f c' : Addr) (Q : VK), Room k (A.deeper (LamX.lamEnv X scope s.heap.objs.size f c')) → A.guards = some [] → Ge fa H H1 → FeedAt X.K fa O kd H1 F → LamPo X.K X.mg fa O kd m H1 E Q → SmE (LamX.lamCx X A outer s H1 E scope f c') body σ H1 Q)
    (pq : Po X σ H fa O kd (Rp X.K fa O) (told g m) Q) : SmE X (.Call (.Name x p) [.Lambda params body scope lpos] [] pos) σ H Q := fun pins s I => by
  obtain ⟨gA, N, pg, bg, sg, dV, kV, doc, pm, cd, ct, oc, an, od, osl, hm, hk, lk, hcg, hb, Sg, hN, hva, hda, hca, hG⟩ := hrd
  obtain ⟨c, P, hcode, TB, hmT, hu⟩ := tb
  refine wpAny_Call_Name_kw (ld_glob I hg hm ?_ (by simpa [dbB] using hdb))
  refine PySem.W.callWith_K (h₀ := X.base) I.ok.mod.kin hk ?_ (by rfl) (by rfl)
  show wpAny _ _ (spliced ((false, eval (.Lambda params body scope lpos) X.env) :: backTo pos (starEach [] X.env))) _ _ s
  refine Calls.spliced_cons (LamX.lam_make2 I TB hcode hmT hu S.fd.1 hdef (L.has I.ok) fun f c' pm' ctv H1 s' I1 eN T1 of nf nfr hco => ?_)
  refine Calls.spliced_nil ⟨I1.kIn, ?_⟩
  have g1 : Ge fa H H1 := Ge.extN eN
  have f1 := ge_tabs S eN T1
  have ok : ∃ d F', told g m = .ok d F' ∧ Nx X.K fa O kd H F' d Q := by
    cases e : told g m with
    | ok d F' => rw [e] at pq; exact ⟨d, F', rfl, pq⟩
    | no => rw [e] at pq; exact pq.elim
    | ex c fs F' => exact absurd e (by cases m <;> simp only [told] <;> (try split) <;> simp)
  obtain ⟨d, F', eo, nx⟩ := ok
  have run : codeAny (model X.prog X.w) X.A (.call (.ref gA) ⟨[.ref f], []⟩) (CR (L2.CX X.prog X.w) X.stack X.prog X.w H1 s' Q E0') s' := by
    refine LamX.run_ofS (N := N) (ps := [a]) (us := [.ref f]) (vs := [.ref f]) lk hcg Sg hr I1.env0 (hb s' [.ref f] I1.kIn rfl) (.cons rfl .nil) rfl fun hr' => ?_
    have sm := hG X.A X.stack s' H1 f c' (X.env.qual ++ "<lambda>") fa O F m Q (S.ge g1 f1) hco (lam_act (k := k) I1 L of nf nfr (bind0 _ _ _ _ _) hr' gd (fun A outer s E Q' r1 g2 z => hbody A outer s H1 E f c' Q' r1 g2 g1 f1 z) hN hva hda hca)
      (fun d2 F2 e2 v H2 g2 f2 r2 => by rw [eo] at e2; cases e2; exact nx v H2 (g1.trans g2) f2 r2) ⟨d, F', eo⟩
    exact ⟨_, (pss_sm (X := (hCx X.prog X.w X.K X.mg X.base N x sg gA cd X.A X.stack s' H1).nox)).nox, sm⟩
  refine wpAny_call (codeAny_mono run fun r s2 z => ?_)
  cases r with
  | error e =>
    obtain ⟨_, _, _, _, _, _, _, _, _, _, _, _, z⟩ := z
    exact z.elim
  | ok fl =>
    cases fl with
    | ret u => exact I1.after z
    | next => exact False.elim z
    | brk => exact False.elim z
    | cont => exact False.elim z
end
end TH
end
section
set_option maxHeartbeats 2000000
/-! Errors of own classes, raised. -/
namespace TH
open PySem PySem.Spec PyProof.Rows L2
/-- what an error's own __init__ does: its fields, one after another -/
def initSp (C : Addr) (fs : List Str) : Sp := fun vs H Q _ => ∃ (a : Addr) (ys : List V), vs = .ref a :: ys ∧ ys.length = fs.length ∧ H a = some (exo a C none) ∧
  ∀ d H2, H d = none → d ≠ a → H2 a = some (exo a C (some d)) → H2 d = some (exd d (fs.zip ys).reverse) → (∀ b, b ≠ a → b ≠ d → H2 b = H b) → Q .non H2
/-- a class of errors that may be made -/
def ExcD (P : Program) (w : World) (K : PySem.W.Frag) (mg : Str → Option Value) (base : Heap) (k : Nat) (c : Str) (fs : List Str) : Prop :=
  ∃ (C fI : Addr) (fd : FuncData) (ps : List Str) (j : Nat), mg c = some (.ref C) ∧ OexC K C ∧ PySem.W.findIn K (.ref C) "__init__" = some (some (.ref fI)) ∧ PySem.W.typeIn K (.ref fI) = some (.type "function") ∧
    FnOk P w K mg base (L2.CX P w) j fI fd ps (initSp C fs) ∧ L2.Binds K fd ps [] ∧ j + 1 ≤ k
theorem ExcD.mono {P : Program} {w : World} {K : PySem.W.Frag} {mg : Str → Option Value} {base : Heap} {i k : Nat} {c : Str} {fs : List Str} (h : ExcD P w K mg base i c fs) (le : i ≤ k) : ExcD P w K mg base k c fs := by
  obtain ⟨C, fI, fd, ps, j, h1, h2, h3, h4, h5, h6, h7⟩ := h
  exact ⟨C, fI, fd, ps, j, h1, h2, h3, h4, h5, h6, by omega⟩
/-- raise c(..) -/
theorem ss_raise {X : Cx} {σ : L2.St} {H : Hp} {W : Ends} {k : Nat} {c : Str} {fs : List Str} {e : Expr} {es : List Expr} {p q pos : Pos} {E : XK} (hc : X.calm = true) (tk : Takes X (fun cls d _ H => E cls d H)) (T : ExcD X.prog X.w X.K X.mg X.base k c fs) (hr : Room k X.A) (hg : Gl X c) (hdb : dbB c = true)
    (ns : (e :: es).all nostar = true) (h : SmA X (e :: es) σ H fun vs H1 => vs.length = fs.length ∧ vs.length ≤ 1000 ∧ ∀ (C d : Addr), X.mg c = some (.ref C) → H1 d = none → E (.ref C) (some d) (upd H1 d (.xd (fs.zip vs).reverse))) :
    SmS X (.Raise (some (.Call (.Name c p) (e :: es) [] q)) none pos) W σ H := by
  obtain ⟨C, fI, fd, ps, j, h1, h2, h3, h4, h5, h6, h7⟩ := T
  have n1 := ns
  rw [List.all_cons, Bool.and_eq_true] at n1
  refine PS.sm (ps_raise hc tk (pmk_oex (CX := L2.CX X.prog X.w) (k := j) (dvs := []) (ds := []) h2 h3 h4 h5 (hr.mono h7) h6 .nil ?_ hg h1 (pa_sm (es := e :: es)) (by simpa [dbB] using hdb) (star_of n1.1) (star_any n1.2))) ?_
  · intro pins σ H s e s' I z
    obtain ⟨_, _, _, _, _, _, _, _, _, _, _, _, z⟩ := z
    exact z.elim
  · show SmA X (e :: es) σ H _
    intro pos' pins s I
    refine thn (h pos' pins s I) fun us s1 ⟨vs, H1, I1, r, hl, h1000, q1⟩ => ⟨vs, H1, I1, r, h1000, fun a ha => ⟨a, vs, by rw [List.append_nil], hl, upd_same, fun d H2 hd hda e1 e2 e3 => ?_⟩⟩
    have hd1 : H1 d = none := by rw [upd_ne hda] at hd; exact hd
    refine ⟨rfl, d, _, e1, e2, hd1, ?_⟩
    have eq : upd (del H2 a) d (.xd (fs.zip vs).reverse) = upd H1 d (.xd (fs.zip vs).reverse) := by
      funext b
      by_cases hb : b = d
      · subst hb; rw [upd_same, upd_same]
      · rw [upd_ne hb, upd_ne hb]
        by_cases hba : b = a
        · subst hba; rw [del_same, ha]
        · rw [del_ne hba, e3 b hba hb, upd_ne hba]
    rw [eq]
    exact q1 C d h1 hd1
section
variable {P : Program} {w : World} {K : PySem.W.Frag} {mg : Str → Option Value} {base : Heap} {C f : Addr} {name qual : Str} {params : Arguments} {body : List Stmt} {scope : Scope} {dV kV doc pm cdv ct oc : Value} {an od : Option Addr} {osl : Array (Option Value)} {f1 f2 p0 p1 p2 : Str}
/-- __init__(self, x): self.x = x -/
theorem init_one {q0 q1 q2 q3 q4 : Pos} (lk : K.lookup f = some ⟨oc, od, .func (PySem.W.fnOf name qual params [.Assign [.Attribute (.Name p0 q0) f1 q1] (.Name p1 q2) q3] scope dV kV doc pm an cdv ct), osl⟩) (hcd : PySem.W.codeIn K cdv qual = true) (S : FnScope [p0, p1] [p0, p1] scope)
    (T : OexC K C) (no1 : PySem.W.findIn K (.ref C) f1 = some none) (v0 : Vis scope p0) (v1 : Vis scope p1) (d0 : (dbB p0 && dbB p1 && !(p0 == ("__classdict__" : Str)) && !(p1 == ("__classdict__" : Str))) = true) :
    FnOk P w K mg base (L2.CX P w) 1 f (PySem.W.fnOf name qual params [.Assign [.Attribute (.Name p0 q0) f1 q1] (.Name p1 q2) q3] scope dV kV doc pm an cdv ct) [p0, p1] (initSp C [f1]) := by
  refine ⟨fun vs H Q E ⟨a, ys, e, l, _⟩ => by rw [e, List.length_cons, l]; rfl, fun A outer s H args us vs Q E hr e0 hb r hsp => ?_⟩
  obtain ⟨a, ys, rfl, hl, ha, hq⟩ := hsp
  obtain ⟨y, rfl⟩ : ∃ y, ys = [y] := match ys, hl with | [y], _ => ⟨y, rfl⟩
  simp only [Bool.and_eq_true, Bool.not_eq_true'] at d0
  obtain ⟨⟨⟨d1, d2⟩, d3⟩, d4⟩ := d0
  refine LamX.run_ofS lk hcd S hr e0 hb r rfl fun hr' => ⟨_, pss_one (ps_ost (pe_var (i := 0) rfl v0 (by simpa [dbB] using d1) d3) (pe_var (i := 1) rfl v1 (by simpa [dbB] using d2) d4)), y, rfl, .ref a, rfl, a, C, rfl, T, no1, .inl ⟨ha, fun dx n ne => ?_⟩⟩
  exact hq dx _ n ne upd_same (by rw [upd_ne ne, upd_same]; rfl) fun b h1 h2 => by rw [upd_ne h1, upd_ne h2]
/-- __init__(self, x, y): self.x = x; self.y = y -/
theorem init_two {q0 q1 q2 q3 q4 q5 q6 q7 : Pos} (lk : K.lookup f = some ⟨oc, od, .func (PySem.W.fnOf name qual params [.Assign [.Attribute (.Name p0 q0) f1 q1] (.Name p1 q2) q3, .Assign [.Attribute (.Name p0 q4) f2 q5] (.Name p2 q6) q7] scope dV kV doc pm an cdv ct), osl⟩) (hcd : PySem.W.codeIn K cdv qual = true) (S : FnScope [p0, p1, p2] [p0, p1, p2] scope)
    (T : OexC K C) (no1 : PySem.W.findIn K (.ref C) f1 = some none) (no2 : PySem.W.findIn K (.ref C) f2 = some none) (v0 : Vis scope p0) (v1 : Vis scope p1) (v2 : Vis scope p2)
    (d0 : (dbB p0 && dbB p1 && dbB p2 && !(p0 == ("__classdict__" : Str)) && !(p1 == ("__classdict__" : Str)) && !(p2 == ("__classdict__" : Str))) = true) :
    FnOk P w K mg base (L2.CX P w) 1 f (PySem.W.fnOf name qual params [.Assign [.Attribute (.Name p0 q0) f1 q1] (.Name p1 q2) q3, .Assign [.Attribute (.Name p0 q4) f2 q5] (.Name p2 q6) q7] scope dV kV doc pm an cdv ct) [p0, p1, p2] (initSp C [f1, f2]) := by
  refine ⟨fun vs H Q E ⟨a, ys, e, l, _⟩ => by rw [e, List.length_cons, l]; rfl, fun A outer s H args us vs Q E hr e0 hb r hsp => ?_⟩
  obtain ⟨a, ys, rfl, hl, ha, hq⟩ := hsp
  obtain ⟨y, z, rfl⟩ : ∃ y z, ys = [y, z] := match ys, hl with | [y, z], _ => ⟨y, z, rfl⟩
  simp only [Bool.and_eq_true, Bool.not_eq_true'] at d0
  obtain ⟨⟨⟨⟨⟨d1, d2⟩, d5⟩, d3⟩, d4⟩, d6⟩ := d0
  have hx : ∀ {X : Cx}, True := fun {X} => trivial
  refine LamX.run_ofS lk hcd S hr e0 hb r rfl fun hr' => ⟨_, pss_cons (ps_ost (pe_var (i := 0) rfl v0 (by simpa [dbB] using d1) d3) (pe_var (i := 1) rfl v1 (by simpa [dbB] using d2) d4)) (pss_one (ps_ost (pe_var (i := 0) rfl v0 (by simpa [dbB] using d1) d3) (pe_var (i := 2) rfl v2 (by simpa [dbB] using d5) d6))),
    y, rfl, .ref a, rfl, a, C, rfl, T, no1, .inl ⟨ha, fun dx n ne => ?_⟩⟩
  refine ⟨z, rfl, .ref a, rfl, a, C, rfl, T, no2, .inr ⟨dx, [(f1, y)], upd_same, by rw [upd_ne ne, upd_same], by show 1 ≤ 900; decide, ?_⟩⟩
  exact hq dx _ n ne (by rw [upd_ne ne.symm, upd_same]) (by rw [upd_same]; rfl) fun b h1 h2 => by rw [upd_ne h2, upd_ne h1, upd_ne h2]
end
end TH
end
/-! What is checked is met: expressions. -/
namespace TH
open PySem PySem.Spec PyProof.Rows L2
/-- what the names of the text stand for -/
structure Nm (P : Program) (w : World) (K : PySem.W.Frag) (mg : Str → Option Value) (base : Heap) (kd : FK) (k : Nat) (nm : Str → Option (List Str × List Nat)) (cf : Str → List D → Fd → Ou D) : Prop where
  cal : ∀ x ps ns, nm x = some (ps, ns) → ns ≠ [] → 1000 ∉ ns → 1001 ∉ ns → Cal P w K mg base kd k x ps ns (cf x)
  hrd : ∀ x a, nm x = some ([a], []) → HrdD P w K mg base kd x a (cf x)
  gct : ∀ x ns, nm x = some ([], 1001 :: ns) → ∃ p, mg x = some (.ref p) ∧ ∀ H, SqT K H p (ns.map fun n => V.int (n : Nat))
  exc : ∀ c fs, nm c = some (fs, [1000]) → ExcD P w K mg base k c fs
theorem Nm.mono {P : Program} {w : World} {K : PySem.W.Frag} {mg : Str → Option Value} {base : Heap} {kd : FK} {j k : Nat} {nm : Str → Option (List Str × List Nat)} {cf : Str → List D → Fd → Ou D} (h : Nm P w K mg base kd j nm cf) (le : j ≤ k) : Nm P w K mg base kd k nm cf where
  cal := fun x ps ns e h1 h2 h3 => (h.cal x ps ns e h1 h2 h3).mono le
  hrd := h.hrd
  gct := h.gct
  exc := fun c fs e => (h.exc c fs e).mono le
/-- where a piece of text is evaluated -/
structure Ct (X : Cx) (N : List Str) (sc : Scope) (nm : Str → Option (List Str × List Nat)) (cf : Str → List D → Fd → Ou D) (kd : FK) (k : Nat) : Prop where
  calm : X.calm = true
  nn : X.N = N
  nd : N.Nodup
  scp : X.env.scope = sc
  gd : X.A.guards = some []
  room : Room k X.A
  blt : ∀ x, x ∈ bNames → X.mg x = none
  nms : Nm X.prog X.w X.K X.mg X.base kd k nm cf
  lam : hasH nm sc = true → TabX X kd ∧ ∃ j, j + 2 ≤ k ∧ Nm X.prog X.w X.K X.mg X.base kd j nm cf
section
variable {X : Cx} {N : List Str} {sc : Scope} {nm : Str → Option (List Str × List Nat)} {cf : Str → List D → Fd → Ou D} {kd : FK} {k : Nat} {fa : Addr} {O : Os} {H : Hp} {σ : L2.St} {ρ : Env'} {F : Fd} {Q : VK}
theorem Ct.hu (C : Ct X N sc nm cf kd k) : X.A.units + 64 < cLine := C.room.units
theorem Ct.gl (C : Ct X N sc nm cf kd k) {x : Str} (h : glB sc x = true) : Gl X x := by
  unfold glB at h
  split at h
  · rename_i e; show X.env.scope.names.lookup x = _; rw [C.scp]; exact e
  · cases h
theorem Ct.vis (C : Ct X N sc nm cf kd k) {x : Str} (h : visB sc x = true) : Vis X.env.scope x := by
  rw [C.scp]
  unfold visB at h
  unfold Vis
  split at h
  · rename_i e; exact .inl e
  · rename_i e; exact .inr (.inl e)
  · rename_i e; exact .inr (.inr e)
  · cases h
theorem Ct.blk (C : Ct X N sc nm cf kd k) {s : Shared} {scope : Scope} (ho : hOk nm scope sc = true) {Cc : Addr} {cl : List (Str × Addr)} {fp : List Addr} : Ct (X.blk s H scope (compEnvC scope cl Cc X.env) fp) N (relS scope sc) nm cf kd k where
  calm := C.calm
  nn := C.nn
  nd := C.nd
  scp := by rw [← C.scp]; rfl
  gd := C.gd
  room := C.room
  blt := C.blt
  nms := C.nms
  lam := fun h => by
    unfold hOk at ho
    rw [h] at ho
    exact C.lam (by simpa using ho)
/-- the statements that are shown of a piece -/
abbrev SdE (N : List Str) (nm : Str → Option (List Str × List Nat)) (cf : Str → List D → Fd → Ou D) (kd : FK) (k : Nat) (e : IE) : Prop := ∀ {X : Cx} {sc : Scope}, Ct X N sc nm cf kd k → ∀ (x : Expr), chE N nm e sc x = true →
  ∀ (σ : L2.St) (ρ : Env') (H : Hp) (fa : Addr) (O : Os) (F : Fd) (Q : VK), σ.length = N.length → SR X.K fa O kd H σ ρ F → Po X σ H fa O kd (Rp X.K fa O) (evE cf e ρ F) Q → SmE X x σ H Q
abbrev SdT (N : List Str) (nm : Str → Option (List Str × List Nat)) (cf : Str → List D → Fd → Ou D) (kd : FK) (k : Nat) (e : IE) : Prop := ∀ {X : Cx} {sc : Scope}, Ct X N sc nm cf kd k → ∀ (x : Expr), chE N nm e sc x = true → tOk e x = true →
  ∀ (σ : L2.St) (ρ : Env') (H : Hp) (fa : Addr) (O : Os) (F : Fd) (Q : Bool → Hp → Prop), σ.length = N.length → SR X.K fa O kd H σ ρ F → Po X σ H fa O kd (fun _ b c => b = c) (tsE cf e ρ F) Q → SmT X x σ H Q
abbrev SdW (N : List Str) (nm : Str → Option (List Str × List Nat)) (cf : Str → List D → Fd → Ou D) (kd : FK) (k : Nat) (e : IE) : Prop := ∀ {X : Cx} {sc : Scope}, Ct X N sc nm cf kd k → ∀ (x : Expr), chE N nm e sc x = true → (isAnd e || isOr e) = true →
  ∀ (σ : L2.St) (ρ : Env') (H : Hp) (fa : Addr) (O : Os) (F : Fd) (Q : Bool → Hp → Prop), σ.length = N.length → SR X.K fa O kd H σ ρ F → Po X σ H fa O kd (fun _ b c => b = c) (evT cf e ρ F) Q → SmW X x σ H Q
abbrev SdL (N : List Str) (nm : Str → Option (List Str × List Nat)) (cf : Str → List D → Fd → Ou D) (kd : FK) (k : Nat) (e : IE) : Prop := ∀ {X : Cx} {sc : Scope}, Ct X N sc nm cf kd k → ∀ (xs : List Expr), chL N nm e sc xs = true →
  ∀ (σ : L2.St) (ρ : Env') (H : Hp) (fa : Addr) (O : Os) (F : Fd) (Q : List V → Hp → Prop), σ.length = N.length → SR X.K fa O kd H σ ρ F → Po X σ H fa O kd (fun H vs ds => Rps X.K fa O H vs ds ∧ vs.length = xs.length) (evL cf false e ρ F) Q → SmA X xs σ H Q
abbrev SdP (N : List Str) (nm : Str → Option (List Str × List Nat)) (cf : Str → List D → Fd → Ou D) (kd : FK) (k : Nat) (e : IE) : Prop := ∀ {X : Cx} {sc : Scope}, Ct X N sc nm cf kd k → ∀ (xs : List Expr), chL N nm e sc xs = true →
  ∀ (σ : L2.St) (ρ : Env') (H : Hp) (fa : Addr) (O : Os) (F : Fd) (Q : List V → Hp → Prop), σ.length = N.length → SR X.K fa O kd H σ ρ F → Po X σ H fa O kd (Pks X.K fa O) (evL cf true e ρ F) Q → SmA X xs σ H Q
abbrev SdK (N : List Str) (nm : Str → Option (List Str × List Nat)) (cf : Str → List D → Fd → Ou D) (kd : FK) (k : Nat) (e : IE) : Prop := ∀ {X : Cx} {sc : Scope}, Ct X N sc nm cf kd k → ∀ (xs : List Keyword), chK N nm e sc xs = true →
  ∀ (σ : L2.St) (ρ : Env') (H : Hp) (fa : Addr) (O : Os) (F : Fd) (Q : List V → Hp → Prop), σ.length = N.length → SR X.K fa O kd H σ ρ F → Po X σ H fa O kd (fun H vs ds => Rps X.K fa O H vs ds ∧ vs.length = xs.length) (evL cf false e ρ F) Q → SmK X xs σ H Q
abbrev SdI (N : List Str) (nm : Str → Option (List Str × List Nat)) (cf : Str → List D → Fd → Ou D) (kd : FK) (k : Nat) (e : IE) : Prop := ∀ {X : Cx} {sc : Scope}, Ct X N sc nm cf kd k → ∀ (tg x : Expr), chE N nm e sc x = true → tOkI e tg = true →
  ∀ (σ : L2.St) (ρ : Env') (H : Hp) (fa : Addr) (O : Os) (F : Fd) (R : It → Hp → Prop), σ.length = N.length → SR X.K fa O kd H σ ρ F → Po X σ H fa O kd (fun H1 J ds => WkOk X.K fa O H1 J ds) (itE cf e ρ F) R → SmI X tg x σ H R
structure SdAll (N : List Str) (nm : Str → Option (List Str × List Nat)) (cf : Str → List D → Fd → Ou D) (kd : FK) (k : Nat) (e : IE) : Prop where
  ee : SdE N nm cf kd k e
  t : SdT N nm cf kd k e
  w : SdW N nm cf kd k e
  l : SdL N nm cf kd k e
  p : SdP N nm cf kd k e
  kw : SdK N nm cf kd k e
  i : SdI N nm cf kd k e

theorem pkV_v {i : Nat} {m : Ou D} : (∃ ds, ρ[i]? = some (.ow ds) ∧ pkV ρ (.v i) m F = .ok (.lst ds) F) ∨ pkV ρ (.v i) m F = m := by
  show (∃ ds, ρ[i]? = some (.ow ds) ∧ (match ρ[i]? with | some (.ow ds) => (.ok (.lst ds) F : Ou D) | _ => m) = .ok (.lst ds) F) ∨ (match ρ[i]? with | some (.ow ds) => (.ok (.lst ds) F : Ou D) | _ => m) = m
  cases h : ρ[i]? with
  | none => exact .inr rfl
  | some s => cases s <;> first | exact .inr rfl | exact .inl ⟨_, rfl, rfl⟩
/-- a value that is looked at alone -/
theorem SdE.pk {e : IE} (h : SdE N nm cf kd k e) (C : Ct X N sc nm cf kd k) {x : Expr} (hc : chE N nm e sc x = true) (hl : σ.length = N.length) (S : SR X.K fa O kd H σ ρ F) (p : Po X σ H fa O kd (Pk X.K fa O) (pkV ρ e (evE cf e ρ F) F) Q) : SmE X x σ H Q := by
  have gen : Po X σ H fa O kd (Pk X.K fa O) (evE cf e ρ F) Q → SmE X x σ H Q := fun p => h C x hc σ ρ H fa O F Q hl S (p.rel fun _ _ _ r => .inl r)
  cases e with
  | v i =>
    rcases pkV_v (ρ := ρ) (F := F) (i := i) (m := evE cf (.v i) ρ F) with ⟨ds, hi, e0⟩ | e0
    · rw [e0] at p
      obtain ⟨x, pos, rfl, c1, c2, c3, c4⟩ := ch_v hc
      obtain ⟨a, vs, ea, nf, oa, ha, r⟩ := S.sl i _ hi
      refine PE.sm (pe_var (i := i) (by rw [C.nn]; exact c1) (C.vis c2) (by simpa [dbB] using c3) c4) ⟨.ref a, ea, ?_⟩
      exact p _ H (Ge.refl _ _) S.fd (.inr ⟨a, vs, ds, rfl, rfl, nf, ha, r⟩)
    · rw [e0] at p; exact gen p
  | _ => exact gen p
/-- a test whose value is looked at -/
theorem SdE.plain {e : IE} (h : SdE N nm cf kd k e) (C : Ct X N sc nm cf kd k) {x : Expr} {Q : Bool → Hp → Prop} (hc : chE N nm e sc x = true) (hp : plainT x = true) (hl : σ.length = N.length) (S : SR X.K fa O kd H σ ρ F) (p : Po X σ H fa O kd (fun _ b c => b = c) (asT (pkV ρ e (evE cf e ρ F) F)) Q) : SmT X x σ H Q := by
  refine st_plain hp (h.pk C hc hl S (p.bind fun d F1 v H1 _ g f r q => ?_))
  obtain ⟨b, hb, q⟩ := Po.of q
  exact ⟨b, tru_truD hb r, q b H1 (Ge.refl _ _) f rfl⟩
theorem SdE.truth {e : IE} (h : SdE N nm cf kd k e) (hi : isT e = false) : SdT N nm cf kd k e := fun C x hc ht σ ρ H fa O F Q hl S p => by
  unfold tOk at ht
  rw [hi, Bool.false_or] at ht
  unfold tsE at p
  rw [hi, if_neg Bool.false_ne_true] at p
  exact h.plain C hc ht hl S p
/-- what is walked, by its value -/
theorem SdE.walk {e : IE} (h : SdE N nm cf kd k e) (hi : isI e = false) : SdI N nm cf kd k e := fun {X sc} C tg x hc _ σ ρ H fa O F R hl S p => by
  unfold itE at p
  rw [hi, if_neg Bool.false_ne_true] at p
  unfold asI at p
  cases hm : evE cf e ρ F with
  | no => rw [hm] at p; exact p.elim
  | ex c fs F1 =>
    rw [hm] at p
    refine si_lst (h C x hc σ ρ H fa O F _ hl S ?_)
    rw [hm]; exact p
  | ok d F1 =>
    cases d with
    | tup ds =>
      refine si_tup (h C x hc σ ρ H fa O F _ hl S (p.bind fun d F2 v H1 e1 g f r q => ?_))
      rw [hm] at e1
      cases e1
      obtain ⟨a, vs, rfl, ha, rv, no⟩ := r.tupH
      exact ⟨a, rfl, ⟨vs, .inl (.inl ha)⟩, q _ H1 (Ge.refl _ _) f (wk_tup ha no rv)⟩
    | lst ds =>
      refine si_lst (h C x hc σ ρ H fa O F _ hl S (p.bind fun d F2 v H1 e1 g f r q => ?_))
      rw [hm] at e1
      cases e1
      obtain ⟨a, vs, rfl, ha, rv, no⟩ := r.lstI
      exact ⟨a, rfl, ⟨vs, .inl (.inl ha)⟩, q _ H1 (Ge.refl _ _) f (wk_list ha no rv)⟩
    | _ => rw [hm] at p; exact p.elim
end
end TH
/-! What is checked is met: the cases. -/
namespace TH
open PySem PySem.Spec PyProof.Rows L2
section
variable {X : Cx} {N : List Str} {sc : Scope} {nm : Str → Option (List Str × List Nat)} {cf : Str → List D → Fd → Ou D} {kd : FK} {k : Nat} {fa : Addr} {O : Os} {H : Hp} {σ : L2.St} {ρ : Env'} {F : Fd} {Q : VK} {pos p p2 q : Pos} {a : Expr}
/-- one thing after another, where the first is followed by what it tells -/
theorem Po.seq {α β γ δ : Type} {R : Hp → β → α → Prop} {R' : Hp → δ → γ → Prop} {m : Ou α} {f : α → Fd → Ou γ} {Q' : β → Hp → Prop} {Q : δ → Hp → Prop} (h : Po X σ H fa O kd R' (m.bind f) Q) (S : SR X.K fa O kd H σ ρ F)
    (j : ∀ a F1 v H1, SR X.K fa O kd H1 σ ρ F1 → Ge fa H H1 → R H1 v a → Po X σ H1 fa O kd R' (f a F1) Q → Q' v H1) : Po X σ H fa O kd R m Q' := h.bind fun a F1 v H1 _ g fd r q => j a F1 v H1 (S.ge g fd) g r q
theorem Po.val {α β : Type} {R : Hp → β → α → Prop} {x : Option α} {F : Fd} {Q : β → Hp → Prop} (h : Po X σ H fa O kd R (Ou.of x F) Q) (S : SR X.K fa O kd H σ ρ F) : ∃ a, x = some a ∧ ∀ v, R H v a → Q v H := by
  obtain ⟨a, e, j⟩ := Po.of h
  exact ⟨a, e, fun v r => j v H (Ge.refl _ _) S.fd r⟩
theorem SdAll.pk {e : IE} (h : SdAll N nm cf kd k e) (C : Ct X N sc nm cf kd k) {x : Expr} (hc : chE N nm e sc x = true) (hl : σ.length = N.length) (S : SR X.K fa O kd H σ ρ F) (p : Po X σ H fa O kd (Pk X.K fa O) (pkV ρ e (evE cf e ρ F) F) Q) : SmE X x σ H Q := SdE.pk h.ee C hc hl S p
theorem isAnd_T {e : IE} (h : (isAnd e || isOr e) = true) : isT e = true := by cases e <;> first | rfl | cases h
def isLs : IE → Bool
  | .nil => true
  | .cons _ _ => true
  | _ => false
theorem chL_ls {e : IE} (h : isLs e = false) {xs : List Expr} : ¬ chL N nm e sc xs = true := fun z => by cases e <;> first | exact Bool.false_ne_true z | (exact absurd (show true = false from h) (by decide))
theorem chK_ls {e : IE} (h : isLs e = false) {xs : List Keyword} : ¬ chK N nm e sc xs = true := fun z => by cases e <;> first | exact Bool.false_ne_true z | (exact absurd (show true = false from h) (by decide))
theorem SdAll.plain {e : IE} (ee : SdE N nm cf kd k e) (ht : isT e = false) (hi : isI e = false) (hl : isLs e = false) : SdAll N nm cf kd k e where
  ee := ee
  t := ee.truth ht
  w := fun C x hc hw => by rw [isAnd_T hw] at ht; cases ht
  l := fun C xs hc => absurd hc (chL_ls hl)
  p := fun C xs hc => absurd hc (chL_ls hl)
  kw := fun C xs hc => absurd hc (chK_ls hl)
  i := ee.walk hi
theorem SdAll.test {e : IE} (ee : SdE N nm cf kd k e) (t : SdT N nm cf kd k e) (w : SdW N nm cf kd k e) (hi : isI e = false) (hl : isLs e = false) : SdAll N nm cf kd k e where
  ee := ee
  t := t
  w := w
  l := fun C xs hc => absurd hc (chL_ls hl)
  p := fun C xs hc => absurd hc (chL_ls hl)
  kw := fun C xs hc => absurd hc (chK_ls hl)
  i := ee.walk hi
theorem SdAll.walk {e : IE} (i : SdI N nm cf kd k e) (h0 : ∀ ρ F, evE cf e ρ F = .no) (ht : isT e = false) (hl : isLs e = false) : SdAll N nm cf kd k e :=
  have ee : SdE N nm cf kd k e := fun C x hc σ ρ H fa O F Q hl S p => by rw [h0] at p; exact p.elim
  { ee := ee
    t := ee.truth ht
    w := fun C x hc hw => by rw [isAnd_T hw] at ht; cases ht
    l := fun C xs hc => absurd hc (chL_ls hl)
    p := fun C xs hc => absurd hc (chL_ls hl)
    kw := fun C xs hc => absurd hc (chK_ls hl)
    i := i }

theorem sd_v (i : Nat) : SdAll N nm cf kd k (.v i) := .plain (fun C x hc σ ρ H fa O F Q hl S p => by
  obtain ⟨x, pos, rfl, c1, c2, c3, c4⟩ := ch_v hc
  have p : Po _ σ H fa O kd _ (match ρ[i]? with | some (.im d) => .ok d F | _ => .no) Q := p
  cases e : ρ[i]? with
  | none => rw [e] at p; exact p.elim
  | some s =>
    rw [e] at p
    cases s with
    | im d =>
      obtain ⟨v, ev, r⟩ := S.sl i _ e
      exact PE.sm (pe_var (i := i) (by rw [C.nn]; exact c1) (C.vis c2) (by simpa [dbB] using c3) c4) ⟨v, ev, p v H (Ge.refl _ _) S.fd r⟩
    | _ => exact p.elim) rfl rfl rfl
theorem sd_c (d : D) : SdAll N nm cf kd k (.c d) := .plain (fun C x hc σ ρ H fa O F Q hl S p => by
  obtain ⟨c, j, pos, rfl, hb⟩ := ch_c hc
  have p : Po _ σ H fa O kd _ (.ok d F) Q := p
  unfold constB at hb
  split at hb
  · simp only [decide_eq_true_eq] at hb; subst hb; exact PE.sm pe_int (p _ H (Ge.refl _ _) S.fd (.int _))
  · simp only [decide_eq_true_eq] at hb; subst hb; exact PE.sm pe_bl (p _ H (Ge.refl _ _) S.fd (.bl _))
  · simp only [decide_eq_true_eq] at hb; subst hb; exact PE.sm pe_str (p _ H (Ge.refl _ _) S.fd (.str _))
  · exact PE.sm pe_non (p _ H (Ge.refl _ _) S.fd .non)
  · cases hb) rfl rfl rfl
theorem sd_bin (op : Operator) {a b : IE} (ha : SdAll N nm cf kd k a) (hb : SdAll N nm cf kd k b) : SdAll N nm cf kd k (.bin op a b) := .plain (fun C x hc σ ρ H fa O F Q hl S p => by
  obtain ⟨a', b', pos, rfl, c1, c2⟩ := ch_bin hc
  refine sm_bin (ha.pk C c1 hl S (p.seq S fun x F1 v H1 S1 g1 r1 p1 => hb.pk C c2 hl S1 (p1.seq S1 fun y F2 w H2 S2 g2 r2 p2 => ?_)))
  obtain ⟨d, e, j⟩ := Po.of p2
  exact op_binD S2.toHd e (r1.ge S1.ofa g2) r2 j) rfl rfl rfl
theorem sd_neg {a : IE} (ha : SdAll N nm cf kd k a) : SdAll N nm cf kd k (.neg a) := .plain (fun C x hc σ ρ H fa O F Q hl S p => by
  obtain ⟨a', pos, rfl, c1⟩ := ch_neg hc
  refine sm_neg (ha.ee C a' c1 σ ρ H fa O F _ hl S (p.seq S fun x F1 v H1 S1 g1 r1 p1 => ?_))
  obtain ⟨d, e, j⟩ := p1.val S1
  cases x with
  | int i => cases e; cases r1; exact ⟨i, rfl, j _ (.int _)⟩
  | _ => cases e) rfl rfl rfl
theorem sm_notT (h : SmE X a σ H fun x H1 => ∃ k, TruV X.K x H1 k ∧ Q (.bl (!k)) H1) : SmE X (.UnaryOp .Not a pos) σ H Q := PE.sm (pe_notT pe_sm) h
theorem sd_not {a : IE} (ha : SdAll N nm cf kd k a) : SdAll N nm cf kd k (.not a) := .test (fun C x hc σ ρ H fa O F Q hl S p => by
    obtain ⟨a', pos, rfl, c0, c1⟩ := ch_not hc
    have p1 : Po _ σ H fa O kd (fun _ b c => b = c) (asT (pkV ρ a (evE cf a ρ F) F)) fun b H1 => Q (.bl (!b)) H1 := Po.seq p S fun b F1 v H1 S1 g1 r1 p1 => by
      subst r1; exact p1 _ H1 (Ge.refl _ _) S1.fd (.bl _)
    refine sm_notT (ha.pk C c1 hl S (p1.seq S fun x F1 v H1 S1 g1 r1 p1 => ?_))
    obtain ⟨d, e, j⟩ := p1.val S1
    exact ⟨d, tru_truD e r1, j d rfl⟩)
  (fun C x hc _ σ ρ H fa O F Q hl S p => by
    obtain ⟨a', pos, rfl, c0, c1⟩ := ch_not hc
    have p : Po _ σ H fa O kd _ ((tsE cf a ρ F).bind fun k F => .ok (!k) F) Q := p
    refine st_not (ha.t C a' c1 c0 σ ρ H fa O F _ hl S (p.seq S fun b F1 v H1 S1 g1 r1 p1 => ?_))
    subst r1; exact p1 _ H1 (Ge.refl _ _) S1.fd rfl)
  (fun C x hc hw => by cases hw) rfl rfl
theorem sd_band {a b : IE} (ha : SdAll N nm cf kd k a) (hb : SdAll N nm cf kd k b) : SdAll N nm cf kd k (.band a b) := by
  have w : SdW N nm cf kd k (.band a b) := fun C x hc _ σ ρ H fa O F Q hl S p => by
    obtain ⟨a', b', rest, pos, rfl, c0, c1, c2⟩ := ch_band hc
    have p : Po _ σ H fa O kd _ ((tsE cf a ρ F).bind fun k F => if k = true then tsE cf b ρ F else .ok false F) Q := p
    refine sw_and (ha.t C a' c1 c0 σ ρ H fa O F _ hl S (p.seq S fun k F1 v H1 S1 g1 r1 p1 => ?_))
    subst r1
    cases v with
    | false => rw [if_neg Bool.false_ne_true] at p1 ⊢; exact p1 _ H1 (Ge.refl _ _) S1.fd rfl
    | true =>
      rw [if_pos rfl] at p1 ⊢
      rcases c2 with ⟨rfl, t0, t1⟩ | ⟨_, t0, t1⟩
      · exact sw_and1 (hb.t C b' t1 t0 σ ρ H1 fa O F1 Q hl S1 p1)
      · have t2 : (isAnd b || isOr b) = true := by rw [t0]; rfl
        unfold tsE at p1
        rw [isAnd_T t2, if_pos rfl] at p1
        exact hb.w C _ t1 t2 σ ρ H1 fa O F1 Q hl S1 p1
  exact .test (fun C x hc σ ρ H fa O F Q hl S p => by
      obtain ⟨a', b', rest, pos, rfl, c0, c1, c2⟩ := ch_band hc
      refine sm_and (ha.ee C a' c1 σ ρ H fa O F _ hl S (p.seq S fun x F1 v H1 S1 g1 r1 p1 => ?_))
      cases x with
      | bl c =>
        cases r1
        refine ⟨c, rfl, ?_⟩
        cases c with
        | false => rw [if_neg Bool.false_ne_true]; exact p1 _ H1 (Ge.refl _ _) S1.fd (.bl _)
        | true =>
          rw [if_pos rfl]
          rcases c2 with ⟨rfl, t0, t1⟩ | ⟨_, t0, t1⟩
          · exact sm_one (hb.ee C b' t1 σ ρ H1 fa O F1 Q hl S1 p1)
          · exact hb.ee C _ t1 σ ρ H1 fa O F1 Q hl S1 p1
      | _ => exact p1.elim)
    (fun C x hc ht σ ρ H fa O F Q hl S p => (w C x hc rfl σ ρ H fa O F Q hl S p).t) w rfl rfl
theorem sd_bor {a b : IE} (ha : SdAll N nm cf kd k a) (hb : SdAll N nm cf kd k b) : SdAll N nm cf kd k (.bor a b) := by
  have w : SdW N nm cf kd k (.bor a b) := fun C x hc _ σ ρ H fa O F Q hl S p => by
    obtain ⟨a', b', rest, pos, rfl, c0, c1, c2⟩ := ch_bor hc
    have p : Po _ σ H fa O kd _ ((tsE cf a ρ F).bind fun k F => if k = true then .ok true F else tsE cf b ρ F) Q := p
    refine sw_or (ha.t C a' c1 c0 σ ρ H fa O F _ hl S (p.seq S fun k F1 v H1 S1 g1 r1 p1 => ?_))
    subst r1
    cases v with
    | true => rw [if_pos rfl] at p1 ⊢; exact p1 _ H1 (Ge.refl _ _) S1.fd rfl
    | false =>
      rw [if_neg Bool.false_ne_true] at p1 ⊢
      rcases c2 with ⟨rfl, t0, t1⟩ | ⟨_, t0, t1⟩
      · exact sw_or1 (hb.t C b' t1 t0 σ ρ H1 fa O F1 Q hl S1 p1)
      · have t2 : (isAnd b || isOr b) = true := by rw [t0, Bool.or_true]
        unfold tsE at p1
        rw [isAnd_T t2, if_pos rfl] at p1
        exact hb.w C _ t1 t2 σ ρ H1 fa O F1 Q hl S1 p1
  exact .test (fun C x hc σ ρ H fa O F Q hl S p => by
      obtain ⟨a', b', rest, pos, rfl, c0, c1, c2⟩ := ch_bor hc
      refine sm_or (ha.ee C a' c1 σ ρ H fa O F _ hl S (p.seq S fun x F1 v H1 S1 g1 r1 p1 => ?_))
      cases x with
      | bl c =>
        cases r1
        refine ⟨c, rfl, ?_⟩
        cases c with
        | true => rw [if_pos rfl]; exact p1 _ H1 (Ge.refl _ _) S1.fd (.bl _)
        | false =>
          rw [if_neg Bool.false_ne_true]
          rcases c2 with ⟨rfl, t0, t1⟩ | ⟨_, t0, t1⟩
          · exact sm_one (hb.ee C b' t1 σ ρ H1 fa O F1 Q hl S1 p1)
          · exact hb.ee C _ t1 σ ρ H1 fa O F1 Q hl S1 p1
      | _ => exact p1.elim)
    (fun C x hc ht σ ρ H fa O F Q hl S p => (w C x hc rfl σ ρ H fa O F Q hl S p).t) w rfl rfl
theorem sd_cmp (op : CmpOp) {a b : IE} (ha : SdAll N nm cf kd k a) (hb : SdAll N nm cf kd k b) : SdAll N nm cf kd k (.cmp op a b) := .test (fun C x hc σ ρ H fa O F Q hl S p => by
    obtain ⟨a', b', pos, rfl, c0, c1, c2⟩ := ch_cmp hc
    refine sm_cmp c0 (ha.pk C c1 hl S (p.seq S fun x F1 v H1 S1 g1 r1 p1 => hb.pk C c2 hl S1 (p1.seq S1 fun y F2 w H2 S2 g2 r2 p2 => ?_)))
    obtain ⟨d, e, j⟩ := p2.val S2
    rw [Option.map_eq_some_iff] at e
    obtain ⟨b, e, rfl⟩ := e
    exact op_cmpD C.hu e (r1.ge S1.ofa g2) r2 (j _ (.bl _)))
  (fun C x hc _ σ ρ H fa O F Q hl S p => by
    obtain ⟨a', b', pos, rfl, c0, c1, c2⟩ := ch_cmp hc
    refine (sw_cmp c0 (ha.pk C c1 hl S (Po.seq p S fun x F1 v H1 S1 g1 r1 p1 => hb.pk C c2 hl S1 (Po.seq p1 S1 fun y F2 w H2 S2 g2 r2 p2 => ?_)))).t
    obtain ⟨d, e, j⟩ := Po.val p2 S2
    exact op_cmpD C.hu e (r1.ge S1.ofa g2) r2 ⟨d, rfl, j d rfl⟩)
  (fun C x hc hw => by cases hw) rfl rfl
theorem sd_chn (op1 op2 : CmpOp) {a b c : IE} (ha : SdAll N nm cf kd k a) (hb : SdAll N nm cf kd k b) (hc' : SdAll N nm cf kd k c) : SdAll N nm cf kd k (.chn op1 op2 a b c) := .test (fun C x hc σ ρ H fa O F Q hl S p => by
    obtain ⟨a', b', c', pos, rfl, c0, c1, c2, c3⟩ := ch_chn hc
    refine sm_chain c0 (ha.ee C a' c1 σ ρ H fa O F _ hl S (p.seq S fun x F1 v H1 S1 g1 r1 p1 => hb.ee C b' c2 σ ρ H1 fa O F1 _ hl S1 (p1.seq S1 fun y F2 w H2 S2 g2 r2 p2 => ?_)))
    have r1' : Pk _ fa O H2 v x := Pk.ge (.inl r1) S1.ofa g2
    cases e : cmpD op1 x y with
    | none => rw [e] at p2; exact p2.elim
    | some t =>
      rw [e] at p2
      refine op_cmpD C.hu e r1' (.inl r2) ⟨t, rfl, ?_⟩
      cases t with
      | false => rw [if_neg Bool.false_ne_true]; exact p2 _ H2 (Ge.refl _ _) S2.fd (.bl _)
      | true =>
        rw [if_pos rfl]
        refine hc'.ee C c' c3 σ ρ H2 fa O F2 _ hl S2 (Po.seq p2 S2 fun z F3 u H3 S3 g3 r3 p3 => ?_)
        obtain ⟨d, e, j⟩ := p3.val S3
        rw [Option.map_eq_some_iff] at e
        obtain ⟨b, e, rfl⟩ := e
        exact op_cmpD C.hu e (Pk.ge (.inl r2) S2.ofa g3) (.inl r3) (j _ (.bl _)))
  (fun C x hc _ σ ρ H fa O F Q hl S p => by
    obtain ⟨a', b', c', pos, rfl, c0, c1, c2, c3⟩ := ch_chn hc
    refine st_chain c0 (ha.ee C a' c1 σ ρ H fa O F _ hl S (Po.seq p S fun x F1 v H1 S1 g1 r1 p1 => hb.ee C b' c2 σ ρ H1 fa O F1 _ hl S1 (Po.seq p1 S1 fun y F2 w H2 S2 g2 r2 p2 => ?_)))
    have r1' : Pk _ fa O H2 v x := Pk.ge (.inl r1) S1.ofa g2
    cases e : cmpD op1 x y with
    | none => rw [e] at p2; exact p2.elim
    | some t =>
      rw [e] at p2
      refine op_cmpD C.hu e r1' (.inl r2) ⟨t, rfl, ?_⟩
      cases t with
      | false => rw [if_neg Bool.false_ne_true]; exact ⟨false, rfl, p2 _ H2 (Ge.refl _ _) S2.fd rfl⟩
      | true =>
        rw [if_pos rfl]
        refine hc'.ee C c' c3 σ ρ H2 fa O F2 _ hl S2 (Po.seq p2 S2 fun z F3 u H3 S3 g3 r3 p3 => ?_)
        obtain ⟨d, e, j⟩ := Po.val p3 S3
        exact op_cmpD C.hu e (Pk.ge (.inl r2) S2.ofa g3) (.inl r3) ⟨d, rfl, j d rfl⟩)
  (fun C x hc hw => by cases hw) rfl rfl
theorem sd_ife {t a b : IE} (ht : SdAll N nm cf kd k t) (ha : SdAll N nm cf kd k a) (hb : SdAll N nm cf kd k b) : SdAll N nm cf kd k (.ife t a b) := .plain (fun C x hc σ ρ H fa O F Q hl S p => by
  obtain ⟨t', a', b', pos, rfl, c0, c1, c2, c3⟩ := ch_ife hc
  have p : Po _ σ H fa O kd _ ((tsE cf t ρ F).bind fun k F => if k = true then evE cf a ρ F else evE cf b ρ F) Q := p
  refine sm_if (ht.t C t' c1 c0 σ ρ H fa O F _ hl S (p.seq S fun c F1 v H1 S1 g1 r1 p1 => ?_))
  subst r1
  cases v with
  | true => rw [if_pos rfl] at p1 ⊢; exact ha.ee C a' c2 σ ρ H1 fa O F1 Q hl S1 p1
  | false => rw [if_neg Bool.false_ne_true] at p1 ⊢; exact hb.ee C b' c3 σ ρ H1 fa O F1 Q hl S1 p1) rfl rfl rfl
theorem po_short {xs : List D} {F : Fd} {f : List D → Fd → Ou D} (h : Po X σ H fa O kd (Rp X.K fa O) ((shortD xs F).bind f) Q) : xs.length ≤ sizeLine ∧ Po X σ H fa O kd (Rp X.K fa O) (f xs F) Q := by
  unfold shortD at h
  split at h
  · rename_i hs; exact ⟨hs, h⟩
  · exact h.elim
theorem sd_tup {es : IE} (h : SdAll N nm cf kd k es) : SdAll N nm cf kd k (.tup es) := .plain (fun C x hc σ ρ H fa O F Q hl S p => by
  obtain ⟨es', kk, pos, rfl, c1⟩ := ch_tup hc
  refine sm_tup (h.l C es' c1 σ ρ H fa O F _ hl S (Po.seq p S fun xs F1 vs H1 S1 g1 r1 p1 => ?_))
  obtain ⟨hs, p2⟩ := po_short p1
  exact ⟨by rw [r1.1.length]; exact hs, S1.toHd.newT p2 r1.1⟩) rfl rfl rfl
theorem sd_lst {es : IE} (h : SdAll N nm cf kd k es) : SdAll N nm cf kd k (.lst es) := .plain (fun C x hc σ ρ H fa O F Q hl S p => by
  obtain ⟨es', pos, rfl, c1⟩ := ch_lst hc
  refine sm_lst (h.l C es' c1 σ ρ H fa O F _ hl S (Po.seq p S fun xs F1 vs H1 S1 g1 r1 p1 => ?_))
  obtain ⟨hs, p2⟩ := po_short p1
  exact ⟨by rw [r1.1.length]; exact hs, S1.toHd.newL p2 r1.1⟩) rfl rfl rfl
theorem plain_ix {e : Expr} (h : noSl e = true) : PlainIx e := by
  cases e <;> first | (intro o i; rfl) | cases h
theorem sd_ix {a i : IE} (ha : SdAll N nm cf kd k a) (hi : SdAll N nm cf kd k i) : SdAll N nm cf kd k (.ix a i) := .plain (fun C x hc σ ρ H fa O F Q hl S p => by
  obtain ⟨a', i', pos, rfl, c0, c1, c2⟩ := ch_ix hc
  refine sm_ix (plain_ix c0) (ha.pk C c1 hl S (p.seq S fun x F1 v H1 S1 g1 r1 p1 => hi.ee C i' c2 σ ρ H1 fa O F1 _ hl S1 (p1.seq S1 fun y F2 w H2 S2 g2 r2 p2 => ?_)))
  obtain ⟨d, e, j⟩ := Po.of p2
  exact ix_idxD S2.toHd e (r1.ge S1.ofa g2) r2 j) rfl rfl rfl
/-- an end of a slice -/
theorem sd_end {lo : IE} (h : SdAll N nm cf kd k lo) {o : Option Expr} {Q : Option Int → Hp → Prop} (C : Ct X N sc nm cf kd k) (hc : (o = none ∧ isAbs lo = true) ∨ ∃ e, o = some e ∧ isAbs lo = false ∧ chE N nm lo sc e = true) (hl : σ.length = N.length) (S : SR X.K fa O kd H σ ρ F)
    (p : Po X σ H fa O kd (fun _ l l' => l = l') (asO lo (evE cf lo ρ F) F) Q) : SmO X o σ H Q := by
  rcases hc with ⟨rfl, c⟩ | ⟨e, rfl, c, hc⟩
  · have e0 : lo = .absent := by cases lo <;> first | rfl | cases c
    subst e0
    exact so_none (p _ H (Ge.refl _ _) S.fd rfl)
  · have e0 : asO lo (evE cf lo ρ F) F = (evE cf lo ρ F).bind fun d F => Ou.of ((intP d).map some) F := by cases lo <;> first | rfl | cases c
    rw [e0] at p
    refine so_some (h.ee C e hc σ ρ H fa O F _ hl S (p.seq S fun x F1 v H1 S1 g1 r1 p1 => ?_))
    obtain ⟨d, e1, j⟩ := p1.val S1
    cases x with
    | int i => cases e1; cases r1; exact ⟨i, rfl, j _ rfl⟩
    | _ => cases e1
theorem sd_sl {a lo hi : IE} (ha : SdAll N nm cf kd k a) (hlo : SdAll N nm cf kd k lo) (hhi : SdAll N nm cf kd k hi) : SdAll N nm cf kd k (.sl a lo hi) := .plain (fun C x hc σ ρ H fa O F Q hl S p => by
  obtain ⟨a', lo', hi', q2, pos, rfl, c1, c2, c3⟩ := ch_sl hc
  refine sm_sli (ha.pk C c1 hl S (p.seq S fun x F1 v H1 S1 g1 r1 p1 => sd_end hlo C c2 hl S1 (Po.seq p1 S1 fun l F2 l' H2 S2 g2 r2 p2 => sd_end hhi C c3 hl S2 (Po.seq p2 S2 fun u F3 u' H3 S3 g3 r3 p3 => ?_))))
  subst r2 r3
  obtain ⟨d, e, j⟩ := Po.of p3
  exact ⟨fa, O, kd, F3, x, d, (r1.ge S1.ofa g2).ge S2.ofa g3, S3.toHd, e, j⟩) rfl rfl rfl
end
end TH
/-! What is checked is met: calls, walks, comprehensions; all expressions. -/
namespace TH
open PySem PySem.Spec PyProof.Rows L2
section
variable {X : Cx} {N : List Str} {sc : Scope} {nm : Str → Option (List Str × List Nat)} {cf : Str → List D → Fd → Ou D} {kd : FK} {k : Nat} {fa : Addr} {O : Os} {H : Hp} {σ : L2.St} {ρ : Env'} {F : Fd} {Q : VK} {pos p p2 q : Pos} {a : Expr}
theorem sd_call (y : Str) {es ks : IE} (h1 : SdAll N nm cf kd k es) (h2 : SdAll N nm cf kd k ks) : SdAll N nm cf kd k (.call y es ks) := .plain (fun {X sc} C x hc σ ρ H fa O F Q hl S p => by
  obtain ⟨p1, es', kws, q, ps, ns, rfl, c1, c2, c3, c4, c5, c6, c7, c8⟩ := ch_call hc
  refine sm_call (C.gl c1) (C.nms.cal y ps ns c3 (fun z => by rw [z] at c4; cases c4.1) c4.2.1 c4.2.2) C.room C.gd (by simpa [dbB] using c2) (chL_star c7) c5 c4.1 c6 ?_
  have fin : ∀ (vs : List V) (xs : List D) (zs : List V) (ys : List D) (F2 : Fd) (H2 : Hp), SR X.K fa O kd H2 σ ρ F2 → Rps X.K fa O H2 vs xs → vs.length = es'.length → Rps X.K fa O H2 zs ys → zs.length = kws.length → Po X σ H2 fa O kd (Rp X.K fa O) (cf y (xs ++ ys) F2) Q →
      (vs.length = es'.length ∧ vs.length + zs.length = ps.length ∧ ∃ E, PassSt X σ E ∧ SpD X.K X.mg kd ps.length (cf y) (vs ++ zs) H2 Q E) := by
    intro vs xs zs ys F2 H2 S2 r l rz l2 p2
    refine ⟨l, by omega, ?_⟩
    have hlen : (vs ++ zs).length = ps.length := by rw [List.length_append]; omega
    cases e : cf y (xs ++ ys) F2 with
    | no => rw [e] at p2; exact p2.elim
    | ok d F3 =>
      rw [e] at p2
      refine ⟨fun _ _ _ => False, fun pins H1 s u s' I c => ?_, hlen, fa, O, xs ++ ys, F2, S2.toHd, r.append rz, ?_⟩
      · obtain ⟨_, _, _, _, _, _, _, _, _, _, _, _, z⟩ := c
        exact z.elim
      · rw [e]; exact p2
    | ex c fs F3 =>
      rw [e] at p2
      obtain ⟨E, h, j⟩ := p2
      refine ⟨E, h, hlen, fa, O, xs ++ ys, F2, S2.toHd, r.append rz, ?_⟩
      rw [e]; exact j
  have p : Po X σ H fa O kd _ ((evL cf false es ρ F).bind fun xs F => (evL cf false ks ρ F).bind fun ys F => cf y (xs ++ ys) F) Q := p
  cases es' with
  | nil =>
    have e0 : es = .nil := by cases es <;> first | rfl | cases c7
    subst e0
    cases kws with
    | nil =>
      have e1 : ks = .nil := by cases ks <;> first | rfl | cases c8
      subst e1
      exact fin [] [] [] [] F H S .nil rfl .nil rfl p
    | cons kw kws => exact h2.kw C (kw :: kws) c8 σ ρ H fa O F _ hl S (Po.seq (m := evL cf false ks ρ F) p S fun ys F2 zs H2 S2 g2 r2 p2 => fin [] [] zs ys F2 H2 S2 .nil rfl r2.1 r2.2 p2)
  | cons e es' =>
    cases kws with
    | nil =>
      have e1 : ks = .nil := by cases ks <;> first | rfl | cases c8
      subst e1
      exact h1.l C (e :: es') c7 σ ρ H fa O F _ hl S (Po.seq p S fun xs F1 vs H1 S1 g1 r1 p1 => fin vs xs [] [] F1 H1 S1 r1.1 r1.2 .nil rfl p1)
    | cons kw kws =>
      exact h1.l C (e :: es') c7 σ ρ H fa O F _ hl S (Po.seq p S fun xs F1 vs H1 S1 g1 r1 p1 => h2.kw C (kw :: kws) c8 σ ρ H1 fa O F1 _ hl S1 (Po.seq p1 S1 fun ys F2 zs H2 S2 g2 r2 p2 =>
        fin vs xs zs ys F2 H2 S2 (r1.1.go (g2.go S1.ofa)) r1.2 r2.1 r2.2 p2))) rfl rfl rfl
theorem sd_callp (y : Str) (ord : List Nat) {es ks : IE} (h1 : SdAll N nm cf kd k es) (h2 : SdAll N nm cf kd k ks) : SdAll N nm cf kd k (.callp y es ks ord) := .plain (fun {X sc} C x hc σ ρ H fa O F Q hl S p => by
  obtain ⟨p1, es', kws, q, ps, ns, rfl, c1, c2, c3, c4, c5, c6, ck, cb, c9, cn, c7, c8⟩ := ch_callp hc
  refine sm_callp (C.gl c1) (C.nms.cal y ps ns c3 (fun z => by rw [z] at c4; cases c4.1) c4.2.1 c4.2.2) C.room C.gd (by simpa [dbB] using c2) (chL_star c7) c5 c4.1 c6 cb c9 cn ?_
  have fin : ∀ (vs : List V) (xs : List D) (zs : List V) (ys : List D) (F2 : Fd) (H2 : Hp), SR X.K fa O kd H2 σ ρ F2 → Rps X.K fa O H2 vs xs → vs.length = es'.length → Rps X.K fa O H2 zs ys → zs.length = kws.length → Po X σ H2 fa O kd (Rp X.K fa O) (cf y (xs ++ permO .non ord ys) F2) Q →
      (vs.length = es'.length ∧ zs.length = ord.length ∧ ∃ E, PassSt X σ E ∧ SpD X.K X.mg kd ps.length (cf y) (vs ++ permO .non ord zs) H2 Q E) := by
    intro vs xs zs ys F2 H2 S2 r l rz l2 p2
    refine ⟨l, by omega, ?_⟩
    have hlen : (vs ++ permO .non ord zs).length = ps.length := by unfold permO; rw [List.length_append, List.length_map, List.length_range]; omega
    cases e : cf y (xs ++ permO .non ord ys) F2 with
    | no => rw [e] at p2; exact p2.elim
    | ok d F3 =>
      rw [e] at p2
      refine ⟨fun _ _ _ => False, fun pins H1 s u s' I c => ?_, hlen, fa, O, xs ++ permO .non ord ys, F2, S2.toHd, r.append (permO_rps rz), ?_⟩
      · obtain ⟨_, _, _, _, _, _, _, _, _, _, _, _, z⟩ := c
        exact z.elim
      · rw [e]; exact p2
    | ex c fs F3 =>
      rw [e] at p2
      obtain ⟨E, h, j⟩ := p2
      refine ⟨E, h, hlen, fa, O, xs ++ permO .non ord ys, F2, S2.toHd, r.append (permO_rps rz), ?_⟩
      rw [e]; exact j
  have p : Po X σ H fa O kd _ ((evL cf false es ρ F).bind fun xs F => (evL cf false ks ρ F).bind fun ys F => cf y (xs ++ permO .non ord ys) F) Q := p
  cases es' with
  | nil =>
    have e0 : es = .nil := by cases es <;> first | rfl | cases c7
    subst e0
    cases kws with
    | nil =>
      have e1 : ks = .nil := by cases ks <;> first | rfl | cases c8
      subst e1
      exact fin [] [] [] [] F H S .nil rfl .nil rfl p
    | cons kw kws => exact h2.kw C (kw :: kws) c8 σ ρ H fa O F _ hl S (Po.seq (m := evL cf false ks ρ F) p S fun ys F2 zs H2 S2 g2 r2 p2 => fin [] [] zs ys F2 H2 S2 .nil rfl r2.1 r2.2 p2)
  | cons e es' =>
    cases kws with
    | nil =>
      have e1 : ks = .nil := by cases ks <;> first | rfl | cases c8
      subst e1
      exact h1.l C (e :: es') c7 σ ρ H fa O F _ hl S (Po.seq p S fun xs F1 vs H1 S1 g1 r1 p1 => fin vs xs [] [] F1 H1 S1 r1.1 r1.2 .nil rfl p1)
    | cons kw kws =>
      exact h1.l C (e :: es') c7 σ ρ H fa O F _ hl S (Po.seq p S fun xs F1 vs H1 S1 g1 r1 p1 => h2.kw C (kw :: kws) c8 σ ρ H1 fa O F1 _ hl S1 (Po.seq p1 S1 fun ys F2 zs H2 S2 g2 r2 p2 =>
        fin vs xs zs ys F2 H2 S2 (r1.1.go (g2.go S1.ofa)) r1.2 r2.1 r2.2 p2))) rfl rfl rfl
theorem bi_mem (f : Bi) : f.name ∈ bNames := by cases f <;> decide +kernel
theorem ty_mem (T : Ty) : T.name ∈ bNames := by cases T <;> decide +kernel
theorem sm_bi {f : Bi} {e : Expr} {es : List Expr} (hg : Gl X f.name) (hm : X.mg f.name = none) (hs : (e :: es).all nostar = true) (h : SmA X (e :: es) σ H fun vs H1 => SmC X f.val vs H1 Q) : SmE X (.Call (.Name f.name p) (e :: es) [] pos) σ H Q := by
  have hs' := hs
  rw [List.all_cons, Bool.and_eq_true] at hs'
  have a1 := star_of (es := es) (env := X.env) hs'.1
  have a2 := star_any (pos := pos) (env := X.env) hs'.2
  cases f
  case tuple => exact PE.sm (pe_callTy cr_sm hg hm (by decide +kernel) pa_sm (by decide) (by decide) a1 a2) h
  case list => exact PE.sm (pe_callTy cr_sm hg hm (by decide +kernel) pa_sm (by decide) (by decide) a1 a2) h
  case int => exact PE.sm (pe_callTy cr_sm hg hm (by decide +kernel) pa_sm (by decide) (by decide) a1 a2) h
  all_goals exact PE.sm (pe_callB cr_sm hg hm (by decide +kernel) pa_sm (by decide) (by decide) a1 a2) h
theorem sd_bi (f : Bi) {es : IE} (h : SdAll N nm cf kd k es) : SdAll N nm cf kd k (.bi f es) := .plain (fun C x hc σ ρ H fa O F Q hl S p => by
  obtain ⟨p1, e0, r, q, rfl, c1, c2⟩ := ch_bi hc
  refine sm_bi (C.gl c1) (C.blt _ (bi_mem f)) (chL_star c2) (h.p C (e0 :: r) c2 σ ρ H fa O F _ hl S (Po.seq p S fun xs F1 vs H1 S1 g1 r1 p1 => ?_))
  obtain ⟨d, e, j⟩ := Po.of p1
  exact cr_biD C.calm C.gd C.hu S1.toHd e r1 j) rfl rfl rfl
theorem sd_isi (T : Ty) {a : IE} (ha : SdAll N nm cf kd k a) : SdAll N nm cf kd k (.isi T a) := .plain (fun {X sc} C x hc σ ρ H fa O F Q hl S p => by
  obtain ⟨p1, a', p2, q, rfl, c1, c2, c3⟩ := ch_isi hc
  have nt : nostar a' = true := nostar_ch c3
  have hT : bootBuiltins T.name = some (.type T.nm) := by cases T <;> decide +kernel
  have hn : T.name ≠ "__name__" := by cases T <;> decide
  have hd : (T.name == ("__debug__" : Str)) = false := by cases T <;> decide
  have st := star_of (es := [Expr.Name T.name p2]) (env := X.env) nt
  refine PE.sm (pe_callB (id := "isinstance") (r := fun vs H Q => SmC X (.builtin "isinstance") vs H Q) cr_sm (C.gl c1) (C.blt _ (by decide +kernel)) (by decide +kernel) (pa_sm (es := [a', .Name T.name p2])) (by decide) (by decide) st rfl) ?_
  refine sa_cons nt (ha.pk C c3 hl S (Po.seq p S fun d F1 v H1 S1 g1 r1 p1 => ?_))
  obtain ⟨b, e, j⟩ := p1.val S1
  rw [Option.map_eq_some_iff] at e
  obtain ⟨b, e, rfl⟩ := e
  have hf : d ≠ .fd := fun z => by subst z; cases e
  have e' : isiD T d = some b := by
    split at e
    · cases e
    · exact e
  refine sa_cons rfl (PE.sm (pe_bltn (v := .ty T.nm) (C.gl c2) (C.blt _ (ty_mem T)) hT rfl hn hd) (sa_nil ?_))
  exact cr_isi e' r1 hf (j _ (.bl _))) rfl rfl rfl
/-- how many different ints -/
theorem sm_lenset {a : Expr} (hc : X.calm = true) (hg : Gl X "len") (hm : X.mg "len" = none) (hg2 : Gl X "set") (hm2 : X.mg "set" = none) (nt : nostar a = true)
    (h : SmE X a σ H fun x H1 => ∃ (l : Addr) (ns : List Int), x = .ref l ∧ SqL X.K H1 l (ns.map V.int) ∧ ns.length ≤ 4000 ∧ Q (.int (PyProof.Rows.firstMet (fun i => ns.getD i 0) ns.length).length) H1) : SmE X (.Call (.Name "len" p) [.Call (.Name "set" p2) [a] [] q] [] pos) σ H Q := fun pins s I => by
  have na := star_of (es := []) (env := X.env) nt
  refine Call_ (ld_blt I hg hm PySem.boot_len (PyProof.Rows.callWith_builtin1 (PyProof.Rows.args_cons (Call_ (ld_blt I hg2 hm2 PyProof.Rows.boot_set (PyProof.Rows.callWith_type1 (PyProof.Rows.args_cons ?_ na) na rfl))) rfl) rfl rfl))
  refine thn (h pins s I) fun v s1 ⟨x, H1, I1, r1, l, ns, ex, hq, hz, q1⟩ => PyProof.Rows.args_nil ?_
  subst ex
  cases r1
  obtain ⟨its, r, pl, _⟩ := I1.list hq
  have hlen : its.toArray.size = ns.length := by rw [List.size_toArray, ← r.length, List.length_map]
  have iv : ∀ {ns : List Int} {us : List Value}, Vals (ns.map V.int) us → PyProof.Rows.IntsAre us ns := by
    intro ns
    induction ns with
    | nil => intro us z; cases z; exact .nil
    | cons n ns ih =>
      intro us z
      cases z with
      | cons z1 z2 => obtain ⟨t, rfl⟩ := z1; exact .cons n t (ih z2)
  have fl : ∀ (f : Nat → Int) (m : Nat), (PyProof.Rows.firstMet f m).length ≤ m := by
    intro f m
    induction m with
    | zero => exact Nat.le_refl _
    | succ m ih =>
      rw [PyProof.Rows.firstMet_succ]
      unfold PyProof.Rows.step_dedup
      split
      · omega
      · rw [List.length_append]; simp; omega
  refine call_set_list (I1.ok.hd hc) pl.isList (by simpa using iv r) (by rw [hlen]; unfold scanBound; omega) fun h' tk hS hk => PyProof.Rows.args_nil ?_
  rw [hlen] at hS
  obtain ⟨o, es, ep, t, ho, hex, hd, _, _, _, hf, hn⟩ := hS
  have I2 : L2.Inv X pins σ H1 { s1 with heap := h', toks := tk } := I1.kept fun b o e => hk b o (Heap.lt_size e) e
  have hb := fl (fun i => ns.getD i 0) ns.length
  exact call_len_set ho hex hd hf (by rw [hn] <;> omega) ⟨.int (PyProof.Rows.firstMet (fun i => ns.getD i 0) ns.length).length, H1, I2.tok _, ⟨_, by rw [hn]⟩, q1⟩
theorem sd_lenset {a : IE} (ha : SdAll N nm cf kd k a) : SdAll N nm cf kd k (.lenset a) := .plain (fun C x hc σ ρ H fa O F Q hl S p => by
  obtain ⟨p1, p2, a', q, q2, rfl, c1, c2, c3⟩ := ch_lenset hc
  refine sm_lenset C.calm (C.gl c1) (C.blt _ (by decide +kernel)) (C.gl c2) (C.blt _ (by decide +kernel)) (nostar_ch c3) (ha.pk C c3 hl S (Po.seq p S fun d F1 v H1 S1 g1 r1 p1 => ?_))
  obtain ⟨b, e, j⟩ := p1.val S1
  unfold lensetD at e
  split at e
  · split at e
    · rename_i ys _ ns hns
      split at e
      · rename_i hz
        cases e
        rw [intsD_map hns] at r1
        obtain ⟨l, vs, rfl, hl, rr⟩ := r1.lstI
        rw [rr.ints] at hl
        exact ⟨l, ns, rfl, .inl (.inl hl), hz, j _ (.int _)⟩
      · cases e
    · cases e
  · cases e) rfl rfl rfl
theorem rps_rg (a b : Int) : Rps X.K fa O H (rgV a b) ((List.range (b - a).toNat).map fun i => D.int (a + (i : Nat))) := by
  have e1 : rgV a b = ((List.range (b - a).toNat).map fun i => a + ((i : Nat) : Int)).map V.int := by unfold rgV; rw [List.map_map]; rfl
  have e2 : ((List.range (b - a).toNat).map fun i => D.int (a + (i : Nat))) = ((List.range (b - a).toNat).map fun i => a + ((i : Nat) : Int)).map D.int := by rw [List.map_map]; rfl
  rw [e1, e2]
  exact Rps.of_ints _
theorem rngD_ok {a b : Int} {ds : List D} (h : rngD a b = some ds) : RgOk a b ∧ ds = (List.range (b - a).toNat).map fun i => D.int (a + (i : Nat)) := by
  unfold rngD at h
  split at h
  · rename_i z; cases h; exact ⟨z, rfl⟩
  · cases h
theorem sd_lstrng {lo hi : IE} (h1 : SdAll N nm cf kd k lo) (h2 : SdAll N nm cf kd k hi) : SdAll N nm cf kd k (.lstrng lo hi) := .plain (fun {X sc} C x hc σ ρ H fa O F Q hl S p => by
  obtain ⟨p1, p2, q, q2, c1, c2, c⟩ := ch_lstrng hc
  rcases c with ⟨e0, rfl, c3, c4⟩ | ⟨e0, e1, rfl, c3, c4, c5⟩
  · have z : lo = .absent := by cases lo <;> first | rfl | cases c3
    subst z
    have p : Po X σ H fa O kd _ ((evE cf hi ρ F).bind fun y F => Ou.of ((intP y).bind fun b => (rngD 0 b).map D.lst) F) Q := p
    refine PE.sm (pe_listRg C.calm (C.gl c1) (C.blt _ (by decide +kernel)) (prg_1 (C.gl c2) (C.blt _ (by decide +kernel)) pe_sm (star_of (nostar_ch c4)))) ?_
    show SmE X e0 σ H _
    refine h2.ee C e0 c4 σ ρ H fa O F _ hl S (p.seq S fun x F1 v H1 S1 g1 r1 p1 => ?_)
    obtain ⟨d, e, j⟩ := Po.of p1
    cases x with
    | int b =>
      cases r1
      have e9 : (rngD 0 b).map D.lst = some d := e
      rw [Option.map_eq_some_iff] at e9
      obtain ⟨ds, e8, rfl⟩ := e9
      obtain ⟨ok, rfl⟩ := rngD_ok e8
      exact ⟨b, rfl, ok, S1.toHd.newL j (rps_rg 0 b)⟩
    | _ => cases e
  · have ee : evE cf (.lstrng lo hi) ρ F = (evE cf lo ρ F).bind fun x F => (evE cf hi ρ F).bind fun y F => Ou.of ((intP x).bind fun a => (intP y).bind fun b => (rngD a b).map D.lst) F := by cases lo <;> first | rfl | cases c3
    rw [ee] at p
    refine PE.sm (pe_listRg C.calm (C.gl c1) (C.blt _ (by decide +kernel)) (prg_2 (C.gl c2) (C.blt _ (by decide +kernel)) pe_sm pe_sm (star_of (nostar_ch c4)) (star_of (nostar_ch c5)) (star_any (es := [e1]) (by rw [List.all_cons, nostar_ch c5]; rfl)))) ?_
    show SmE X e0 σ H _
    refine h1.ee C e0 c4 σ ρ H fa O F _ hl S (p.seq S fun x F1 v H1 S1 g1 r1 p1 => ?_)
    show SmE X e1 σ H1 _
    refine h2.ee C e1 c5 σ ρ H1 fa O F1 _ hl S1 (p1.seq S1 fun y F2 w H2 S2 g2 r2 p2 => ?_)
    obtain ⟨d, e, j⟩ := Po.of p2
    cases x with
    | int a =>
      cases r1
      cases y with
      | int b =>
        cases r2
        have e9 : (rngD a b).map D.lst = some d := e
        rw [Option.map_eq_some_iff] at e9
        obtain ⟨ds, e8, rfl⟩ := e9
        obtain ⟨ok, rfl⟩ := rngD_ok e8
        exact ⟨a, b, rfl, rfl, ok, S2.toHd.newL j (rps_rg a b)⟩
      | _ => cases e
    | _ => cases e) rfl rfl rfl
theorem sd_nil : SdAll N nm cf kd k .nil where
  ee := fun C x hc => by cases hc
  t := fun C x hc => by cases hc
  w := fun C x hc => by cases hc
  l := fun C xs hc σ ρ H fa O F Q hl S p => by
    have hc : xs.isEmpty = true := hc
    cases xs with
    | nil => exact sa_nil (p [] H (Ge.refl _ _) S.fd ⟨.nil, rfl⟩)
    | cons _ _ => cases hc
  p := fun C xs hc σ ρ H fa O F Q hl S p => by
    have hc : xs.isEmpty = true := hc
    cases xs with
    | nil => exact sa_nil (p [] H (Ge.refl _ _) S.fd .nil)
    | cons _ _ => cases hc
  kw := fun C xs hc σ ρ H fa O F Q hl S p => by
    have hc : xs.isEmpty = true := hc
    cases xs with
    | nil => exact sk_nil (p [] H (Ge.refl _ _) S.fd ⟨.nil, rfl⟩)
    | cons _ _ => cases hc
  i := fun C tg x hc => by cases hc
theorem sd_cons {a es : IE} (ha : SdAll N nm cf kd k a) (h : SdAll N nm cf kd k es) : SdAll N nm cf kd k (.cons a es) where
  ee := fun C x hc => by cases hc
  t := fun C x hc => by cases hc
  w := fun C x hc => by cases hc
  l := fun {X sc} C xs hc σ ρ H fa O F Q hl S p => by
    cases xs with
    | nil => cases hc
    | cons x xs =>
      have hc : (chE N nm a sc x && chL N nm es sc xs) = true := hc
      rw [Bool.and_eq_true] at hc
      have p : Po X σ H fa O kd _ ((evE cf a ρ F).bind fun x F => (evL cf false es ρ F).bind fun xs F => .ok (x :: xs) F) Q := p
      refine sa_cons (nostar_ch hc.1) (ha.ee C x hc.1 σ ρ H fa O F _ hl S (p.seq S fun d F1 v H1 S1 g1 r1 p1 => h.l C xs hc.2 σ ρ H1 fa O F1 _ hl S1 (p1.seq S1 fun ds F2 vs H2 S2 g2 r2 p2 => ?_)))
      exact p2 _ H2 (Ge.refl _ _) S2.fd ⟨.cons (r1.go (g2.go S1.ofa)) r2.1, by rw [List.length_cons, List.length_cons, r2.2]⟩
  p := fun {X sc} C xs hc σ ρ H fa O F Q hl S p => by
    cases xs with
    | nil => cases hc
    | cons x xs =>
      have hc : (chE N nm a sc x && chL N nm es sc xs) = true := hc
      rw [Bool.and_eq_true] at hc
      have p : Po X σ H fa O kd _ ((pkV ρ a (evE cf a ρ F) F).bind fun x F => (evL cf true es ρ F).bind fun xs F => .ok (x :: xs) F) Q := p
      refine sa_cons (nostar_ch hc.1) (ha.pk C hc.1 hl S (p.seq S fun d F1 v H1 S1 g1 r1 p1 => h.p C xs hc.2 σ ρ H1 fa O F1 _ hl S1 (p1.seq S1 fun ds F2 vs H2 S2 g2 r2 p2 => ?_)))
      exact p2 _ H2 (Ge.refl _ _) S2.fd (.cons (r1.ge S1.ofa g2) r2)
  kw := fun {X sc} C xs hc σ ρ H fa O F Q hl S p => by
    cases xs with
    | nil => cases hc
    | cons x xs =>
      obtain ⟨nmx, ex, px⟩ := x
      have hc : (chE N nm a sc ex && chK N nm es sc xs) = true := hc
      rw [Bool.and_eq_true] at hc
      have p : Po X σ H fa O kd _ ((evE cf a ρ F).bind fun x F => (evL cf false es ρ F).bind fun xs F => .ok (x :: xs) F) Q := p
      refine sk_cons (ha.ee C ex hc.1 σ ρ H fa O F _ hl S (p.seq S fun d F1 v H1 S1 g1 r1 p1 => h.kw C xs hc.2 σ ρ H1 fa O F1 _ hl S1 (p1.seq S1 fun ds F2 vs H2 S2 g2 r2 p2 => ?_)))
      exact p2 _ H2 (Ge.refl _ _) S2.fd ⟨.cons (r1.go (g2.go S1.ofa)) r2.1, by rw [List.length_cons, List.length_cons, r2.2]⟩
  i := fun C tg x hc => by cases hc
end
end TH
/-! What is checked is met: walks, comprehensions; all expressions. -/
namespace TH
open PySem PySem.Spec PyProof.Rows L2
section
variable {X : Cx} {N : List Str} {sc : Scope} {nm : Str → Option (List Str × List Nat)} {cf : Str → List D → Fd → Ou D} {kd : FK} {k : Nat} {fa : Addr} {O : Os} {H : Hp} {σ : L2.St} {ρ : Env'} {F : Fd} {Q : VK} {pos p p2 q : Pos} {a : Expr}
theorem sd_rng {es : IE} (h : SdAll N nm cf kd k es) : SdAll N nm cf kd k (.rng es) := .walk (fun {X sc} C tg x hc _ σ ρ H fa O F R hl S p => by
  obtain ⟨p1, e0, r, q, rfl, c1, c2, c3⟩ := ch_rng hc
  have p : Po X σ H fa O kd _ ((evL cf false es ρ F).bind fun xs F => match xs with
    | [.int b] => Ou.of (rngD 0 b) F
    | [.int a, .int b] => Ou.of (rngD a b) F
    | _ => .no) R := p
  have n0 := chL_star c3
  rw [List.all_cons, Bool.and_eq_true] at n0
  have hm : X.mg "range" = none := C.blt _ (by decide +kernel)
  cases r with
  | nil =>
    refine PI.sm (pi_range1 (C.gl c1) hm pa_sm (star_of n0.1)) ?_
    refine h.l C [e0] c3 σ ρ H fa O F _ hl S (Po.seq p S fun xs F1 vs H1 S1 g1 r1 p1 => ?_)
    obtain ⟨r1, l1⟩ := r1
    split at p1
    · rename_i b
      cases r1 with
      | cons r1 t =>
        cases t
        cases r1
        obtain ⟨ds, e, j⟩ := p1.val S1
        obtain ⟨ok, rfl⟩ := rngD_ok e
        rw [Int.sub_zero] at j
        exact ⟨b, rfl, ok.2.2.1, ok.2.2.2.1, j _ wk_rng⟩
    · rename_i a b
      rw [r1.length] at l1
      cases l1
    · exact p1.elim
  | cons e1 r =>
    cases r with
    | cons _ _ => simp at c2
    | nil =>
      have n1 := n0.2
      rw [List.all_cons, Bool.and_eq_true] at n1
      refine PI.sm (pi_range2 (C.gl c1) hm pa_sm (by rw [star_of n0.1, star_of n1.1]; rfl) (star_of n1.1)) ?_
      refine h.l C [e0, e1] c3 σ ρ H fa O F _ hl S (Po.seq p S fun xs F1 vs H1 S1 g1 r1 p1 => ?_)
      obtain ⟨r1, l1⟩ := r1
      split at p1
      · rename_i b
        rw [r1.length] at l1
        cases l1
      · rename_i a b
        cases r1 with
        | cons r1 t =>
          cases t with
          | cons r2 t =>
            cases t
            cases r1
            cases r2
            obtain ⟨ds, e, j⟩ := p1.val S1
            obtain ⟨ok, rfl⟩ := rngD_ok e
            exact ⟨a, b, rfl, ⟨ok.1, ok.2.1, ok.2.2.1, ok.2.2.2.1⟩, j _ wk_rng⟩
      · exact p1.elim) (fun _ _ => rfl) rfl rfl
theorem tup_ex {it : IE} {tg : Expr} (h : tOkI it tg = true) (hp : pairI it = true) : ∃ es kk p, tg = .Tuple es kk p := by
  unfold tOkI at h
  rw [hp] at h
  cases tg <;> first | (exact absurd h Bool.false_ne_true) | skip
  exact ⟨_, _, _, rfl⟩
theorem sd_enum {a : IE} (ha : SdAll N nm cf kd k a) : SdAll N nm cf kd k (.enum a) := .walk (fun {X sc} C tg x hc ht σ ρ H fa O F R hl S p => by
  obtain ⟨p1, a', q, rfl, c1, c2⟩ := ch_enum hc
  obtain ⟨es, kk, pp, rfl⟩ := tup_ex ht rfl
  have p : Po X σ H fa O kd _ ((evE cf a ρ F).bind fun x F => match x with
    | .tup xs => .ok (enumD xs) F
    | .lst xs => .ok (enumD xs) F
    | _ => .no) R := p
  have hm : X.mg "enumerate" = none := C.blt _ (by decide +kernel)
  have st := star_of (es := []) (env := X.env) (nostar_ch c2)
  cases e : evE cf a ρ F with
  | no => rw [e] at p; exact p.elim
  | ex c fs F1 =>
    refine PI.sm (pi_enum (C.gl c1) hm pa_sm st) (sa_cons (nostar_ch c2) (ha.ee C a' c2 σ ρ H fa O F _ hl S ?_))
    rw [e] at p ⊢; exact p
  | ok d F1 =>
    cases d with
    | tup ds =>
      refine PI.sm (pi_et (C.gl c1) hm pa_sm st) (sa_cons (nostar_ch c2) (ha.ee C a' c2 σ ρ H fa O F _ hl S (Po.bind p fun d F2 v H1 e1 g1 f1 r1 p1 => sa_nil ?_)))
      rw [e] at e1
      cases e1
      obtain ⟨b, vs, rfl, hr, rr, no⟩ := r1.tupH
      exact ⟨b, vs, rfl, .inl (.inl hr), p1 _ H1 (Ge.refl _ _) f1 (wk_enumT hr no rr)⟩
    | lst ds =>
      refine PI.sm (pi_enum (C.gl c1) hm pa_sm st) (sa_cons (nostar_ch c2) (ha.ee C a' c2 σ ρ H fa O F _ hl S (Po.bind p fun d F2 v H1 e1 g1 f1 r1 p1 => sa_nil ?_)))
      rw [e] at e1
      cases e1
      obtain ⟨b, vs, rfl, hr, rr, no⟩ := r1.lstI
      exact ⟨b, vs, rfl, .inl (.inl hr), p1 _ H1 (Ge.refl _ _) f1 (wk_enumL hr no rr)⟩
    | _ => rw [e] at p; exact p.elim) (fun _ _ => rfl) rfl rfl
theorem sd_zip {a b : IE} (ha : SdAll N nm cf kd k a) (hb : SdAll N nm cf kd k b) : SdAll N nm cf kd k (.zip a b) := .walk (fun {X sc} C tg x hc ht σ ρ H fa O F R hl S p => by
  obtain ⟨p1, a', b', q, rfl, c1, c2, c3⟩ := ch_zip hc
  obtain ⟨es, kk, pp, rfl⟩ := tup_ex ht rfl
  have p : Po X σ H fa O kd (fun H1 J ds => WkOk X.K fa O H1 J ds) ((evE cf a ρ F).bind fun x F => (evE cf b ρ F).bind fun y F => zipXY x y F) R := p
  have hm : X.mg "zip" = none := C.blt _ (by decide +kernel)
  have n1 := nostar_ch c2
  have n2 := nostar_ch c3
  have st : starEach [a', b'] X.env = (false, eval a' X.env) :: starEach [b'] X.env := star_of n1
  have st2 : (backTo q (starEach [b'] X.env)).any (·.1) = false := star_any (by rw [List.all_cons, n2]; rfl)
  cases e1 : evE cf a ρ F with
  | no => rw [e1] at p; exact p.elim
  | ex c fs F1 =>
    rw [e1] at p
    exact PI.sm (RZ.pi_zipA (C.gl c1) hm pa_sm st st2) (sa_cons n1 (ha.ee C a' c2 σ ρ H fa O F _ hl S (by rw [e1]; exact p)))
  | ok x F1 =>
    rw [e1] at p
    have p : Po X σ H fa O kd (fun H1 J ds => WkOk X.K fa O H1 J ds) ((evE cf b ρ F1).bind fun y F => zipXY x y F) R := p
    cases e2 : evE cf b ρ F1 with
    | no => rw [e2] at p; exact p.elim
    | ex c fs F2 =>
      rw [e2] at p
      refine PI.sm (RZ.pi_zipA (C.gl c1) hm pa_sm st st2) (sa_cons n1 (ha.ee C a' c2 σ ρ H fa O F _ hl S ?_))
      rw [e1]
      intro v H1 g f r
      refine sa_cons n2 (hb.ee C b' c3 σ ρ H1 fa O F1 _ hl (S.ge g f) ?_)
      rw [e2]
      exact ExW.ge p g
    | ok y F2 =>
      rw [e2] at p
      have args : SmA X [a', b'] σ H fun vs H2 => ∃ v w, vs = [v, w] ∧ Ge fa H H2 ∧ FeedAt X.K fa O kd H2 F2 ∧ Rp X.K fa O H2 v x ∧ Rp X.K fa O H2 w y := by
        refine sa_cons n1 (ha.ee C a' c2 σ ρ H fa O F _ hl S ?_)
        rw [e1]
        intro v H1 g f r
        refine sa_cons n2 (hb.ee C b' c3 σ ρ H1 fa O F1 _ hl (S.ge g f) ?_)
        rw [e2]
        intro w H2 g2 f2 r2
        exact sa_nil ⟨v, w, rfl, g.trans g2, f2, r.go (g2.go S.ofa), r2⟩
      have p : Po X σ H fa O kd (fun H1 J ds => WkOk X.K fa O H1 J ds) (zipXY x y F2) R := p
      unfold zipXY at p
      split at p
      · refine PI.sm (RZ.pi_zipA (C.gl c1) hm pa_sm st st2) (args.mono fun vs H2 ⟨v, w, ev, g, f, r1, r2⟩ => ?_)
        subst ev
        obtain ⟨l, us, rfl, hr, rr, no⟩ := r1.tupH
        obtain ⟨l2, us2, rfl, hr2, rr2, no2⟩ := r2.tupH
        exact ⟨l, l2, us, us2, rfl, .inr ⟨.inl (.inl hr), .inl (.inl hr2), p _ H2 g f (wk_zipT hr no rr hr2 no2 rr2)⟩⟩
      · refine PI.sm (RZ.pi_zipA (C.gl c1) hm pa_sm st st2) (args.mono fun vs H2 ⟨v, w, ev, g, f, r1, r2⟩ => ?_)
        subst ev
        obtain ⟨l, us, rfl, hr, rr, no⟩ := r1.lstI
        obtain ⟨l2, us2, rfl, hr2, rr2, no2⟩ := r2.lstI
        exact ⟨l, l2, us, us2, rfl, .inl ⟨.inl (.inl hr), .inl (.inl hr2), p _ H2 g f (wk_zipL hr no rr hr2 no2 rr2)⟩⟩
      · refine PI.sm (TZ.pi_LT (C.gl c1) hm pa_sm st st2) (args.mono fun vs H2 ⟨v, w, ev, g, f, r1, r2⟩ => ?_)
        subst ev
        obtain ⟨l, us, rfl, hr, rr, no⟩ := r1.lstI
        obtain ⟨l2, us2, rfl, hr2, rr2, no2⟩ := r2.tupH
        exact ⟨l, l2, us, us2, rfl, .inl (.inl hr), .inl (.inl hr2), p _ H2 g f (wk_zipLT hr no rr hr2 no2 rr2)⟩
      · refine PI.sm (TZ.pi_TL (C.gl c1) hm pa_sm st st2) (args.mono fun vs H2 ⟨v, w, ev, g, f, r1, r2⟩ => ?_)
        subst ev
        obtain ⟨l, us, rfl, hr, rr, no⟩ := r1.tupH
        obtain ⟨l2, us2, rfl, hr2, rr2, no2⟩ := r2.lstI
        exact ⟨l, l2, us, us2, rfl, .inl (.inl hr), .inl (.inl hr2), p _ H2 g f (wk_zipTL hr no rr hr2 no2 rr2)⟩
      · exact p.elim) (fun _ _ => rfl) rfl rfl
/-- a target, in its scope -/
theorem pg_ch {Y : Cx} {scope rs : Scope} {tg : IE} {e : Expr} (hc : Y.calm = true) (hN : Y.N = N) (hnd : N.Nodup) (hs : Y.env.scope = rs) (hf : ∀ x, scope.names.lookup x = some .cell → Y.fn x = true) (h : chTg N scope rs tg e = true) : PG Y e (tgT Y.K tg) := by
  have one : ∀ {i : Nat} {x : Str} {p : Pos}, nameT N scope rs i x = true → PG Y (.Name x p) (gName i) := fun {i x p} z => by
    unfold nameT at z
    simp only [Bool.and_eq_true, decide_eq_true_eq, Bool.or_eq_true] at z
    obtain ⟨⟨z1, z2⟩, z3⟩ := z
    have hl : L2.Loc Y.env.scope x := by
      rw [hs]
      unfold locB at z2
      unfold L2.Loc
      split at z2
      · rename_i e; exact .inl e
      · rename_i e; exact .inr e
      · cases z2
    refine pg_name (by rw [hN]; exact hnd) (by rw [hN]; exact z1) hl ?_
    rcases z3 with z3 | z3
    · exact .inr (by rw [hs]; exact z3)
    · exact .inl (hf x z3)
  unfold chTg at h
  split at h
  · split at h
    · exact one h
    · cases h
  · split at h
    · rw [Bool.and_eq_true] at h
      exact pg_tup hc (pgs_cons (one h.1) (pgs_cons (one h.2) pgs_nil))
    · cases h
  · split at h
    · rw [Bool.and_eq_true, Bool.and_eq_true] at h
      exact pg_tup hc (pgs_cons (one h.1.1) (pgs_cons (one h.1.2) (pgs_cons (one h.2) pgs_nil)))
    · cases h
  · cases h
theorem lcLoop_ex {t : Env' → Fd → Ou Bool} {e : Env' → Fd → Ou D} {b : D → Env' → Option Env'} {ρ : Env'} : ∀ {xs : List D} {F : Fd} {c : Str} {fs : List (Str × D)} {F' : Fd}, lcLoop t e b ρ xs F ≠ .ex c fs F'
  | [], _, _, _, _, h => by cases h
  | x :: xs, F, c, fs, F', h => by
    unfold lcLoop at h
    split at h
    · cases h
    · rename_i ρ' _
      cases et : t ρ' F with
      | no => rw [et] at h; cases h
      | ex _ _ _ => rw [et] at h; cases h
      | ok kk F1 =>
        rw [et] at h
        have h : (if kk = true then (e ρ' F1).bindC fun y F => (lcLoop t e b ρ xs F).bindC fun ys F => .ok (y :: ys) F else lcLoop t e b ρ xs F1) = .ex c fs F' := h
        split at h
        · cases ee : e ρ' F1 with
          | no => rw [ee] at h; cases h
          | ex _ _ _ => rw [ee] at h; cases h
          | ok y F2 =>
            rw [ee] at h
            have h : ((lcLoop t e b ρ xs F2).bindC fun ys F => .ok (y :: ys) F) = .ex c fs F' := h
            cases er : lcLoop t e b ρ xs F2 with
            | no => rw [er] at h; cases h
            | ex _ _ _ => rw [er] at h; cases h
            | ok _ _ => rw [er] at h; cases h
        · exact lcLoop_ex h
theorem lcLoop2_ex {t : Env' → Fd → Ou Bool} {g : Env' → Fd → Ou (List D)} {b : D → Env' → Option Env'} {ρ : Env'} : ∀ {xs : List D} {F : Fd} {c : Str} {fs : List (Str × D)} {F' : Fd}, lcLoop2 t g b ρ xs F ≠ .ex c fs F'
  | [], _, _, _, _, h => by cases h
  | x :: xs, F, c, fs, F', h => by
    unfold lcLoop2 at h
    split at h
    · cases h
    · rename_i ρ' _
      cases et : t ρ' F with
      | no => rw [et] at h; cases h
      | ex _ _ _ => rw [et] at h; cases h
      | ok kk F1 =>
        rw [et] at h
        have h : (if kk = true then (g ρ' F1).bindC fun y F => (lcLoop2 t g b ρ xs F).bindC fun ys F => .ok (y ++ ys) F else lcLoop2 t g b ρ xs F1) = .ex c fs F' := h
        split at h
        · cases ee : g ρ' F1 with
          | no => rw [ee] at h; cases h
          | ex _ _ _ => rw [ee] at h; cases h
          | ok y F2 =>
            rw [ee] at h
            have h : ((lcLoop2 t g b ρ xs F2).bindC fun ys F => .ok (y ++ ys) F) = .ex c fs F' := h
            cases er : lcLoop2 t g b ρ xs F2 with
            | no => rw [er] at h; cases h
            | ex _ _ _ => rw [er] at h; cases h
            | ok _ _ => rw [er] at h; cases h
        · exact lcLoop2_ex h
theorem no_fold {it : Expr} {env : Env} (h : noSet it = true) : ∀ x, foldedSetIterable it env x = pure x := by
  intro x
  cases it <;> first | rfl | cases h
theorem tg_mem {tg : IE} {own : List Nat} (h : tgOk N own tg = true) : ∀ i ∈ tgS tg, i ∈ own ∧ i < N.length := fun i hi => by
  have z := List.all_eq_true.mp h i hi
  simp only [Bool.and_eq_true, decide_eq_true_eq, List.contains_iff_mem] at z
  exact z
/-- the tests, the element, in a block -/
theorem blk_ts {scope : Scope} {ifs : IE} {ifs' : List Expr} (hi : SdAll N nm cf kd k ifs) (C : Ct X N sc nm cf kd k) (ho : hOk nm scope sc = true) (ok : IfsOk N nm ifs (relS scope sc) ifs') (hl : σ.length = N.length) :
    ∀ O' H' σ' ρ' F' c F'' (Q : Bool → Hp → Prop), σ'.length = σ.length → SR X.K fa O' kd H' σ' ρ' F' → tsE cf ifs ρ' F' = .ok c F'' → (∀ H2, Ge fa H' H2 → FeedAt X.K fa O' kd H2 F'' → Q c H2) → Blk X scope fun Y => SmTs Y ifs' σ' H' Q := by
  intro O' H' σ' ρ' F' c F'' Q hl' S' e j s G Cc cl fp
  rcases ok with ⟨rfl, rfl⟩ | ⟨x, rfl, t0, t1⟩
  · cases e
    exact st_nil (j H' (Ge.refl _ _) S'.fd)
  · refine st_one (hi.t (C.blk ho) x t1 t0 σ' ρ' H' fa O' F' Q (hl'.trans hl) S' ?_)
    rw [e]
    intro v H2 g f r
    subst r
    exact j H2 g f
theorem blk_e {scope : Scope} {elt : IE} {elt' : Expr} (he : SdAll N nm cf kd k elt) (C : Ct X N sc nm cf kd k) (ho : hOk nm scope sc = true) (hc : chE N nm elt (relS scope sc) elt' = true) (hl : σ.length = N.length) :
    ∀ O' H' σ' ρ' F' d F'' (Q : VK), σ'.length = σ.length → SR X.K fa O' kd H' σ' ρ' F' → evE cf elt ρ' F' = .ok d F'' → (∀ v H2, Ge fa H' H2 → FeedAt X.K fa O' kd H2 F'' → Rp X.K fa O' H2 v d → Q v H2) → Blk X scope fun Y => SmE Y elt' σ' H' Q := by
  intro O' H' σ' ρ' F' d F'' Q hl' S' e j s G Cc cl fp
  refine he.ee (C.blk ho) elt' hc σ' ρ' H' fa O' F' Q (hl'.trans hl) S' ?_
  rw [e]
  exact j
theorem blk_i {scope : Scope} {it : IE} {tg' it' : Expr} (hi : SdAll N nm cf kd k it) (C : Ct X N sc nm cf kd k) (ho : hOk nm scope sc = true) (hc : chE N nm it (relS scope sc) it' = true) (ht : tOkI it tg' = true) (hl : σ.length = N.length) :
    ∀ O' H' σ' ρ' F' zs F'' (R : It → Hp → Prop), σ'.length = σ.length → SR X.K fa O' kd H' σ' ρ' F' → itE cf it ρ' F' = .ok zs F'' → (∀ J H1, Ge fa H' H1 → FeedAt X.K fa O' kd H1 F'' → WkOk X.K fa O' H1 J zs → R J H1) → Blk X scope fun Y => SmI Y tg' it' σ' H' R := by
  intro O' H' σ' ρ' F' zs F'' R hl' S' e j s G Cc cl fp
  refine hi.i (C.blk ho) tg' it' hc ht σ' ρ' H' fa O' F' R (hl'.trans hl) S' ?_
  rw [e]
  exact j
theorem blk_g {scope : Scope} {tg : IE} {tg' : Expr} (C : Ct X N sc nm cf kd k) (h : chTg N scope (relS scope sc) tg tg' = true) : ∀ (s : Shared) (H : Hp) (Cc : Addr) (cl : List (Str × Addr)) (fp : List Addr), PG (X.blk s H scope (compEnvC scope cl Cc X.env) fp) tg' (tgT X.K tg) :=
  fun s H Cc cl fp => pg_ch (N := N) (scope := scope) (rs := relS scope sc) C.calm C.nn C.nd (by rw [← C.scp]; rfl) (fun x hx => by show (scope.names.lookup x == some .cell) = true; rw [hx]; rfl) h
/-- what a comprehension of one clause reads as -/
theorem lc_pre {elt tg it ifs : IE} {own : List Nat} {x : Expr} (he : SdAll N nm cf kd k elt) (hi : SdAll N nm cf kd k it) (hf : SdAll N nm cf kd k ifs) (C : Ct X N sc nm cf kd k) (hc : chE N nm (.lc elt tg it ifs own) sc x = true) (hl : σ.length = N.length) (S : SR X.K fa O kd H σ ρ F) :
    ∃ elt' tg' it' ifs' scope pos, x = .ListComp elt' [⟨tg', it', ifs', 0⟩] scope pos ∧ noSet it' = true ∧ BlkOk X.N X.env.scope scope (ownN N own) ∧ chTg N scope (relS scope sc) tg tg' = true ∧ ∀ Q, Po X σ H fa O kd (FrR X.K fa O H) (evE cf (.lc elt tg it ifs own) ρ F) Q →
      tLc (SmI X tg' it') (tgT X.K tg) (fun σ H Q => Blk X scope fun Y => SmTs Y ifs' σ H Q) (fun σ H Q => Blk X scope fun Y => SmE Y elt' σ H Q) ((ownN N own).map (·.2)) σ H Q := by
  obtain ⟨elt', tg', it', ifs', scope, pos, rfl, c1, c2, c3, c4, c5, c6, c7, c8⟩ := ch_lc hc
  refine ⟨elt', tg', it', ifs', scope, pos, rfl, c1.1, by rw [C.nn, C.scp]; exact blkOk_by c2, c3, fun Q p => ?_⟩
  have p : Po X σ H fa O kd (FrR X.K fa O H) ((itE cf it ρ F).bind fun xs F => (shortD xs F).bind fun xs F => (lcLoop (tsE cf ifs) (evE cf elt) (bindT tg) (wipeE ρ own) xs F).bind fun ys F => .ok (.lst ys) F) Q := p
  rw [ownN_snd]
  have hv : ∀ i ∈ tgS tg, i ∈ own ∧ i < σ.length := by rw [hl]; exact tg_mem c4
  cases ei : itE cf it ρ F with
  | no => rw [ei] at p; exact p.elim
  | ex c fs F1 =>
    rw [ei] at p
    refine hi.i C tg' it' c6 c5 σ ρ H fa O F _ hl S ?_
    rw [ei]; exact p
  | ok items F0 =>
    rw [ei] at p
    have p : Po X σ H fa O kd (FrR X.K fa O H) ((shortD items F0).bind fun xs F => (lcLoop (tsE cf ifs) (evE cf elt) (bindT tg) (wipeE ρ own) xs F).bind fun ys F => .ok (.lst ys) F) Q := p
    unfold shortD at p
    split at p
    · rename_i hz
      have p : Po X σ H fa O kd (FrR X.K fa O H) ((lcLoop (tsE cf ifs) (evE cf elt) (bindT tg) (wipeE ρ own) items F0).bind fun ys F => .ok (.lst ys) F) Q := p
      cases el : lcLoop (tsE cf ifs) (evE cf elt) (bindT tg) (wipeE ρ own) items F0 with
      | no => rw [el] at p; exact p.elim
      | ex c fs F1 => exact absurd el lcLoop_ex
      | ok ys F1 =>
        rw [el] at p
        exact lc_read S (fun R j => hi.i C tg' it' c6 c5 σ ρ H fa O F R hl S (by rw [ei]; exact j)) el hz (blk_ts hf C c1.2 c7 hl) (blk_e he C c1.2 c8 hl) hv p
    · exact p.elim
theorem sd_lc {elt tg it ifs : IE} (own : List Nat) (he : SdAll N nm cf kd k elt) (hi : SdAll N nm cf kd k it) (hf : SdAll N nm cf kd k ifs) : SdAll N nm cf kd k (.lc elt tg it ifs own) := .plain (fun {X sc} C x hc σ ρ H fa O F Q hl S p => by
  obtain ⟨elt', tg', it', ifs', scope, pos, rfl, c1, c2, c3, h⟩ := lc_pre he hi hf C hc hl S
  have hN : X.N.Nodup := by rw [C.nn]; exact C.nd
  exact PE.sm (pe_lc (wi := SmI X tg' it') C.calm hN pi_sm c2 (blk_g C c3) pts_blk pe_blk (no_fold c1)) (h Q (p.rel fun _ _ _ r => r.rp S.toHd))) rfl rfl rfl
/-- .. of two clauses -/
theorem lc2_pre {elt tg it ifs tg1 it1 ifs1 : IE} {own own1 : List Nat} {x : Expr} (he : SdAll N nm cf kd k elt) (hi : SdAll N nm cf kd k it) (hf : SdAll N nm cf kd k ifs) (hi1 : SdAll N nm cf kd k it1) (hf1 : SdAll N nm cf kd k ifs1) (C : Ct X N sc nm cf kd k)
    (hc : chE N nm (.lc2 elt tg it ifs tg1 it1 ifs1 own own1) sc x = true) (hl : σ.length = N.length) (S : SR X.K fa O kd H σ ρ F) :
    ∃ elt' tg' it' ifs' tg1' it1' ifs1' scope pos, x = .ListComp elt' [⟨tg', it', ifs', 0⟩, ⟨tg1', it1', ifs1', 0⟩] scope pos ∧ noSet it' = true ∧ noSet it1' = true ∧ BlkOk X.N X.env.scope scope (ownN N own) ∧ (∀ i ∈ own1, i ∈ (ownN N own).map (·.2)) ∧ chTg N scope (relS scope sc) tg tg' = true ∧ chTg N scope (relS scope sc) tg1 tg1' = true ∧
      ∀ Q, Po X σ H fa O kd (FrR X.K fa O H) (evE cf (.lc2 elt tg it ifs tg1 it1 ifs1 own own1) ρ F) Q →
      tLc2 (SmI X tg' it') (tgT X.K tg) (fun σ H Q => Blk X scope fun Y => SmTs Y ifs' σ H Q) (fun σ H R => Blk X scope fun Y => SmI Y tg1' it1' σ H R) (tgT X.K tg1) (fun σ H Q => Blk X scope fun Y => SmTs Y ifs1' σ H Q)
        (fun σ H Q => Blk X scope fun Y => SmE Y elt' σ H Q) ((ownN N own).map (·.2)) own1 σ H Q := by
  obtain ⟨elt', tg', it', ifs', tg1', it1', ifs1', scope, pos, rfl, c1, c2, c3, c4, c5, c6, c7, c8, b1, b2, b3, b4, b5, b6, b7⟩ := ch_lc2 hc
  refine ⟨elt', tg', it', ifs', tg1', it1', ifs1', scope, pos, rfl, c1.1, b1, by rw [C.nn, C.scp]; exact blkOk_by c2, by rw [ownN_snd]; exact b6, c3, b2, fun Q p => ?_⟩
  have p : Po X σ H fa O kd (FrR X.K fa O H) ((itE cf it ρ F).bind fun xs F => (lcLoop2 (tsE cf ifs) (fun ρ F => (itE cf it1 ρ F).bindC fun zs F => lcLoop (tsE cf ifs1) (evE cf elt) (bindT tg1) (wipeE ρ own1) zs F) (bindT tg) (wipeE ρ own) xs F).bind fun ys F => (shortD ys F).bind fun ys F => .ok (.lst ys) F) Q := p
  rw [ownN_snd]
  cases ei : itE cf it ρ F with
  | no => rw [ei] at p; exact p.elim
  | ex c fs F1 =>
    rw [ei] at p
    refine hi.i C tg' it' c6 c5 σ ρ H fa O F _ hl S ?_
    rw [ei]; exact p
  | ok items F0 =>
    rw [ei] at p
    have p : Po X σ H fa O kd (FrR X.K fa O H) ((lcLoop2 (tsE cf ifs) (fun ρ F => (itE cf it1 ρ F).bindC fun zs F => lcLoop (tsE cf ifs1) (evE cf elt) (bindT tg1) (wipeE ρ own1) zs F) (bindT tg) (wipeE ρ own) items F0).bind fun ys F => (shortD ys F).bind fun ys F => .ok (.lst ys) F) Q := p
    cases el : lcLoop2 (tsE cf ifs) (fun ρ F => (itE cf it1 ρ F).bindC fun zs F => lcLoop (tsE cf ifs1) (evE cf elt) (bindT tg1) (wipeE ρ own1) zs F) (bindT tg) (wipeE ρ own) items F0 with
    | no => rw [el] at p; exact p.elim
    | ex c fs F1 => exact absurd el lcLoop2_ex
    | ok ys F1 =>
      rw [el] at p
      have p : Po X σ H fa O kd (FrR X.K fa O H) ((shortD ys F1).bind fun ys F => .ok (.lst ys) F) Q := p
      unfold shortD at p
      split at p
      · rename_i hz
        exact lc2_read S (fun R j => hi.i C tg' it' c6 c5 σ ρ H fa O F R hl S (by rw [ei]; exact j)) el hz (blk_ts hf C c1.2 c7 hl) (blk_ts hf1 C c1.2 b7 hl) (blk_i hi1 C c1.2 b5 b4 hl) (blk_e he C c1.2 c8 hl) (by rw [hl]; exact tg_mem c4) (by rw [hl]; exact tg_mem b3) p
      · exact p.elim
theorem sd_lc2 {elt tg it ifs tg1 it1 ifs1 : IE} (own own1 : List Nat) (he : SdAll N nm cf kd k elt) (hi : SdAll N nm cf kd k it) (hf : SdAll N nm cf kd k ifs) (hi1 : SdAll N nm cf kd k it1) (hf1 : SdAll N nm cf kd k ifs1) : SdAll N nm cf kd k (.lc2 elt tg it ifs tg1 it1 ifs1 own own1) := .plain (fun {X sc} C x hc σ ρ H fa O F Q hl S p => by
  obtain ⟨elt', tg', it', ifs', tg1', it1', ifs1', scope, pos, rfl, c1, b1, c2, c4, c3, b2, h⟩ := lc2_pre he hi hf hi1 hf1 C hc hl S
  have hN : X.N.Nodup := by rw [C.nn]; exact C.nd
  exact PE.sm (pe_lc2 (wi := SmI X tg' it') C.calm hN pi_sm c2 c4 (blk_g C c3) pts_blk pi_blk (blk_g C b2) pts_blk pe_blk (no_fold c1) (fun env => no_fold b1)) (h Q (p.rel fun _ _ _ r => r.rp S.toHd))) rfl rfl rfl
theorem sd_none {e : IE} (h : ∀ ρ F, evE cf e ρ F = .no) (ht : isT e = false) (hi : isI e = false) (hl : isLs e = false) : SdAll N nm cf kd k e := .plain (fun C x hc σ ρ H fa O F Q hl S p => by rw [h] at p; exact p.elim) ht hi hl
def keyN (a b : Str) : Bool := decide ((Sum.inr a : Key) ≠ Sum.inr b)
theorem key_ne {a b : Str} {v : V} (h : keyN a b = true) : ¬ ((Sum.inr a, v) : Key × V).1 = Sum.inr b := by
  unfold keyN at h
  exact of_decide_eq_true h
theorem key_kn : ∀ m : Nms, (keyN (m.key 0) (m.key 1) && keyN (m.key 0) (m.key 2) && keyN (m.key 0) (m.key 3) && keyN (m.key 1) (m.key 0) && keyN (m.key 1) (m.key 2) && keyN (m.key 1) (m.key 3) && keyN (m.key 2) (m.key 0) && keyN (m.key 2) (m.key 1) && keyN (m.key 2) (m.key 3) && keyN (m.key 3) (m.key 0) && keyN (m.key 3) (m.key 1) && keyN (m.key 3) (m.key 2)) = true
  | .a => by decide +kernel
  | .b => by decide +kernel
  | .c => by decide +kernel
  | .d => by decide +kernel
/-- the keys are unlike -/
structure KeyN (m : Nms) : Prop where
  k01 : keyN (m.key 0) (m.key 1) = true
  k02 : keyN (m.key 0) (m.key 2) = true
  k03 : keyN (m.key 0) (m.key 3) = true
  k10 : keyN (m.key 1) (m.key 0) = true
  k12 : keyN (m.key 1) (m.key 2) = true
  k13 : keyN (m.key 1) (m.key 3) = true
  k20 : keyN (m.key 2) (m.key 0) = true
  k21 : keyN (m.key 2) (m.key 1) = true
  k23 : keyN (m.key 2) (m.key 3) = true
  k30 : keyN (m.key 3) (m.key 0) = true
  k31 : keyN (m.key 3) (m.key 1) = true
  k32 : keyN (m.key 3) (m.key 2) = true
theorem keyN_of (m : Nms) : KeyN m := by
  have h := key_kn m
  simp only [Bool.and_eq_true] at h
  obtain ⟨⟨⟨⟨⟨⟨⟨⟨⟨⟨⟨h1, h2⟩, h3⟩, h4⟩, h5⟩, h6⟩, h7⟩, h8⟩, h9⟩, h10⟩, h11⟩, h12⟩ := h
  exact ⟨h1, h2, h3, h4, h5, h6, h7, h8, h9, h10, h11, h12⟩
theorem fld_get {m : Nms} {c : Addr} {F : Fd} {n : Nat} {d : D} (r : Rp X.K fa O H (.ref c) (.lst (F.cells.map D.int))) (h : F.fld n = some d) : ∃ v, valV (fldV m c F) (Sum.inr (m.key n)) = some v ∧ [V.ref c, .int F.at_, .int F.left, .int F.count][n]? = some v ∧ Rp X.K fa O H v d := by
  have k := keyN_of m
  match n, h with
  | 0, h => cases h; exact ⟨_, valV_pos rfl, rfl, r⟩
  | 1, h => cases h; exact ⟨_, (valV_neg (key_ne k.k01)).trans (valV_pos rfl), rfl, .int _⟩
  | 2, h => cases h; exact ⟨_, (valV_neg (key_ne k.k02)).trans ((valV_neg (key_ne k.k12)).trans (valV_pos rfl)), rfl, .int _⟩
  | 3, h => cases h; exact ⟨_, (valV_neg (key_ne k.k03)).trans ((valV_neg (key_ne k.k13)).trans ((valV_neg (key_ne k.k23)).trans (valV_pos rfl))), rfl, .int _⟩
theorem sd_fget (b : FK0) (i n : Nat) : SdAll N nm cf kd k (.fget b i n) := .plain (fun {X sc} C x hc σ ρ H fa O F Q hl S p => by
  obtain ⟨y, p1, c, j, p2, p3, rfl, c1, c2, c3, c4, c5⟩ := ch_fget hc
  have p : Po X σ H fa O kd _ (match ρ[i]? with | some (.im .fd) => if b = F.dic then Ou.of (F.fld n) F else .no | _ => .no) Q := p
  have hx : PE X (.Name y p1) (tVar i) := pe_var (by rw [C.nn]; exact c1) (C.vis c2) (by simpa [dbB] using c3) c4
  split at p
  · rename_i hi
    obtain ⟨v, ev, r⟩ := S.sl i _ hi
    cases r
    split at p
    · rename_i hb
      obtain ⟨d, ed, j⟩ := p.val S
      have hf := S.fd.2
      unfold fldB at c5
      split at c5
      · rename_i m z
        simp only [Bool.and_eq_true, decide_eq_true_eq] at c5
        cases ek : kd.k with
        | lst => rw [ek] at hf; obtain ⟨hd, _⟩ := hf; rw [← hb] at hd; cases hd
        | dic m2 =>
          rw [ek] at hf
          obtain ⟨hd, cc, ha, rr⟩ := hf
          rw [← hb] at hd
          cases hd
          obtain ⟨w, e1, e2, e3⟩ := fld_get (m := m) rr ed
          have ez : z = m.key n := c5.1
          subst ez
          exact PE.sm (pe_dget (by have := C.hu; omega) hx pe_str (fun _ _ => rfl)) ⟨_, ev, fa, w, rfl, .inl ⟨fldV m cc F, Sum.inr (m.key n), .inl ha, rfl, e1.symm⟩, j _ e3⟩
      · rename_i z
        simp only [Bool.and_eq_true, decide_eq_true_eq] at c5
        cases ek : kd.k with
        | dic m => rw [ek] at hf; obtain ⟨hd, _⟩ := hf; rw [← hb] at hd; cases hd
        | lst =>
          rw [ek] at hf
          obtain ⟨hd, cc, ha, rr⟩ := hf
          obtain ⟨w, e1, e2, e3⟩ := fld_get (m := .a) rr ed
          obtain ⟨ez, hn⟩ := c5
          subst ez
          refine PE.sm (pe_ix ix_list hx pe_int (fun _ _ => rfl)) ⟨_, ev, fa, _, (n : Int), w, rfl, rfl, .inl (.inl ha), ?_, j _ e3⟩
          match n, hn, e2 with
          | 0, _, e2 => exact e2
          | 1, _, e2 => exact e2
          | 2, _, e2 => exact e2
          | 3, _, e2 => exact e2
      · cases c5
    · exact p.elim
  · exact p.elim) rfl rfl rfl
/-- is it in a tuple of numbers of the text's own -/
theorem op_inG {neg : Bool} {ns : List Nat} {d : D} {b : Bool} {v : V} {p : Addr} (e : inGD neg ns d = some b) (r : Pk X.K fa O H v d) (seq : SqT X.K H p (ns.map fun n => V.int (n : Nat))) (k : Q (.bl b) H) : SmOp X (compareOp (if neg = true then .NotIn else .In)) v (.ref p) H Q := by
  unfold inGD at e
  rw [Option.map_eq_some_iff] at e
  obtain ⟨w, e1, e2⟩ := e
  obtain rfl := flV_pk e1 r
  have fl : (ns.map fun n => V.int (n : Nat)).all flatV = true := by
    rw [List.all_eq_true]
    intro x hx
    obtain ⟨n, _, rfl⟩ := List.mem_map.mp hx
    rfl
  cases neg with
  | true =>
    rw [if_pos rfl] at e2 ⊢
    refine OpR.sm op_notIn_seq ⟨p, _, rfl, .inr seq, flV_flat e1, fl, ?_⟩
    rw [if_pos rfl, e2]; exact k
  | false =>
    rw [if_neg Bool.false_ne_true] at e2 ⊢
    refine OpR.sm op_in_seq ⟨p, _, rfl, .inr seq, flV_flat e1, fl, ?_⟩
    rw [if_neg Bool.false_ne_true, e2]; exact k
theorem noMarks {op : CmpOp} {y : Str} {p : Pos} : behindInMarks op (.Name y p) = false := by cases op <;> rfl
theorem sd_inG (neg : Bool) (y : Str) (ns : List Nat) {a : IE} (ha : SdAll N nm cf kd k a) : SdAll N nm cf kd k (.inG neg a y ns) := .test (fun C x hc σ ρ H fa O F Q hl S p => by
    obtain ⟨a', p1, pos, rfl, c1, c2, c3, c4⟩ := ch_inG hc
    obtain ⟨g, hm, seq⟩ := C.nms.gct y ns c3
    have p : Po _ σ H fa O kd _ ((pkV ρ a (evE cf a ρ F) F).bind fun x F => Ou.of ((inGD neg ns x).map D.bl) F) Q := p
    refine sm_cmp noMarks (ha.pk C c4 hl S (p.seq S fun x F1 v H1 S1 g1 r1 p1 => ?_))
    refine PE.sm (pe_glob (v := .ref g) (C.gl c1) hm rfl (by simpa [dbB] using c2)) ?_
    obtain ⟨d, e, j⟩ := p1.val S1
    rw [Option.map_eq_some_iff] at e
    obtain ⟨b, e, rfl⟩ := e
    exact op_inG e r1 (seq H1) (j _ (.bl _)))
  (fun C x hc _ σ ρ H fa O F Q hl S p => by
    obtain ⟨a', p1, pos, rfl, c1, c2, c3, c4⟩ := ch_inG hc
    obtain ⟨g, hm, seq⟩ := C.nms.gct y ns c3
    have p : Po _ σ H fa O kd _ ((pkV ρ a (evE cf a ρ F) F).bind fun x F => Ou.of (inGD neg ns x) F) Q := p
    refine (sw_cmp noMarks (ha.pk C c4 hl S (Po.seq p S fun x F1 v H1 S1 g1 r1 p1 => ?_))).t
    refine PE.sm (pe_glob (v := .ref g) (C.gl c1) hm rfl (by simpa [dbB] using c2)) ?_
    obtain ⟨d, e, j⟩ := Po.val p1 S1
    exact op_inG e r1 (seq H1) ⟨d, rfl, j d rfl⟩)
  (fun C x hc hw => by cases hw) rfl rfl
theorem ixV_at {y : V} : ∀ {vs : List V} {j : Nat}, ixV y vs = some j → (∃ z, vs[j]? = some z ∧ eqV z y = true) ∧ ∀ m z, m < j → vs[m]? = some z → eqV z y = false
  | [], j, h => by cases h
  | v :: vs, j, h => by
    unfold ixV at h
    split at h
    · rename_i e
      cases h
      exact ⟨⟨v, rfl, e⟩, fun m z hm => absurd hm (Nat.not_lt_zero _)⟩
    · rename_i e
      rw [Option.map_eq_some_iff] at h
      obtain ⟨i, h, rfl⟩ := h
      obtain ⟨⟨z, h1, h2⟩, h3⟩ := ixV_at h
      refine ⟨⟨z, h1, h2⟩, fun m w hm e2 => ?_⟩
      cases m with
      | zero => cases e2; exact Bool.eq_false_iff.mpr e
      | succ m => exact h3 m w (by omega) e2
theorem cr_index {ds : List D} {y d : D} {a : Addr} {vs : List V} {w : V} {Q : VK} (e : ixfD (.lst ds) y = some d) (ha : H a = some (.lst vs)) (r : Rps X.K fa O H vs ds) (rw : Rp X.K fa O H w y) (k : ∀ v, Rp X.K fa O H v d → Q v H) : rIndex X.K (.ref a) [w] H Q := by
  have e : (match flV y, flVs ds with | some v, some vs => (ixV v vs).map fun j => D.int (j : Nat) | _, _ => none) = some d := e
  split at e
  · rename_i v us e1 e2
    rw [Option.map_eq_some_iff] at e
    obtain ⟨j, e3, rfl⟩ := e
    obtain rfl := flV_rp e1 rw
    obtain ⟨rfl, fl⟩ := flVs_rps e2 r
    obtain ⟨⟨z, h1, h2⟩, h3⟩ := ixV_at e3
    exact ⟨a, vs, w, j, z, rfl, rfl, .inl (.inl ha), flV_flat e1, fl, h1, h2, h3, k _ (.int _)⟩
  · cases e
theorem sd_mix (i : Nat) {b : IE} (hb : SdAll N nm cf kd k b) : SdAll N nm cf kd k (.mix i b) := .plain (fun {X sc} C x hc σ ρ H fa O F Q hl S p => by
  obtain ⟨y, p1, q, b', q2, rfl, c1, c2, c3, c4, c5, c6⟩ := ch_mix hc
  have nt := nostar_ch c5
  have st1 := star_of (es := []) (env := X.env) nt
  have hx : PE X (.Name y p1) (tVar i) := pe_var (by rw [C.nn]; exact c1) (C.vis c2) (by simpa [dbB] using c3) c4
  have p : Po X σ H fa O kd (Rp X.K fa O) (match ρ[i]? with
    | some (.ow ds) => (evE cf b ρ F).bind fun y F => Ou.of (ixfD (.lst ds) y) F
    | some (.im (.lst ds)) => (evE cf b ρ F).bind fun y F => Ou.of (ixfD (.lst ds) y) F
    | _ => .no) Q := p
  split at p
  · rename_i ds hi
    obtain ⟨a, vs, ev, nf, oa, ha, r⟩ := S.sl i _ hi
    refine PE.sm (pe_bm (T := "list") (id := "list.index") PySem.F.plainAttrs_list PySem.F.slot_list_index rfl mt_index hx (pa_sm (es := [b'])) rfl (by rw [st1]; rfl) c6 st1 rfl) ⟨.ref a, ev, .inl ⟨rfl, vs, .inl (.inl ha)⟩, ?_⟩
    refine sa_cons nt (hb.ee C b' c5 σ ρ H fa O F _ hl S (p.seq S fun z F1 w H1 S1 g1 r1 p1 => sa_nil ?_))
    obtain ⟨d, e, j⟩ := p1.val S1
    obtain ⟨b, ws, ew, _, ob, hb, r2⟩ := S1.sl i _ hi
    rw [ev] at ew
    cases ew
    exact cr_index e hb r2 r1 j
  · rename_i ds hi
    obtain ⟨v, ev, r⟩ := S.sl i _ hi
    obtain ⟨a, vs, rfl, ha, rv, no⟩ := r.lstI
    refine PE.sm (pe_bm (T := "list") (id := "list.index") PySem.F.plainAttrs_list PySem.F.slot_list_index rfl mt_index hx (pa_sm (es := [b'])) rfl (by rw [st1]; rfl) c6 st1 rfl) ⟨.ref a, ev, .inl ⟨rfl, vs, .inl (.inl ha)⟩, ?_⟩
    refine sa_cons nt (hb.ee C b' c5 σ ρ H fa O F _ hl S (p.seq S fun z F1 w H1 S1 g1 r1 p1 => sa_nil ?_))
    obtain ⟨d, e, j⟩ := p1.val S1
    obtain ⟨v2, ew, r2⟩ := S1.sl i _ hi
    rw [ev] at ew
    cases ew
    obtain ⟨a2, vs2, e2, ha2, rv2, _⟩ := r2.lstI
    cases e2
    exact cr_index e ha2 rv2 r1 j
  · exact p.elim) rfl rfl rfl
theorem noPar_eq {p : Arguments} (h : noPar p = true) : p = { posonlyargs := [], args := [], vararg := none, kwonlyargs := [], kw_defaults := [], kwarg := none, defaults := [] } := by
  obtain ⟨a, b, c, d, e, f, g⟩ := p
  unfold noPar at h
  simp only [Bool.and_eq_true, List.isEmpty_iff, Option.isNone_iff_eq_none] at h
  obtain ⟨⟨⟨⟨⟨⟨rfl, rfl⟩, rfl⟩, rfl⟩, rfl⟩, rfl⟩, rfl⟩ := h
  rfl
theorem heardB_ex {nm : Str → Option (List Str × List Nat)} {y : Str} (h : heardB nm y = true) : ∃ a, nm y = some ([a], []) := by
  unfold heardB at h
  split at h
  · rename_i a e; exact ⟨a, e⟩
  · cases h
theorem lookup_mem {α β : Type} [BEq α] [LawfulBEq α] {a : α} {b : β} : ∀ {l : List (α × β)}, l.lookup a = some b → (a, b) ∈ l
  | [], h => by cases h
  | (c, d) :: l, h => by
    rw [List.lookup_cons] at h
    split at h
    · rename_i e
      cases h
      rw [eq_of_beq e]
      exact List.mem_cons_self
    · exact List.mem_cons_of_mem _ (lookup_mem h)
/-- a lambda handed to a def that tells what came -/
theorem sd_heard (y : Str) {b : IE} (hb : ∀ j, SdAll N nm cf kd j b) : SdAll N nm cf kd k (.heard y b) := .plain (fun {X sc} C x hc σ ρ H fa O F Q hl S p => by
  obtain ⟨p0, params, body, scope, lp, q, rfl, c1, c2, c3, c4, c5, c6, c7⟩ := ch_heard hc
  obtain ⟨a, ea⟩ := heardB_ex c3
  have hh : hasH nm sc = true := by
    unfold glB at c1
    split at c1
    · rename_i e
      exact List.any_eq_true.mpr ⟨_, lookup_mem e, c3⟩
    · cases c1
  obtain ⟨tb, j, le, nmj⟩ := C.lam hh
  obtain rfl := noPar_eq c4
  refine sm_lam (k := j) (C.nms.hrd y a ea) tb (C.gl c1) c2 (C.room.mono le) C.gd (by rw [C.scp]; exact LamX.lamS_by c5) rfl (fun _ _ _ _ _ => rfl) S.toHd (fun A outer s H1 E f c' Q' r1 g2 ge f1 z => ?_) p
  have C' : Ct (LamX.lamCx X A outer s H1 E scope f c') N scope nm cf kd j := { calm := rfl, nn := C.nn, nd := C.nd, scp := rfl, gd := by first | exact g2 | (show (A.deeper _).guards = _; simpa [Around.deeper] using g2), room := r1, blt := C.blt, nms := nmj, lam := fun h => by rw [c6] at h; cases h }
  exact (hb j).ee C' body c7 σ ρ H1 fa O F Q' hl (S.ge ge f1) (po_lam z)) rfl rfl rfl
/-- ALL expressions -/
theorem sound' : ∀ (e : IE) (k : Nat), SdAll N nm cf kd k e
  | .v i, k => sd_v i
  | .c d, k => sd_c d
  | .fget b i n, k => sd_fget b i n
  | .bin op a b, k => sd_bin op (sound' a k) (sound' b k)
  | .neg a, k => sd_neg (sound' a k)
  | .not a, k => sd_not (sound' a k)
  | .band a b, k => sd_band (sound' a k) (sound' b k)
  | .bor a b, k => sd_bor (sound' a k) (sound' b k)
  | .cmp op a b, k => sd_cmp op (sound' a k) (sound' b k)
  | .chn op op' a b c, k => sd_chn op op' (sound' a k) (sound' b k) (sound' c k)
  | .ife t a b, k => sd_ife (sound' t k) (sound' a k) (sound' b k)
  | .tup es, k => sd_tup (sound' es k)
  | .lst es, k => sd_lst (sound' es k)
  | .nil, k => sd_nil
  | .cons a es, k => sd_cons (sound' a k) (sound' es k)
  | .absent, k => sd_none (fun _ _ => rfl) rfl rfl rfl
  | .ix a i, k => sd_ix (sound' a k) (sound' i k)
  | .sl a lo hi, k => sd_sl (sound' a k) (sound' lo k) (sound' hi k)
  | .call x es ks, k => sd_call x (sound' es k) (sound' ks k)
  | .bi f es, k => sd_bi f (sound' es k)
  | .isi T a, k => sd_isi T (sound' a k)
  | .rng es, k => sd_rng (sound' es k)
  | .lstrng lo hi, k => sd_lstrng (sound' lo k) (sound' hi k)
  | .enum a, k => sd_enum (sound' a k)
  | .zip a b, k => sd_zip (sound' a k) (sound' b k)
  | .lenset a, k => sd_lenset (sound' a k)
  | .lc elt tg it ifs own, k => sd_lc own (sound' elt k) (sound' it k) (sound' ifs k)
  | .lc2 elt tg it ifs tg1 it1 ifs1 own own1, k => sd_lc2 own own1 (sound' elt k) (sound' it k) (sound' ifs k) (sound' it1 k) (sound' ifs1 k)
  | .bad, k => sd_none (fun _ _ => rfl) rfl rfl rfl
  | .callp x es ks ord, k => sd_callp x ord (sound' es k) (sound' ks k)
  | .inG neg a x ns, k => sd_inG neg x ns (sound' a k)
  | .mix i b, k => sd_mix i (sound' b k)
  | .heard x b, k => sd_heard x (sound' b)
theorem sound (e : IE) : SdAll N nm cf kd k e := sound' e k
end
end TH
/-! Lists that are new: what may be changed later. -/
namespace TH
open PySem PySem.Spec PyProof.Rows L2
/-- the forms that make a new list, if they make a list -/
def frE : IE → Bool
  | .lst _ => true
  | .lstrng _ _ => true
  | .lc _ _ _ _ _ => true
  | .lc2 _ _ _ _ _ _ _ _ _ => true
  | .bin _ _ _ => true
  | .bi .list _ => true
  | _ => false
def asL (d : D) (F : Fd) : Ou (List D) := match d with
  | .lst ds => .ok ds F
  | _ => .no
section
variable {X : Cx} {N : List Str} {sc : Scope} {nm : Str → Option (List Str × List Nat)} {cf : Str → List D → Fd → Ou D} {kd : FK} {k : Nat} {fa : Addr} {O : Os} {H H1 : Hp} {σ : L2.St} {ρ : Env'} {F : Fd} {Q : VK} {pos p p2 q : Pos} {a : Expr}
/-- a list that is new since H, its items -/
def FrL (K : PySem.W.Frag) (fa : Addr) (O : Os) (H : Hp) : Hp → V → List D → Prop := fun H2 v ds => FrR K fa O H H2 v (.lst ds)
/-- what follows a list that is new since H -/
abbrev NxF (K : PySem.W.Frag) (fa : Addr) (O : Os) (kd : FK) (H0 H : Hp) (F : Fd) (ds : List D) (Q : VK) : Prop := ∀ v H2, Ge fa H H2 → FeedAt K fa O kd H2 F → FrL K fa O H0 H2 v ds → Q v H2
theorem Hd.newF {ds : List D} {vs : List V} (S : Hd X.K fa O kd H1 F) (g : Ge fa H H1) (k : NxF X.K fa O kd H H1 F ds Q) (r : Rps X.K fa O H1 vs ds) : ∀ p, H1 p = none → Q (.ref p) (upd H1 p (.lst vs)) := fun p hp =>
  k (.ref p) _ (Ge.new hp) (S.laid hp) ⟨p, vs, ds, rfl, rfl, ge_none g S.fd hp, upd_same, r.mv fun a o _ e n => ⟨by rw [upd_ne (ne_of_none e hp)]; exact e, fun z => by
    rcases z with z | z
    · exact n z
    · rw [z, hp] at e; cases e⟩, fun kd' F' f' => feed_nc ((S.fd.os (od_k hp)).go (Ge.go (Ge.new hp) (.inl S.ofa)) (upd_ne (S.nf hp).symm) fun t => tabs_upd t hp) f'⟩
theorem Ct.nnd (C : Ct X N sc nm cf kd k) : X.N.Nodup := by rw [C.nn]; exact C.nd
/-- a new list, where a list comes -/
abbrev SdF (N : List Str) (nm : Str → Option (List Str × List Nat)) (cf : Str → List D → Fd → Ou D) (kd : FK) (k : Nat) (e : IE) : Prop := ∀ {X : Cx} {sc : Scope}, Ct X N sc nm cf kd k → ∀ (x : Expr), chE N nm e sc x = true →
  ∀ (σ : L2.St) (ρ : Env') (H : Hp) (fa : Addr) (O : Os) (F : Fd) (Q : VK), σ.length = N.length → SR X.K fa O kd H σ ρ F → Po X σ H fa O kd (FrL X.K fa O H) ((evE cf e ρ F).bind asL) Q → SmE X x σ H Q
theorem op_binF {op : Operator} {dx dy : D} {ds : List D} {x y : V} (S : Hd X.K fa O kd H1 F) (g : Ge fa H H1) (e : binD op dx dy = some (.lst ds)) (rx : Pk X.K fa O H1 x dx) (ry : Pk X.K fa O H1 y dy) (k : NxF X.K fa O kd H H1 F ds Q) : SmOp X (binaryOp op) x y H1 Q := by
  unfold binD at e
  split at e
  · cases e
  · split at e <;> cases e
  · rename_i xs ys
    cases e2 : catD xs ys with
    | none => rw [e2] at e; cases e
    | some zs => rw [e2] at e; cases e
  · rename_i xs ys
    unfold catD at e
    split at e
    · rename_i h
      cases e
      obtain ⟨p, vs, rfl, hp, rp⟩ := rx.lstI
      obtain ⟨q, ws, rfl, hq, rq⟩ := ry.lstI
      exact OpR.sm op_cat ⟨p, q, vs, ws, rfl, rfl, hp, hq, by rw [rp.length, rq.length]; exact h, S.newF g k (rp.append rq)⟩
    · cases e
  · cases e
  · split at e <;> cases e
  · rename_i xs j
    unfold repD at e
    split at e
    · rename_i h
      cases e
      obtain ⟨p, vs, rfl, hp, rp⟩ := rx.lstI
      obtain rfl := ry.intI
      exact OpR.sm op_rep ⟨p, _, vs, rfl, rfl, hp, h.1, h.2.1, by rw [rp.length]; exact h.2.2, S.newF g k (rps_flat _ rp)⟩
    · cases e
  · rename_i xs j
    cases e2 : repT xs j with
    | none => rw [e2] at e; cases e
    | some zs => rw [e2] at e; cases e
  · split at e <;> cases e
  · split at e <;> cases e
  · split at e <;> cases e
  · cases e
theorem bi_list {xs : List D} {ds : List D} (e : biD .list xs = some (.lst ds)) : xs = [.tup ds] ∨ xs = [.lst ds] := by
  match xs, e with
  | [.tup ys], e => cases e; exact .inl rfl
  | [.lst ys], e => cases e; exact .inr rfl
/-- through a bind that ends in a list -/
theorem po_assoc {α β γ : Type} {R : Hp → V → γ → Prop} {m : Ou α} {f : α → Fd → Ou β} {g : β → Fd → Ou γ} : Po X σ H fa O kd R ((m.bind f).bind g) Q = Po X σ H fa O kd R (m.bind fun a F => (f a F).bind g) Q := by
  cases m <;> rfl
theorem asL_of {x : Option D} {F : Fd} (S : SR X.K fa O kd H1 σ ρ F) (p : Po X σ H1 fa O kd (FrL X.K fa O H) ((Ou.of x F).bind asL) Q) : ∃ ds, x = some (.lst ds) ∧ NxF X.K fa O kd H H1 F ds Q := by
  cases x with
  | none => exact p.elim
  | some d =>
    cases d with
    | lst ds => exact ⟨ds, rfl, p⟩
    | _ => exact p.elim
theorem sdF : ∀ {e : IE}, frE e = true → SdF N nm cf kd k e
  | .lst es, _ => fun C x hc σ ρ H fa O F Q hl S p => by
    obtain ⟨es', pos, rfl, c1⟩ := ch_lst hc
    have p : Po _ σ H fa O kd (FrL _ fa O H) (((evL cf false es ρ F).bind fun xs F => (shortD xs F).bind fun xs F => .ok (.lst xs) F).bind asL) Q := p
    rw [po_assoc] at p
    refine sm_lst ((sound es).l C es' c1 σ ρ H fa O F _ hl S (Po.seq p S fun xs F1 vs H1 S1 g1 r1 p1 => ?_))
    unfold shortD at p1
    split at p1
    · rename_i hs
      exact ⟨by rw [r1.1.length]; exact hs, S1.toHd.newF g1 p1 r1.1⟩
    · exact p1.elim
  | .bin op a b, _ => fun C x hc σ ρ H fa O F Q hl S p => by
    obtain ⟨a', b', pos, rfl, c1, c2⟩ := ch_bin hc
    have p : Po _ σ H fa O kd (FrL _ fa O H) (((pkV ρ a (evE cf a ρ F) F).bind fun x F => (pkV ρ b (evE cf b ρ F) F).bind fun y F => Ou.of (binD op x y) F).bind asL) Q := p
    rw [po_assoc] at p
    refine sm_bin ((sound a).pk C c1 hl S (p.seq S fun x F1 v H1 S1 g1 r1 p1 => ?_))
    rw [po_assoc] at p1
    refine (sound b).pk C c2 hl S1 (p1.seq S1 fun y F2 w H2 S2 g2 r2 p2 => ?_)
    obtain ⟨ds, e, j⟩ := asL_of S2 p2
    exact op_binF S2.toHd (g1.trans g2) e (r1.ge S1.ofa g2) r2 j
  | .bi .list es, _ => fun C x hc σ ρ H fa O F Q hl S p => by
    obtain ⟨p1, e0, r, q, rfl, c1, c2⟩ := ch_bi hc
    have p : Po _ σ H fa O kd (FrL _ fa O H) (((evL cf true es ρ F).bind fun xs F => Ou.of (biD .list xs) F).bind asL) Q := p
    rw [po_assoc] at p
    refine sm_bi (C.gl c1) (C.blt _ (bi_mem .list)) (chL_star c2) ((sound es).p C (e0 :: r) c2 σ ρ H fa O F _ hl S (Po.seq p S fun xs F1 vs H1 S1 g1 r1 p1 => ?_))
    obtain ⟨ds, e, j⟩ := asL_of S1 p1
    rcases bi_list e with rfl | rfl
    · cases r1 with
      | cons h t =>
        cases t
        obtain ⟨p, ws, rfl, hp, rp⟩ := h.tupI
        exact CallR.sm call_list_of ⟨p, ws, rfl, .inr hp, S1.toHd.newF g1 j rp⟩
    · cases r1 with
      | cons h t =>
        cases t
        obtain ⟨p, ws, rfl, hp, rp⟩ := h.lstI
        exact CallR.sm call_list_of ⟨p, ws, rfl, .inl (.inl (.inl hp)), S1.toHd.newF g1 j rp⟩
  | .lstrng lo hi, _ => fun C x hc σ ρ H fa O F Q hl S p => by
    obtain ⟨p1, p2, q, q2, c1, c2, c⟩ := ch_lstrng hc
    rcases c with ⟨e0, rfl, c3, c4⟩ | ⟨e0, e1, rfl, c3, c4, c5⟩
    · have z : lo = .absent := by cases lo <;> first | rfl | cases c3
      subst z
      have p : Po _ σ H fa O kd (FrL _ fa O H) (((evE cf hi ρ F).bind fun y F => Ou.of ((intP y).bind fun b => (rngD 0 b).map D.lst) F).bind asL) Q := p
      rw [po_assoc] at p
      refine PE.sm (pe_listRg C.calm (C.gl c1) (C.blt _ (by decide +kernel)) (prg_1 (C.gl c2) (C.blt _ (by decide +kernel)) pe_sm (star_of (nostar_ch c4)))) ?_
      show SmE _ e0 σ H _
      refine (sound hi).ee C e0 c4 σ ρ H fa O F _ hl S (p.seq S fun x F1 v H1 S1 g1 r1 p1 => ?_)
      obtain ⟨ds, e, j⟩ := asL_of S1 p1
      cases x with
      | int b =>
        cases r1
        have e9 : (rngD 0 b).map D.lst = some (.lst ds) := e
        rw [Option.map_eq_some_iff] at e9
        obtain ⟨ds', e8, e7⟩ := e9
        cases e7
        obtain ⟨ok, rfl⟩ := rngD_ok e8
        exact ⟨b, rfl, ok, S1.toHd.newF g1 j (rps_rg 0 b)⟩
      | _ => cases e
    · have ee : evE cf (.lstrng lo hi) ρ F = (evE cf lo ρ F).bind fun x F => (evE cf hi ρ F).bind fun y F => Ou.of ((intP x).bind fun a => (intP y).bind fun b => (rngD a b).map D.lst) F := by cases lo <;> first | rfl | cases c3
      rw [ee, po_assoc] at p
      refine PE.sm (pe_listRg C.calm (C.gl c1) (C.blt _ (by decide +kernel)) (prg_2 (C.gl c2) (C.blt _ (by decide +kernel)) pe_sm pe_sm (star_of (nostar_ch c4)) (star_of (nostar_ch c5)) (star_any (es := [e1]) (by rw [List.all_cons, nostar_ch c5]; rfl)))) ?_
      show SmE _ e0 σ H _
      refine (sound lo).ee C e0 c4 σ ρ H fa O F _ hl S (p.seq S fun x F1 v H1 S1 g1 r1 p1 => ?_)
      rw [po_assoc] at p1
      show SmE _ e1 σ H1 _
      refine (sound hi).ee C e1 c5 σ ρ H1 fa O F1 _ hl S1 (p1.seq S1 fun y F2 w H2 S2 g2 r2 p2 => ?_)
      obtain ⟨ds, e, j⟩ := asL_of S2 p2
      cases x with
      | int a =>
        cases r1
        cases y with
        | int b =>
          cases r2
          have e9 : (rngD a b).map D.lst = some (.lst ds) := e
          rw [Option.map_eq_some_iff] at e9
          obtain ⟨ds', e8, e7⟩ := e9
          cases e7
          obtain ⟨ok, rfl⟩ := rngD_ok e8
          exact ⟨a, b, rfl, rfl, ok, S2.toHd.newF (g1.trans g2) j (rps_rg a b)⟩
        | _ => cases e
      | _ => cases e
  | .lc elt tg it ifs own, _ => fun C x hc σ ρ H fa O F Q hl S p => by
    obtain ⟨elt', tg', it', ifs', scope, pos, rfl, c1, c2, c3, h⟩ := lc_pre (sound elt) (sound it) (sound ifs) C hc hl S
    have hN := C.nnd
    refine PE.sm (pe_lc (wi := SmI _ tg' it') C.calm hN pi_sm c2 (blk_g C c3) pts_blk pe_blk (no_fold c1)) (h Q ?_)
    cases e : evE cf (.lc elt tg it ifs own) ρ F with
    | no => rw [e] at p; exact p.elim
    | ex c fs F1 => rw [e] at p; exact p
    | ok d F1 =>
      rw [e] at p
      cases d with
      | lst ds => exact p
      | _ => exact p.elim
  | .lc2 elt tg it ifs tg1 it1 ifs1 own own1, _ => fun C x hc σ ρ H fa O F Q hl S p => by
    obtain ⟨elt', tg', it', ifs', tg1', it1', ifs1', scope, pos, rfl, c1, b1, c2, c4, c3, b2, h⟩ := lc2_pre (sound elt) (sound it) (sound ifs) (sound it1) (sound ifs1) C hc hl S
    have hN := C.nnd
    refine PE.sm (pe_lc2 (wi := SmI _ tg' it') C.calm hN pi_sm c2 c4 (blk_g C c3) pts_blk pi_blk (blk_g C b2) pts_blk pe_blk (no_fold c1) (fun env => no_fold b1)) (h Q ?_)
    cases e : evE cf (.lc2 elt tg it ifs tg1 it1 ifs1 own own1) ρ F with
    | no => rw [e] at p; exact p.elim
    | ex c fs F1 => rw [e] at p; exact p
    | ok d F1 =>
      rw [e] at p
      cases d with
      | lst ds => exact p
      | _ => exact p.elim
end
end TH
/-! Statements. -/
namespace TH
open PySem PySem.Spec PyProof.Rows L2
/-- statements; nil and seq make a block -/
inductive IS where
  | par (is : List Nat) (bs : List Bool) (es : IE)
  | nil
  | seq (s r : IS)
  | asg (i : Nat) (e : IE)
  | own (i : Nat) (e : IE)
  | unp (tg e : IE)
  | app (i : Nat) (e : IE)
  | seti (i : Nat) (j e : IE)
  | fset (dic : FK0) (i n : Nat) (e : IE)
  | ife (t : IE) (a b : IS)
  | loop (tg it : IE) (b : IS)
  | whl (n : Nat) (t : IE) (b : IS)
  | ret (e : IE)
  | retO (i : Nat)
  | retN
  | exp (e : IE)
  | pass
  | brk
  | cnt
  | raise (c : Str) (fs : List Str) (es : IE)
  | paru (is : List Nat) (bs : List Bool) (es : IE)
  | frz (i : Nat)
  | bad
/-- where a block ends -/
inductive Rs where
  | nx (ρ : Env') (F : Fd)
  | br (ρ : Env') (F : Fd)
  | ct (ρ : Env') (F : Fd)
  | rt (d : D) (F : Fd)
  | ex (c : Str) (fs : List (Str × D)) (F : Fd)
  | no
def Ou.toS {α : Type} (m : Ou α) (f : α → Fd → Rs) : Rs :=
  match m with
  | .ok a F => f a F
  | .ex c fs F => .ex c fs F
  | .no => .no
def loopS (g : Env' → Fd → Rs) (b : D → Env' → Option Env') (ρ : Env') : List D → Fd → Rs
  | [], F => .nx ρ F
  | x :: xs, F => match b x ρ with
    | none => .no
    | some ρ' => match g ρ' F with
      | .nx ρ'' F' => loopS g b ρ'' xs F'
      | .ct ρ'' F' => loopS g b ρ'' xs F'
      | .br ρ'' F' => .nx ρ'' F'
      | o => o
def whlS (t : Env' → Fd → Ou Bool) (g : Env' → Fd → Rs) : Nat → Env' → Fd → Rs
  | 0, _, _ => .no
  | n + 1, ρ, F => (t ρ F).toS fun c F => if c = true then (match g ρ F with
    | .nx ρ' F' => whlS t g n ρ' F'
    | .ct ρ' F' => whlS t g n ρ' F'
    | .br ρ' F' => .nx ρ' F'
    | o => o) else .nx ρ F
def sqS (o : Rs) (f : Env' → Fd → Rs) : Rs :=
  match o with
  | .nx ρ F => f ρ F
  | o => o
def setS (ρ : Env') (i : Nat) (ds : List D) (j d : D) (F : Fd) : Rs := match j with
  | .int z => match ixN ds.length z with
    | some n => .nx (ρ.set i (.ow (ds.set n d))) F
    | none => .no
  | _ => .no
def fputS (ρ : Env') (b : FK0) (i n : Nat) (d : D) (F : Fd) : Rs := match ρ[i]?, d with
  | some (.im .fd), .int z => if b = F.dic then (match F.put n z with
    | some F' => .nx ρ F'
    | none => .no) else .no
  | _, _ => .no
def setAll (ρ : Env') : List Nat → List Sl → Env'
  | i :: is, s :: ss => setAll (ρ.set i s) is ss
  | _, _ => ρ
section
variable (cf : Str → List D → Fd → Ou D)
/-- a value to be stored -/
def evV (b : Bool) (a : IE) (ρ : Env') (F : Fd) : Ou Sl :=
  if b = true then ((evE cf a ρ F).bind asL).bind fun ds F => .ok (.ow ds) F else (evE cf a ρ F).bind fun d F => .ok (.im d) F
/-- values side by side -/
def evP : List Bool → IE → Env' → Fd → Ou (List Sl)
  | [], .nil, _, F => .ok [] F
  | b :: bs, .cons a es, ρ, F => (evV cf b a ρ F).bind fun s F => (evP bs es ρ F).bind fun ss F => .ok (s :: ss) F
  | _, _, _, _ => .no
def evS : IS → Env' → Fd → Rs
  | .nil, ρ, F => .nx ρ F
  | .seq s r, ρ, F => sqS (evS s ρ F) fun ρ F => evS r ρ F
  | .asg i e, ρ, F => (evE cf e ρ F).toS fun d F => .nx (ρ.set i (.im d)) F
  | .own i e, ρ, F => ((evE cf e ρ F).bind asL).toS fun ds F => .nx (ρ.set i (.ow ds)) F
  | .par is bs es, ρ, F => (evP cf bs es ρ F).toS fun ss F => .nx (setAll ρ is ss) F
  | .unp tg e, ρ, F => (evE cf e ρ F).toS fun d F => match bindT tg d ρ with
    | some ρ' => .nx ρ' F
    | none => .no
  | .app i e, ρ, F => match ρ[i]? with
    | some (.ow ds) => (evE cf e ρ F).toS fun d F => if ds.length < sizeLine then .nx (ρ.set i (.ow (ds ++ [d]))) F else .no
    | _ => .no
  | .seti i j e, ρ, F => (evE cf e ρ F).toS fun d F => match ρ[i]? with
    | some (.ow ds) => (evE cf j ρ F).toS fun y F => setS ρ i ds y d F
    | _ => .no
  | .fset b i n e, ρ, F => (evE cf e ρ F).toS fun d F => fputS ρ b i n d F
  | .ife t a b, ρ, F => (tsE cf t ρ F).toS fun c F => if c = true then evS a ρ F else evS b ρ F
  | .loop tg it b, ρ, F => (itE cf it ρ F).toS fun xs F => loopS (fun ρ F => evS b ρ F) (bindT tg) ρ xs F
  | .whl n t b, ρ, F => whlS (tsE cf t) (fun ρ F => evS b ρ F) n ρ F
  | .ret e, ρ, F => (evE cf e ρ F).toS fun d F => .rt d F
  | .retO i, ρ, F => match ρ[i]? with
    | some (.ow ds) => .rt (.lst ds) F
    | _ => .no
  | .retN, _, F => .rt .non F
  | .exp e, ρ, F => (evE cf e ρ F).toS fun _ F => .nx ρ F
  | .pass, ρ, F => .nx ρ F
  | .frz i, ρ, F => match ρ[i]? with
    | some (.ow ds) => .nx (ρ.set i (.im (.lst ds))) F
    | _ => .nx ρ F
  | .paru is bs es, ρ, F => (evP cf bs es ρ F).toS fun ss F => .nx (setAll ρ is ss) F
  | .raise c fs es, ρ, F => (evL cf false es ρ F).toS fun ds F => if ds.length = fs.length then .ex c (fs.zip ds).reverse F else .no
  | .brk, ρ, F => .br ρ F
  | .cnt, ρ, F => .ct ρ F
  | .bad, _, _ => .no
end
/-! ### the check -/
def compC (sc : Scope) (x : Str) (p : Pos) (e : Expr) : Bool :=
  match e with
  | .ListComp _ _ scope p' => (decide (sc.names.lookup x = some .local) && (p.line == p'.line) && !(scope.names.any fun (n, k) => n == x && (k == .local || k == .cell))) || decide (sc.names.lookup x = some .cell)
  | .SetComp _ _ _ _ => false
  | .DictComp _ _ _ _ _ => false
  | _ => true
/-- a tuple is made and taken apart -/
def cellT (sc : Scope) : Expr → Bool
  | .Name x _ => decide (sc.names.lookup x = some .cell)
  | _ => false
def unpT (sc : Scope) (ts : List Expr) (e : Expr) : Bool := match e with
  | .Tuple _ _ _ => ts.any (cellT sc)
  | _ => false
def isLC : IE → Bool
  | .lc _ _ _ _ _ => true
  | .lc2 _ _ _ _ _ _ _ _ _ => true
  | _ => false
def noUnp (e : Expr) : Bool :=
  match e with
  | .ListComp _ _ _ _ => false
  | .SetComp _ _ _ _ => false
  | .DictComp _ _ _ _ _ => false
  | .Tuple _ _ _ => false
  | _ => true
def noComp (e : Expr) : Bool :=
  match e with
  | .ListComp _ _ _ _ => false
  | .SetComp _ _ _ _ => false
  | .DictComp _ _ _ _ _ => false
  | _ => true
def varC (N : List Str) (sc : Scope) (i : Nat) (x : Str) : Bool := decide (N[i]? = some x) && visB sc x && dbB x && !(x == ("__classdict__" : Str))
def isFrz : IS → Bool
  | .frz _ => true
  | _ => false
section
variable (N : List Str) (nm : Str → Option (List Str × List Nat))
/-- values side by side -/
def chP : List Bool → IE → Scope → List Expr → Bool
  | [], .nil, _, xs => xs.isEmpty
  | b :: bs, .cons a es, sc, xs => match xs with
    | x :: xs => chE N nm a sc x && (!b || frE a) && chP bs es sc xs
    | [] => false
  | _, _, _, _ => false
/-- the tuple is not made -/
def chNm (N : List Str) (sc : Scope) : List Nat → List Expr → Bool
  | [], ts => ts.isEmpty
  | i :: is, ts => match ts with
    | .Name x _ :: ts => nameT N sc sc i x && chNm N sc is ts
    | _ => false
def longT (ts vs : List Expr) : Bool := !(ts.length == 2 || ts.length == 3) || vs.all (foldedForSure 8)
def swpB (sc : Scope) (ps : List (Str × Pos)) (vs : List Expr) : Bool :=
  ps.all (fun p => decide (sc.names.lookup p.1 = some .local)) && ps.all (fun p => decide (p.2.line = ((ps.head?.map fun p => p.2.line).getD 0))) && !(vs.all (foldedForSure 8)) && !(vs.all (constantsAlone 8)) && vs.all nostar && decide (ps.map (·.1)).Nodup
mutual
def chS : IS → Scope → Stmt → Bool
  | .asg i e, sc, st => match st with
    | .Assign [.Name x p] e' _ => nameT N sc sc i x && chE N nm e sc e' && compC sc x p e'
    | _ => false
  | .own i e, sc, st => match st with
    | .Assign [.Name x p] e' _ => nameT N sc sc i x && chE N nm e sc e' && compC sc x p e' && frE e
    | _ => false
  | .par is bs es, sc, st => match st with
    | .Assign [.Tuple [.Name x px, .Name y py] _ _] (.Tuple [a, b] _ _) _ => (match is with
      | [i, j] => decide (N[i]? = some x) && decide (N[j]? = some y) && decide (i ≠ j)
      | _ => false) && chP N nm bs es sc [a, b] && swpB sc [(x, px), (y, py)] [a, b]
    | .Assign [.Tuple [.Name x px, .Name y py, .Name z pz] _ _] (.Tuple [a, b, c] _ _) _ => (match is with
      | [i, j, l] => decide (N[i]? = some x) && decide (N[j]? = some y) && decide (N[l]? = some z) && decide (i ≠ j) && decide (i ≠ l) && decide (j ≠ l)
      | _ => false) && chP N nm bs es sc [a, b, c] && swpB sc [(x, px), (y, py), (z, pz)] [a, b, c]
    | _ => false
  | .unp tg e, sc, st => match st with
    | .Assign [.Tuple ts k p] e' _ => chTg N sc sc tg (.Tuple ts k p) && chE N nm e sc e' && (noUnp e' || unpT sc ts e')
    | _ => false
  | .app i e, sc, st => match st with
    | .Expr (.Call (.Attribute (.Name x _) m q) [e'] [] q2) _ => decide (m = "append") && varC N sc i x && chE N nm e sc e' && (q.endLine == q2.line)
    | _ => false
  | .seti i j e, sc, st => match st with
    | .Assign [.Subscript (.Name x _) j' _] e' _ => varC N sc i x && chE N nm j sc j' && noSl j' && chE N nm e sc e' && noComp e'
    | _ => false
  | .fset b i n e, sc, st => match st with
    | .Assign [.Subscript (.Name x _) (.Constant c _ _) _] e' _ => varC N sc i x && fldB b n c && chE N nm e sc e' && noComp e'
    | _ => false
  | .ife t a b, sc, st => match st with
    | .If t' a' b' _ => tOk t t' && chE N nm t sc t' && chSs a sc a' && chSs b sc b'
    | _ => false
  | .loop tg it b, sc, st => match st with
    | .For tg' it' b' [] _ => chTg N sc sc tg tg' && tOkI it tg' && noSet it' && chE N nm it sc it' && chSs b sc b' && (tgS tg).all (fun i => decide (i < N.length))
    | _ => false
  | .whl _ t b, sc, st => match st with
    | .While t' b' [] _ => tOk t t' && chE N nm t sc t' && chSs b sc b'
    | _ => false
  | .ret e, sc, st => match st with
    | .Return (some e') _ => chE N nm e sc e'
    | _ => false
  | .retO i, sc, st => match st with
    | .Return (some (.Name x _)) _ => varC N sc i x
    | _ => false
  | .retN, _, st => match st with
    | .Return none _ => true
    | _ => false
  | .exp e, sc, st => match st with
    | .Expr e' _ => chE N nm e sc e' && noComp e'
    | _ => false
  | .pass, _, st => match st with
    | .Pass _ => true
    | _ => false
  | .brk, _, st => match st with
    | .Break _ => true
    | _ => false
  | .cnt, _, st => match st with
    | .Continue _ => true
    | _ => false
  | .paru is bs es, sc, st => match st with
    | .Assign [.Tuple ts k p] (.Tuple vs k2 p2) _ => chNm N sc is ts && decide is.Nodup && decide (is.length = bs.length) && decide (bs.length ≤ 1000) && chP N nm bs es sc vs && (unpT sc ts (.Tuple vs k2 p2) || longT ts vs)
    | _ => false
  | .raise c fs es, sc, st => match st with
    | .Raise (some (.Call (.Name y _) (e0 :: r) [] _)) none _ => decide (y = c) && glB sc y && dbB y && decide (nm y = some (fs, [1000])) && chL N nm es sc (e0 :: r) && decide ((e0 :: r).length ≤ 1000)
    | _ => false
  | .bad, _, _ => true
  | _, _, _ => false
def chSs : IS → Scope → List Stmt → Bool
  | .nil, _, sts => sts.isEmpty
  | .seq s r, sc, sts => if isFrz s then chSs r sc sts else match sts with
    | st :: rest => chS s sc st && chSs r sc rest
    | [] => false
  | _, _, _ => false
end
end
/-! ### the state between statements -/
/-- an own list's slot -/
def OwnAt (ρ : Env') (σ : L2.St) (i : Nat) (a : Addr) : Prop := (∃ ds, ρ[i]? = some (.ow ds)) ∧ σ[i]? = some (some (.ref a))
/-- from the entry at H0, O0 -/
structure SW (K : PySem.W.Frag) (H0 : Hp) (fa : Addr) (O0 O : Os) (kd : FK) (n : Nat) (H : Hp) (σ : L2.St) (ρ : Env') (F : Fd) : Prop extends SR K fa O kd H σ ρ F where
  up : ∀ a, O0 a → O a
  dn : ∀ a o [NT o], H0 a = some o → O a → O0 a
  ge : Ge fa H0 H
  nw : ∀ i a, OwnAt ρ σ i a → ¬ O0 a
  dj : ∀ i j a, OwnAt ρ σ i a → OwnAt ρ σ j a → i = j
  len : σ.length = n
  lr : ρ.length = n
  nod : ∀ (i : Nat) (kvs : List (Key × D)), ρ[i]? ≠ some (.od kvs)
/-- what may change from one statement to the next -/
structure Stp (O : Os) (H : Hp) (O' : Os) (H' : Hp) : Prop where
  dn : ∀ a o [NT o], H a = some o → O' a → O a
  go : Go O H H'
theorem Stp.refl (O : Os) (H : Hp) : Stp O H O H := ⟨fun _ _ _ _ o => o, Go.refl _ _⟩
theorem Stp.trans {O O1 O2 : Os} {H H1 H2 : Hp} (a : Stp O H O1 H1) (b : Stp O1 H1 O2 H2) : Stp O H O2 H2 where
  dn := fun x u _ hx o => by
    by_cases h : O x
    · exact h
    · exact a.dn x u hx (b.dn x u (a.go x u hx h) o)
  go := fun x u _ e n => b.go x u (a.go x u e n) fun z => n (a.dn x u e z)
section
variable {K : PySem.W.Frag} {H0 : Hp} {fa : Addr} {O0 O : Os} {kd : FK} {n : Nat} {H H1 : Hp} {σ : L2.St} {ρ : Env'} {F F1 : Fd}
theorem SW.step (S : SW K H0 fa O0 O kd n H σ ρ F) (g : Ge fa H H1) (f : FeedAt K fa O kd H1 F1) : SW K H0 fa O0 O kd n H1 σ ρ F1 :=
  { S.toSR.ge g f with up := S.up, dn := S.dn, ge := S.ge.trans g, nw := S.nw, dj := S.dj, len := S.len, lr := S.lr, nod := S.nod }
theorem SW.stp (S : SW K H0 fa O0 O kd n H σ ρ F) (g : Ge fa H H1) : Stp O H O H1 := ⟨fun _ _ _ _ o => o, g.go S.ofa⟩
theorem set_get {α : Type} {l : List α} {i j : Nat} {x y : α} (h : (l.set i x)[j]? = some y) : (i = j ∧ y = x) ∨ (i ≠ j ∧ l[j]? = some y) := by
  by_cases hij : i = j
  · subst hij
    by_cases hl : i < l.length
    · rw [List.getElem?_set_self hl] at h; cases h; exact .inl ⟨rfl, rfl⟩
    · rw [List.getElem?_eq_none (by simpa using hl)] at h; cases h
  · rw [List.getElem?_set_ne hij] at h; exact .inr ⟨hij, h⟩
theorem own_set {i j : Nat} {a : Addr} {x : Option V} {s : Sl} (h : OwnAt (ρ.set i s) (σ.set i x) j a) : (i = j ∧ (∃ ds, s = .ow ds) ∧ x = some (.ref a)) ∨ (i ≠ j ∧ OwnAt ρ σ j a) := by
  obtain ⟨⟨ds, h1⟩, h2⟩ := h
  rcases set_get h1 with ⟨e, e1⟩ | ⟨e, e1⟩
  · rcases set_get h2 with ⟨_, e2⟩ | ⟨e2, _⟩
    · exact .inl ⟨e, ⟨ds, e1.symm⟩, e2.symm⟩
    · exact absurd e e2
  · rcases set_get h2 with ⟨e2, _⟩ | ⟨_, e2⟩
    · exact absurd e2 e
    · exact .inr ⟨e, ⟨ds, e1⟩, e2⟩
theorem SW.im (S : SW K H0 fa O0 O kd n H σ ρ F) {i : Nat} {v : V} {d : D} (r : Rp K fa O H v d) (hi : i < n) : SW K H0 fa O0 O kd n H (σ.set i (some v)) (ρ.set i (.im d)) F :=
  { S.toSR.set r (by rw [S.len]; exact hi) with
    up := S.up
    dn := S.dn
    ge := S.ge
    nw := fun j a o => by
      rcases own_set o with ⟨_, ⟨_, z⟩, _⟩ | ⟨_, z⟩
      · cases z
      · exact S.nw j a z
    dj := fun j l a o1 o2 => by
      rcases own_set o1 with ⟨_, ⟨_, z⟩, _⟩ | ⟨_, z1⟩
      · cases z
      · rcases own_set o2 with ⟨_, ⟨_, z⟩, _⟩ | ⟨_, z2⟩
        · cases z
        · exact S.dj j l a z1 z2
    len := by rw [List.length_set]; exact S.len
    lr := by rw [List.length_set]; exact S.lr
    nod := fun j kvs e => by
      rcases set_get e with ⟨_, z⟩ | ⟨_, z⟩
      · cases z
      · exact S.nod j kvs z }
/-- a new list, to be changed -/
theorem SW.ow (S : SW K H0 fa O0 O kd n H σ ρ F) {i : Nat} {v : V} {ds : List D} (g : Ge fa H H1) (f : FeedAt K fa O kd H1 F1) (r : FrL K fa O H H1 v ds) (hi : i < n) :
    ∃ O', SW K H0 fa O0 O' kd n H1 (σ.set i (some v)) (ρ.set i (.ow ds)) F1 ∧ Stp O H O' H1 := by
  obtain ⟨p, vs, ds', rfl, ed, hn, hp, rr, nc⟩ := r
  cases ed
  have f' := nc kd F1 f
  have nfa : p ≠ fa := S.nfI hn
  have S1 : SR K fa (OD O p) kd H1 σ ρ F1 := S.toSR.under hn g ⟨_, inferInstance, hp⟩ f'
  refine ⟨OD O p, { S1.toHd with sl := fun j s e => ?_, up := fun a o => .inl (S.up a o), dn := fun a u _ ha o => ?_, ge := S.ge.trans g, nw := fun j a o => ?_, dj := fun j l a o1 o2 => ?_, len := by rw [List.length_set]; exact S.len, lr := by rw [List.length_set]; exact S.lr, nod := fun j kvs e => ?_ }, ⟨od_k' hn, g.go S.ofa⟩⟩
  · rcases set_get e with ⟨e1, e2⟩ | ⟨e1, e2⟩
    · subst e1 e2
      rw [List.getElem?_set_self (by rw [S.len]; exact hi)]
      exact ⟨p, vs, rfl, nfa, .inr rfl, hp, rr⟩
    · rw [List.getElem?_set_ne e1]
      exact S1.sl j s e2
  · rcases o with o | o
    · exact S.dn a u ha o
    · rw [o] at ha
      exact absurd ha (ge_newI S.ge S.fd hn u)
  · rcases own_set o with ⟨_, _, z⟩ | ⟨_, z⟩
    · cases z
      intro o0
      exact S.newI hn (S.up p o0)
    · exact S.nw j a z
  · have ne : ∀ l, OwnAt ρ σ l p → False := fun l ⟨⟨es, z1⟩, z2⟩ => by
      obtain ⟨b, us, eb, _, ob, hb, _⟩ := S.sl l _ z1
      rw [z2] at eb
      cases eb
      exact hn _ hb
    rcases own_set o1 with ⟨e1, _, z⟩ | ⟨e1, z1⟩
    · cases z
      rcases own_set o2 with ⟨e2, _, _⟩ | ⟨e2, z2⟩
      · exact e1.symm.trans e2
      · exact (ne l z2).elim
    · rcases own_set o2 with ⟨e2, _, z⟩ | ⟨e2, z2⟩
      · cases z
        exact (ne j z1).elim
      · exact S.dj j l a z1 z2
  · rcases set_get e with ⟨_, z⟩ | ⟨_, z⟩
    · cases z
    · exact S.nod j kvs z
/-- an own list is changed -/
theorem SW.wr (S : SW K H0 fa O0 O kd n H σ ρ F) {i : Nat} {a : Addr} {ds : List D} {vs : List V} (o : OwnAt ρ σ i a) (oa : O a) (nf : a ≠ fa) (r : Rps K fa O H vs ds) :
    SW K H0 fa O0 O kd n (upd H a (.lst vs)) σ (ρ.set i (.ow ds)) F ∧ Stp O H O (upd H a (.lst vs)) := by
  have gw : Go O H (upd H a (.lst vs)) := Go.wr oa
  obtain ⟨xs, hxs⟩ : ∃ xs, H a = some (.lst xs) := by
    obtain ⟨⟨es, e1⟩, e2⟩ := o
    obtain ⟨b, us, eb, _, _, hb, _⟩ := S.sl i _ e1
    rw [e2] at eb
    cases eb
    exact ⟨us, hb⟩
  refine ⟨{ ofa := S.ofa, onn := fun b ob => ?_, fd := S.fd.go gw (upd_ne nf.symm) (fun t => tabs_wr t hxs (lst_nc _)), sl := fun j s e => ?_, up := S.up, dn := S.dn, ge := fun b u _ e nb => ?_, nw := fun j b ob => ?_, dj := fun j l b o1 o2 => ?_, len := S.len, lr := by rw [List.length_set]; exact S.lr, nod := fun j kvs e => ?_ }, ⟨fun _ _ _ _ o => o, gw⟩⟩
  · by_cases h : b = a
    · exact ⟨_, inferInstance, by rw [h, upd_same]⟩
    · rw [upd_ne h]; exact S.onn b ob
  · rcases set_get e with ⟨e1, e2⟩ | ⟨e1, e2⟩
    · subst e1 e2
      exact ⟨a, vs, o.2, nf, oa, upd_same, r.go gw⟩
    · have q := S.sl j s e2
      cases s with
      | no => trivial
      | im d => obtain ⟨v, ev, rr⟩ := q; exact ⟨v, ev, rr.go gw⟩
      | ow es =>
        obtain ⟨b, us, ev, nb, ob, hb, rr⟩ := q
        have hne : b ≠ a := fun z => e1 (S.dj i j a o ⟨⟨es, e2⟩, by rw [ev, z]⟩)
        exact ⟨b, us, ev, nb, ob, by rw [upd_ne hne]; exact hb, rr.go gw⟩
      | od kvs => exact absurd e2 (S.nod j kvs)
  · have hne : b ≠ a := fun z => by
      rw [z] at e
      exact S.nw i a o (S.dn a u e oa)
    rw [upd_ne hne]
    exact S.ge b u e nb
  · obtain ⟨⟨es, h1⟩, h2⟩ := ob
    rcases set_get h1 with ⟨e1, _⟩ | ⟨_, e1⟩
    · subst e1
      have z := o.2
      rw [h2] at z
      cases z
      exact S.nw i a o
    · exact S.nw j b ⟨⟨es, e1⟩, h2⟩
  · have back : ∀ j b, OwnAt (ρ.set i (.ow ds)) σ j b → OwnAt ρ σ j b := fun j b ⟨⟨es, h1⟩, h2⟩ => by
      rcases set_get h1 with ⟨e1, _⟩ | ⟨_, e1⟩
      · subst e1
        exact ⟨o.1, h2⟩
      · exact ⟨⟨es, e1⟩, h2⟩
    exact S.dj j l b (back j b o1) (back l b o2)
  · rcases set_get e with ⟨_, z⟩ | ⟨_, z⟩
    · cases z
    · exact S.nod j kvs z
/-- a value that leaves -/
theorem SW.out (S : SW K H0 fa O0 O kd n H σ ρ F) : ∀ a o [NT o], H a = some o → O0 a → O a := fun a _ _ _ o => S.up a o
end
end TH
/-! What is checked is met: statements. -/
namespace TH
open PySem PySem.Spec PyProof.Rows L2
/-- where a def's body runs -/
structure Cs (X : Cx) (N : List Str) (sc : Scope) (nm : Str → Option (List Str × List Nat)) (cf : Str → List D → Fd → Ou D) (kd : FK) (k : Nat) : Prop extends Ct X N sc nm cf kd k where
  fn : ∀ x, X.fn x = true
  knd : X.env.scope.kind = .function
  own : PassesOwn (model X.prog X.w) X.A X.env X.xe
/-- an error may leave the def -/
def ExS (X : Cx) (H0 : Hp) (fa : Addr) (O0 : Os) (kd : FK) (c : Str) (fs : List (Str × D)) (F' : Fd) : Prop :=
  ∃ E : XK, Takes X (fun cls d _ H => E cls d H) ∧ ∀ cls od H2, Ge fa H0 H2 → FeedAt X.K fa O0 kd H2 F' → ExR X.K X.mg fa O0 H2 cls od c fs → E cls od H2
theorem pass_takes {X : Cx} {E : XK} (t : Takes X (fun cls d _ H => E cls d H)) (σ : L2.St) : PassSt X σ E := fun pins H1 s e s' I z => passes_call t (fun _ _ _ _ q => q) pins σ H1 s e s' I z
/-- what a block is to reach -/
def PoS (X : Cx) (H0 : Hp) (fa : Addr) (O0 O : Os) (kd : FK) (n : Nat) (H : Hp) (r : Rs) (W : Ends) : Prop :=
  match r with
  | .nx ρ F => ∀ O' σ' H', SW X.K H0 fa O0 O' kd n H' σ' ρ F → Stp O H O' H' → W.nx σ' H'
  | .br ρ F => ∀ O' σ' H', SW X.K H0 fa O0 O' kd n H' σ' ρ F → Stp O H O' H' → W.bk σ' H'
  | .ct ρ F => ∀ O' σ' H', SW X.K H0 fa O0 O' kd n H' σ' ρ F → Stp O H O' H' → W.ct σ' H'
  | .rt d F => ∀ v H', Ge fa H0 H' → FeedAt X.K fa O0 kd H' F → Rp X.K fa O0 H' v d → W.rt v H'
  | .ex c fs F => ExS X H0 fa O0 kd c fs F
  | .no => False
section
variable {X : Cx} {H0 : Hp} {fa : Addr} {O0 O O1 : Os} {kd : FK} {n : Nat} {H H1 : Hp} {σ : L2.St} {ρ : Env'} {F : Fd} {W : Ends} {r : Rs}
theorem PoS.from (p : PoS X H0 fa O0 O kd n H r W) (s : Stp O H O1 H1) : PoS X H0 fa O0 O1 kd n H1 r W := by
  cases r with
  | nx ρ F => exact fun O' σ' H' S t => p O' σ' H' S (s.trans t)
  | br ρ F => exact fun O' σ' H' S t => p O' σ' H' S (s.trans t)
  | ct ρ F => exact fun O' σ' H' S t => p O' σ' H' S (s.trans t)
  | rt d F => exact p
  | ex c fs F => exact p
  | no => exact p
theorem ExS.w {c : Str} {fs : List (Str × D)} {F' : Fd} (S : SW X.K H0 fa O0 O kd n H σ ρ F) (h : ExS X H0 fa O0 kd c fs F') : ExW X σ H fa O kd c fs F' := by
  obtain ⟨E, p, q⟩ := h
  refine ⟨E, pass_takes p σ, fun cls od H2 g f r => ?_⟩
  obtain ⟨C, d, ws, e1, e2, e3, e4, e5, e6, r⟩ := r
  exact q cls od H2 (S.ge.trans g) (f.os fun a _ _ _ o => S.up a o) ⟨C, d, ws, e1, e2, e3, e4, fun z => e5 (S.up _ z), e6, r.os fun a _ _ _ o => S.up a o⟩
theorem ExS.w' {τ : L2.St} {c : Str} {fs : List (Str × _root_.TH.D)} {F' : Fd} (S : SW X.K H0 fa O0 O kd n H σ ρ F) (h : ExS X H0 fa O0 kd c fs F') : ExW X τ H fa O kd c fs F' := by
  obtain ⟨E, p, q⟩ := h
  refine ⟨E, pass_takes p τ, fun cls od H2 g f r => ?_⟩
  obtain ⟨C, d, ws, e1, e2, e3, e4, e5, e6, r⟩ := r
  exact q cls od H2 (S.ge.trans g) (f.os fun a _ _ _ o => S.up a o) ⟨C, d, ws, e1, e2, e3, e4, fun z => e5 (S.up _ z), e6, r.os fun a _ _ _ o => S.up a o⟩
theorem SW.po {α β : Type} {R : Hp → β → α → Prop} {m : Ou α} {f : α → Fd → Rs} {Q' : β → Hp → Prop} (S : SW X.K H0 fa O0 O kd n H σ ρ F) (p : PoS X H0 fa O0 O kd n H (m.toS f) W)
    (j : ∀ a F1 v H1, SW X.K H0 fa O0 O kd n H1 σ ρ F1 → Ge fa H H1 → R H1 v a → PoS X H0 fa O0 O kd n H1 (f a F1) W → Q' v H1) : Po X σ H fa O kd R m Q' := by
  cases m with
  | ok a F1 => exact fun v H1 g fd r => j a F1 v H1 (S.step g fd) g r (PoS.from p (S.stp g))
  | ex c fs F1 => exact ExS.w S p
  | no => exact p
theorem SW.kept {σ' : L2.St} {ρ' : Env'} (S : SW X.K H0 fa O0 O kd n H σ ρ F) (s : SR X.K fa O kd H σ' ρ' F) (l : σ'.length = σ.length) (lr : ρ'.length = ρ.length) (h : Kept σ σ' ρ ρ') : SW X.K H0 fa O0 O kd n H σ' ρ' F := by
  have back : ∀ j a, OwnAt ρ' σ' j a → OwnAt ρ σ j a := fun j a ⟨⟨ds, h1⟩, h2⟩ => by
    rcases h j _ h1 with ⟨_, z⟩ | ⟨z1, z2⟩
    · cases z
    · exact ⟨⟨ds, z1⟩, z2.symm.trans h2⟩
  exact { s with up := S.up, dn := S.dn, ge := S.ge, nw := fun j a o => S.nw j a (back j a o), dj := fun i j a o1 o2 => S.dj i j a (back i a o1) (back j a o2), len := l.trans S.len, lr := lr.trans S.lr, nod := fun j kvs e => (h j _ e).elim (fun ⟨_, z⟩ => by cases z) fun z => S.nod j kvs z.1 }
end
section
variable {X : Cx} {N : List Str} {sc : Scope} {nm : Str → Option (List Str × List Nat)} {cf : Str → List D → Fd → Ou D} {kd : FK} {k : Nat} {H0 : Hp} {fa : Addr} {O0 O : Os} {H : Hp} {σ : L2.St} {ρ : Env'} {F : Fd} {W : Ends}
abbrev SdS (N : List Str) (nm : Str → Option (List Str × List Nat)) (cf : Str → List D → Fd → Ou D) (kd : FK) (k : Nat) (s : IS) : Prop := ∀ {X : Cx} {sc : Scope}, Cs X N sc nm cf kd k → ∀ (st : Stmt), chS N nm s sc st = true →
  ∀ (H0 : Hp) (fa : Addr) (O0 O : Os) (H : Hp) (σ : L2.St) (ρ : Env') (F : Fd) (W : Ends), SW X.K H0 fa O0 O kd N.length H σ ρ F → PoS X H0 fa O0 O kd N.length H (evS cf s ρ F) W → SmS X st W σ H
abbrev SdB (N : List Str) (nm : Str → Option (List Str × List Nat)) (cf : Str → List D → Fd → Ou D) (kd : FK) (k : Nat) (s : IS) : Prop := ∀ {X : Cx} {sc : Scope}, Cs X N sc nm cf kd k → ∀ (sts : List Stmt), chSs N nm s sc sts = true →
  ∀ (H0 : Hp) (fa : Addr) (O0 O : Os) (H : Hp) (σ : L2.St) (ρ : Env') (F : Fd) (W : Ends), SW X.K H0 fa O0 O kd N.length H σ ρ F → PoS X H0 fa O0 O kd N.length H (evS cf s ρ F) W → SmSs X sts W σ H
structure SdD (N : List Str) (nm : Str → Option (List Str × List Nat)) (cf : Str → List D → Fd → Ou D) (kd : FK) (k : Nat) (t : IS) : Prop where
  s : SdS N nm cf kd k t
  b : SdB N nm cf kd k t
theorem name_lt {i : Nat} {x : Str} (h : N[i]? = some x) : i < N.length := (List.getElem?_eq_some_iff.mp h).1
theorem nameT_ix {scope rs : Scope} {i : Nat} {x : Str} (h : nameT N scope rs i x = true) : N[i]? = some x ∧ L2.Loc rs x := by
  unfold nameT at h
  simp only [Bool.and_eq_true, decide_eq_true_eq] at h
  refine ⟨h.1.1, ?_⟩
  have z := h.1.2
  unfold locB at z
  unfold L2.Loc
  split at z
  · rename_i e; exact .inl e
  · rename_i e; exact .inr e
  · cases z
theorem varC_pe {i : Nat} {x : Str} {p : Pos} (C : Ct X N sc nm cf kd k) (h : varC N sc i x = true) : PE X (.Name x p) (tVar i) := by
  unfold varC at h
  simp only [Bool.and_eq_true, decide_eq_true_eq, Bool.not_eq_true'] at h
  exact pe_var (by rw [C.nn]; exact h.1.1.1) (C.vis h.1.1.2) (by simpa [dbB] using h.1.2) h.2
theorem noComp_sw {e : Expr} {t : Option Expr} {l : Nat} {env : Env} (h : noComp e = true) : swapsWith e t l env = pure false := by
  cases e <;> first | rfl | cases h
theorem noUnp_comp {e : Expr} (h : noUnp e = true) : noComp e = true := by cases e <;> first | rfl | cases h
theorem noUnp_st {e tg : Expr} {env : Env} (h : noUnp e = true) : swappedStores [tg] e env = pure none := by
  cases e <;> first | (cases tg <;> rfl) | cases h
theorem sub_st {e o i : Expr} {p : Pos} {env : Env} : swappedStores [.Subscript o i p] e env = pure none := by
  cases e <;> rfl
theorem fm_len {α β : Type} {f : α → Option β} : ∀ {l : List α}, (l.filterMap f).length = l.length → ∀ t ∈ l, (f t).isSome = true
  | [], _, t, h => by cases h
  | a :: l, e, t, h => by
    have le := List.length_filterMap_le f l
    cases ha : f a with
    | none =>
      rw [List.filterMap_cons_none ha, List.length_cons] at e
      omega
    | some b =>
      rw [List.filterMap_cons_some ha, List.length_cons, List.length_cons] at e
      rcases List.mem_cons.mp h with z | z
      · rw [z, ha]; rfl
      · exact fm_len (by omega) t z
/-- a name that a block within sees: no swap -/
theorem sw_cell {e : Expr} {x : Str} {p : Pos} {l : Nat} {env : Env} (h : env.scope.names.lookup x = some .cell) (hc : (match e with | .SetComp _ _ _ _ => false | .DictComp _ _ _ _ _ => false | _ => true) = true) : swapsWith e (some (.Name x p)) l env = pure false := by
  have k : env.kindOf x = some .cell := h
  cases e <;> first | rfl | cases hc | skip
  have kc : (NameKind.cell == NameKind.local) = false := rfl
  unfold swapsWith
  simp [k, kc]
theorem ss_setW {i : Nat} {x : Str} {e : Expr} {p pos : Pos} (C : Cs X N sc nm cf kd k) (hx : nameT N sc sc i x = true) (hn : swapsWith e (some (.Name x p)) pos.line X.env = pure false) (h : SmE X e σ H fun v H1 => W.nx (σ.set i (some v)) H1) : SmS X (.Assign [.Name x p] e pos) W σ H := by
  obtain ⟨h1, h2⟩ := nameT_ix hx
  exact PS.sm (ps_set C.nnd (by rw [C.nn]; exact h1) (by rw [C.scp]; exact h2) pe_sm hn (.inl (C.fn x))) h
theorem unp_st {ts : List Expr} {k1 : Nat} {p1 : Pos} {e : Expr} {env : Env} (hs : env.scope = sc) (h : unpT sc ts e = true) : swappedStores [.Tuple ts k1 p1] e env = pure none := by
  unfold unpT at h
  split at h
  · rename_i vs k2 p2
    unfold swappedStores
    simp only []
    split
    · rfl
    · split
      · rfl
      · have fm : (ts.filterMap fun | .Name id pos => if env.kindOf id == some .local && pos.line == ((ts.head?.map (·.pos.line)).getD 0) then some id else none | _ => none).length ≠ ts.length := by
          intro z
          have z2 := fm_len z
          obtain ⟨t, ht, hc⟩ := List.any_eq_true.mp h
          have z3 := z2 t ht
          cases t <;> first | (cases hc; done) | skip
          rename_i x px
          have hk : env.kindOf x = some .cell := by
            show env.scope.names.lookup x = _
            rw [hs]
            exact of_decide_eq_true hc
          have kc : (NameKind.cell == NameKind.local) = false := rfl
          simp [hk, kc] at z3
        rw [if_pos (by simp only [Bool.or_eq_true]; exact .inl (bne_iff_ne.mpr fm))]
  · cases h
theorem ss_set {i : Nat} {x : Str} {e : Expr} {p pos : Pos} (C : Cs X N sc nm cf kd k) (hx : nameT N sc sc i x = true) (hn : noComp e = true) (h : SmE X e σ H fun v H1 => W.nx (σ.set i (some v)) H1) : SmS X (.Assign [.Name x p] e pos) W σ H := by
  obtain ⟨h1, h2⟩ := nameT_ix hx
  exact PS.sm (ps_set C.nnd (by rw [C.nn]; exact h1) (by rw [C.scp]; exact h2) pe_sm (noComp_sw hn) (.inl (C.fn x))) h
/-- a list that is not changed any more -/
theorem SW.frz (S : SW X.K H0 fa O0 O kd N.length H σ ρ F) {i : Nat} {ds : List D} (hi : ρ[i]? = some (.ow ds)) : ∃ O', SW X.K H0 fa O0 O' kd N.length H σ (ρ.set i (.im (.lst ds))) F ∧ Stp O H O' H := by
  obtain ⟨a, vs, ev, nf, oa, ha, r⟩ := S.sl i _ hi
  have own : OwnAt ρ σ i a := ⟨⟨ds, hi⟩, ev⟩
  have mono : ∀ b o [NT o], H b = some o → (O b ∧ b ≠ a) → O b := fun _ _ _ _ h => h.1
  refine ⟨fun b => O b ∧ b ≠ a, { ofa := ⟨S.ofa, nf.symm⟩, onn := fun b h => S.onn b h.1, fd := S.fd.os mono, sl := fun j x e => ?_, up := fun b h => ⟨S.up b h, fun z => S.nw i a own (z ▸ h)⟩, dn := fun b u _ h1 h2 => S.dn b u h1 h2.1, ge := S.ge, nw := fun j b o => ?_, dj := fun j l b o1 o2 => ?_, len := S.len, lr := by rw [List.length_set]; exact S.lr, nod := fun j kvs e => ?_ }, ⟨mono, Go.refl _ _⟩⟩
  · rcases set_get e with ⟨e1, e2⟩ | ⟨e1, e2⟩
    · subst e1 e2
      exact ⟨.ref a, ev, .lst ha (fun z => z.2 rfl) (r.os mono)⟩
    · have q := S.sl j x e2
      cases x with
      | no => trivial
      | im d => obtain ⟨v, h1, h2⟩ := q; exact ⟨v, h1, h2.os mono⟩
      | ow es =>
        obtain ⟨b, us, eb, nb, ob, hb, rr⟩ := q
        exact ⟨b, us, eb, nb, ⟨ob, fun z => e1 (S.dj i j a own ⟨⟨es, e2⟩, by rw [eb, z]⟩)⟩, hb, rr.os mono⟩
      | od kvs => exact absurd e2 (S.nod j kvs)
  · obtain ⟨⟨es, h1⟩, h2⟩ := o
    rcases set_get h1 with ⟨_, z⟩ | ⟨_, e1⟩
    · cases z
    · exact S.nw j b ⟨⟨es, e1⟩, h2⟩
  · obtain ⟨⟨es, h1⟩, h2⟩ := o1
    obtain ⟨⟨es', h1'⟩, h2'⟩ := o2
    rcases set_get h1 with ⟨_, z⟩ | ⟨_, e1⟩
    · cases z
    · rcases set_get h1' with ⟨_, z⟩ | ⟨_, e1'⟩
      · cases z
      · exact S.dj j l b ⟨⟨es, e1⟩, h2⟩ ⟨⟨es', e1'⟩, h2'⟩
  · rcases set_get e with ⟨_, z⟩ | ⟨_, z⟩
    · cases z
    · exact S.nod j kvs z
theorem isFrz_ex {s : IS} (h : isFrz s = true) : ∃ i, s = .frz i := by
  cases s <;> first | (cases h; done) | exact ⟨_, rfl⟩
theorem sd_seq {s r : IS} (hs : SdD N nm cf kd k s) (hr : SdD N nm cf kd k r) : SdD N nm cf kd k (.seq s r) where
  s := fun C st hc => by cases hc
  b := fun {X sc} C sts hc H0 fa O0 O H σ ρ F W S p => by
    unfold chSs at hc
    by_cases hf : isFrz s = true
    · rw [if_pos hf] at hc
      obtain ⟨i, rfl⟩ := isFrz_ex hf
      have p : PoS X H0 fa O0 O kd N.length H (sqS (evS cf (.frz i) ρ F) fun ρ F => evS cf r ρ F) W := p
      by_cases ho : ∃ ds, ρ[i]? = some (.ow ds)
      · obtain ⟨ds, ho⟩ := ho
        have e : evS cf (.frz i) ρ F = .nx (ρ.set i (.im (.lst ds))) F := by
          show (match ρ[i]? with | some (.ow ds) => Rs.nx (ρ.set i (.im (.lst ds))) F | _ => .nx ρ F) = _
          rw [ho]
        rw [e] at p
        obtain ⟨O', S', t⟩ := S.frz ho
        exact hr.b C sts hc H0 fa O0 O' H σ _ F W S' (PoS.from (r := evS cf r (ρ.set i (.im (.lst ds))) F) p t)
      · have e : evS cf (.frz i) ρ F = .nx ρ F := by
          show (match ρ[i]? with | some (.ow ds) => Rs.nx (ρ.set i (.im (.lst ds))) F | _ => .nx ρ F) = _
          split
          · rename_i ds z; exact absurd ⟨ds, z⟩ ho
          · rfl
        rw [e] at p
        exact hr.b C sts hc H0 fa O0 O H σ ρ F W S p
    rw [if_neg hf] at hc
    cases sts with
    | nil => cases hc
    | cons st rest =>
      have hc : (chS N nm s sc st && chSs N nm r sc rest) = true := hc
      rw [Bool.and_eq_true] at hc
      have p : PoS X H0 fa O0 O kd N.length H (sqS (evS cf s ρ F) fun ρ F => evS cf r ρ F) W := p
      refine PSs.sm (pss_cons ps_sm pss_sm) (hs.s C st hc.1 H0 fa O0 O H σ ρ F _ S ?_)
      cases e : evS cf s ρ F with
      | nx ρ' F' =>
        rw [e] at p
        exact fun O' σ' H' S' t => hr.b C rest hc.2 H0 fa O0 O' H' σ' ρ' F' W S' (PoS.from (r := evS cf r ρ' F') p t)
      | br ρ' F' => rw [e] at p; exact p
      | ct ρ' F' => rw [e] at p; exact p
      | rt d F' => rw [e] at p; exact p
      | ex c fs F' => rw [e] at p; exact p
      | no => rw [e] at p; exact p
theorem sd_nil' : SdD N nm cf kd k .nil where
  s := fun C st hc => by cases hc
  b := fun {X sc} C sts hc H0 fa O0 O H σ ρ F W S p => by
    have hc : sts.isEmpty = true := hc
    cases sts with
    | nil => exact PSs.sm pss_nil (p O σ H S (Stp.refl _ _))
    | cons _ _ => cases hc
theorem SdD.one {s : IS} (h : SdS N nm cf kd k s) (hb : ∀ sc sts, chSs N nm s sc sts = false) : SdD N nm cf kd k s := ⟨h, fun C sts hc => by rw [hb] at hc; cases hc⟩
theorem sd_asg (i : Nat) (e : IE) : SdD N nm cf kd k (.asg i e) := .one (fun {X sc} C st hc H0 fa O0 O H σ ρ F W S p => by
  unfold chS at hc
  split at hc
  · rename_i x p1 e' pos
    simp only [Bool.and_eq_true] at hc
    obtain ⟨⟨c1, c2⟩, c3⟩ := hc
    have hi := name_lt (nameT_ix c1).1
    have p : PoS X H0 fa O0 O kd N.length H ((evE cf e ρ F).toS fun d F => .nx (ρ.set i (.im d)) F) W := p
    have q : Po X σ H fa O kd (Rp X.K fa O) (evE cf e ρ F) fun v H1 => W.nx (σ.set i (some v)) H1 := S.po p fun d F1 v H1 S1 g r p1 => p1 O _ H1 (S1.im r hi) (Stp.refl _ _)
    by_cases hn : noComp e' = true
    · exact ss_set C c1 hn ((sound e).ee C.toCt e' c2 σ ρ H fa O F _ S.len S.toSR q)
    · obtain ⟨elt, gs, scope, pos', rfl⟩ : ∃ elt gs scope pos', e' = .ListComp elt gs scope pos' := by
        cases e' <;> first | (exact absurd rfl hn) | (cases c3; done) | exact ⟨_, _, _, _, rfl⟩
      by_cases hcl : sc.names.lookup x = some .cell
      · exact ss_setW C c1 (sw_cell (by rw [C.scp]; exact hcl) rfl) ((sound e).ee C.toCt _ c2 σ ρ H fa O F _ S.len S.toSR q)
      simp only [compC, Bool.and_eq_true, Bool.or_eq_true, decide_eq_true_eq, Bool.not_eq_true', hcl, or_false] at c3
      obtain ⟨⟨c4, c5⟩, c6⟩ := c3
      have c4' : X.env.scope.names.lookup x = some .local := by rw [C.scp]; exact c4
      have sw := sw_true (elt := elt) (gs := gs) (scope := scope) (pos := pos') (py := p1) (y := x) (l := pos.line) (env := X.env) C.knd c4' c5 c6
      cases e with
      | lc a1 a2 a3 a4 own =>
        obtain ⟨elt', tg', it', ifs', scope, pos2, e1, d1, d2, d3, h⟩ := lc_pre (sound a1) (sound a3) (sound a4) C.toCt c2 S.len S.toSR
        cases e1
        exact PS.sm (ps_setLc (wi := SmI X tg' it') C.calm C.nnd (by rw [C.nn]; exact (nameT_ix c1).1) c4' sw pi_sm d2 (blk_g C.toCt d3) pts_blk pe_blk (no_fold d1)) (h _ (q.rel fun _ _ _ r => r.rp S.toHd))
      | lc2 a1 a2 a3 a4 a5 a6 a7 own own1 =>
        obtain ⟨elt', tg', it', ifs', tg1', it1', ifs1', scope, pos2, e1, d1, b1, d2, d4, d3, b2, h⟩ := lc2_pre (sound a1) (sound a3) (sound a4) (sound a6) (sound a7) C.toCt c2 S.len S.toSR
        cases e1
        exact PS.sm (ps_setLc2 (wi := SmI X tg' it') C.calm C.nnd (by rw [C.nn]; exact (nameT_ix c1).1) c4' sw pi_sm d2 d4 (blk_g C.toCt d3) pts_blk pi_blk (blk_g C.toCt b2) pts_blk pe_blk (no_fold d1) (fun env => no_fold b1)) (h _ (q.rel fun _ _ _ r => r.rp S.toHd))
      | bad => exact q.elim
      | _ => exact absurd c2 Bool.false_ne_true
  · cases hc) (fun _ _ => rfl)
end
end TH
/-! What is checked is met: all statements. -/
namespace TH
open PySem PySem.Spec PyProof.Rows L2
section
variable {X : Cx} {N : List Str} {sc : Scope} {nm : Str → Option (List Str × List Nat)} {cf : Str → List D → Fd → Ou D} {kd : FK} {k : Nat} {H0 : Hp} {fa : Addr} {O0 O : Os} {H : Hp} {σ : L2.St} {ρ : Env'} {F : Fd} {W : Ends}
theorem noComp_sole {e t : Expr} {l : Nat} {env : Env} (h : noComp e = true) : swapsWithSole [t] e l env = pure false := by
  show swapsWith e (some t) l env = pure false
  exact noComp_sw h
/-- an own list is made where a value is stored -/
theorem SW.poF {e : IE} {i : Nat} (S : SW X.K H0 fa O0 O kd N.length H σ ρ F) (hi : i < N.length) (p : PoS X H0 fa O0 O kd N.length H (((evE cf e ρ F).bind asL).toS fun ds F => .nx (ρ.set i (.ow ds)) F) W) :
    Po X σ H fa O kd (FrL X.K fa O H) ((evE cf e ρ F).bind asL) fun v H1 => W.nx (σ.set i (some v)) H1 := by
  cases e1 : (evE cf e ρ F).bind asL with
  | no => rw [e1] at p; exact p
  | ex c fs F1 => rw [e1] at p; exact ExS.w S p
  | ok ds F1 =>
    rw [e1] at p
    intro v H1 g f r
    obtain ⟨O', S', t⟩ := S.ow g f r hi
    exact p O' _ H1 S' t
theorem sds_own (i : Nat) (e : IE) : SdD N nm cf kd k (.own i e) := .one (fun {X sc} C st hc H0 fa O0 O H σ ρ F W S p => by
  unfold chS at hc
  split at hc
  · rename_i x p1 e' pos
    simp only [Bool.and_eq_true] at hc
    obtain ⟨⟨⟨c1, c2⟩, c3⟩, cf'⟩ := hc
    have hi := name_lt (nameT_ix c1).1
    have q := S.poF hi p
    by_cases hn : noComp e' = true
    · exact ss_set C c1 hn (sdF cf' C.toCt e' c2 σ ρ H fa O F _ S.len S.toSR q)
    · obtain ⟨elt, gs, scope, pos', rfl⟩ : ∃ elt gs scope pos', e' = .ListComp elt gs scope pos' := by
        cases e' <;> first | (exact absurd rfl hn) | (cases c3; done) | exact ⟨_, _, _, _, rfl⟩
      by_cases hcl : sc.names.lookup x = some .cell
      · exact ss_setW C c1 (sw_cell (by rw [C.scp]; exact hcl) rfl) (sdF cf' C.toCt _ c2 σ ρ H fa O F _ S.len S.toSR q)
      simp only [compC, Bool.and_eq_true, Bool.or_eq_true, decide_eq_true_eq, Bool.not_eq_true', hcl, or_false] at c3
      obtain ⟨⟨c4, c5⟩, c6⟩ := c3
      have c4' : X.env.scope.names.lookup x = some .local := by rw [C.scp]; exact c4
      have sw := sw_true (elt := elt) (gs := gs) (scope := scope) (pos := pos') (py := p1) (y := x) (l := pos.line) (env := X.env) C.knd c4' c5 c6
      have q' : Po X σ H fa O kd (FrR X.K fa O H) (evE cf e ρ F) fun v H1 => W.nx (σ.set i (some v)) H1 := by
        cases e1 : evE cf e ρ F with
        | no => rw [e1] at q; exact q.elim
        | ex c fs F1 => rw [e1] at q; exact q
        | ok d F1 =>
          rw [e1] at q
          cases d with
          | lst ds => exact q
          | _ => exact q.elim
      cases e with
      | lc a1 a2 a3 a4 own =>
        obtain ⟨elt', tg', it', ifs', scope, pos2, e1, d1, d2, d3, h⟩ := lc_pre (sound a1) (sound a3) (sound a4) C.toCt c2 S.len S.toSR
        cases e1
        exact PS.sm (ps_setLc (wi := SmI X tg' it') C.calm C.nnd (by rw [C.nn]; exact (nameT_ix c1).1) c4' sw pi_sm d2 (blk_g C.toCt d3) pts_blk pe_blk (no_fold d1)) (h _ q')
      | lc2 a1 a2 a3 a4 a5 a6 a7 own own1 =>
        obtain ⟨elt', tg', it', ifs', tg1', it1', ifs1', scope, pos2, e1, d1, b1, d2, d4, d3, b2, h⟩ := lc2_pre (sound a1) (sound a3) (sound a4) (sound a6) (sound a7) C.toCt c2 S.len S.toSR
        cases e1
        exact PS.sm (ps_setLc2 (wi := SmI X tg' it') C.calm C.nnd (by rw [C.nn]; exact (nameT_ix c1).1) c4' sw pi_sm d2 d4 (blk_g C.toCt d3) pts_blk pi_blk (blk_g C.toCt b2) pts_blk pe_blk (no_fold d1) (fun env => no_fold b1)) (h _ q')
      | bad => exact q'.elim
      | _ => exact absurd c2 Bool.false_ne_true
  · cases hc) (fun _ _ => rfl)
theorem tg_lt {scope rs : Scope} {tg : IE} {e : Expr} (h : chTg N scope rs tg e = true) : ∀ i ∈ tgS tg, i < N.length := by
  unfold chTg at h
  split at h
  · split at h
    · intro i hi; simp only [tgS, List.mem_singleton] at hi; subst hi; exact name_lt (nameT_ix h).1
    · cases h
  · split at h
    · rw [Bool.and_eq_true] at h
      intro i hi
      simp only [tgS, List.mem_cons, List.not_mem_nil, or_false] at hi
      rcases hi with rfl | rfl
      · exact name_lt (nameT_ix h.1).1
      · exact name_lt (nameT_ix h.2).1
    · cases h
  · split at h
    · rw [Bool.and_eq_true, Bool.and_eq_true] at h
      intro i hi
      simp only [tgS, List.mem_cons, List.not_mem_nil, or_false] at hi
      rcases hi with rfl | rfl | rfl
      · exact name_lt (nameT_ix h.1.1).1
      · exact name_lt (nameT_ix h.1.2).1
      · exact name_lt (nameT_ix h.2).1
    · cases h
  · cases h
theorem pg_cs {tg : IE} {e : Expr} (C : Cs X N sc nm cf kd k) (h : chTg N sc sc tg e = true) : PG X e (tgT X.K tg) := pg_ch (N := N) (scope := sc) (rs := sc) C.calm C.nn C.nd C.scp (fun x _ => C.fn x) h
theorem bindT_len {tg : IE} {d : D} {ρ' : Env'} (h : bindT tg d ρ = some ρ') : ρ'.length = ρ.length := by
  unfold bindT at h
  split at h <;> first | cases h | skip
  all_goals simp
/-- a target is bound -/
theorem sw_bind {tg : IE} {d : D} {v : V} {ρ' : Env'} {Q : L2.St → Hp → Prop} (S : SW X.K H0 fa O0 O kd N.length H σ ρ F) (hb : bindT tg d ρ = some ρ') (r : Rp X.K fa O H v d) (hl : ∀ i ∈ tgS tg, i < N.length)
    (j : ∀ σ', SW X.K H0 fa O0 O kd N.length H σ' ρ' F → Q σ' H) : tgT X.K tg v σ H Q :=
  tg_bind S.toSR hb r (fun i hi => by rw [S.len]; exact hl i hi) fun σ' _ l S1 kp => j σ' (S.kept S1 l (bindT_len hb) kp)
theorem sds_unp (tg e : IE) : SdD N nm cf kd k (.unp tg e) := .one (fun {X sc} C st hc H0 fa O0 O H σ ρ F W S p => by
  unfold chS at hc
  split at hc
  · rename_i ts kk p1 e' pos
    simp only [Bool.and_eq_true] at hc
    obtain ⟨⟨c1, c2⟩, c3⟩ := hc
    have hw : swapsWithSole [Expr.Tuple ts kk p1] e' pos.line X.env = pure false ∧ swappedStores [Expr.Tuple ts kk p1] e' X.env = pure none := by
      rw [Bool.or_eq_true] at c3
      rcases c3 with c3 | c3
      · exact ⟨noComp_sole (noUnp_comp c3), noUnp_st c3⟩
      · refine ⟨noComp_sole ?_, unp_st C.scp c3⟩
        unfold unpT at c3
        split at c3
        · rfl
        · cases c3
    refine PS.sm (ps_asg (pe_sm (e := e')) (pg_cs C c1) hw.1 hw.2) ?_
    refine (sound e).ee C.toCt e' c2 σ ρ H fa O F _ S.len S.toSR (S.po p fun d F1 v H1 S1 g r p1 => ?_)
    cases eb : bindT tg d ρ with
    | none => rw [eb] at p1; exact p1.elim
    | some ρ' =>
      rw [eb] at p1
      exact sw_bind S1 eb r (tg_lt c1) fun σ' S2 => p1 O σ' H1 S2 (Stp.refl _ _)
  · cases hc) (fun _ _ => rfl)
theorem sds_app (i : Nat) (e : IE) : SdD N nm cf kd k (.app i e) := .one (fun {X sc} C st hc H0 fa O0 O H σ ρ F W S p => by
  unfold chS at hc
  split at hc
  · rename_i x p1 m q e' q2 pos
    simp only [Bool.and_eq_true, decide_eq_true_eq] at hc
    obtain ⟨⟨⟨rfl, c1⟩, c2⟩, c3⟩ := hc
    have p : PoS X H0 fa O0 O kd N.length H (match ρ[i]? with
      | some (.ow ds) => (evE cf e ρ F).toS fun d F => if ds.length < sizeLine then .nx (ρ.set i (.ow (ds ++ [d]))) F else .no
      | _ => .no) W := p
    have nt := nostar_ch c2
    have st1 := star_of (es := []) (env := X.env) nt
    split at p
    · rename_i ds hi
      obtain ⟨a, vs, ev, nf, oa, ha, r⟩ := S.sl i _ hi
      refine PS.sm (ps_expr (pe_bm (T := "list") (id := "list.append") PySem.F.plainAttrs_list PySem.F.slot_list_append rfl mt_append (varC_pe C.toCt c1) (pa_sm (es := [e'])) rfl (by rw [st1]; rfl) c3 st1 rfl)) ⟨.ref a, ev, .inl ⟨rfl, vs, .inl (.inl ha)⟩, ?_⟩
      refine sa_cons nt ((sound e).ee C.toCt e' c2 σ ρ H fa O F _ S.len S.toSR (S.po p fun d F1 v H1 S1 g r1 p1 => sa_nil ?_))
      obtain ⟨b, ws, ew, _, ob, hb, r2⟩ := S1.sl i _ hi
      rw [ev] at ew
      cases ew
      split at p1
      · rename_i hz
        obtain ⟨S2, t⟩ := S1.wr ⟨⟨ds, hi⟩, ev⟩ oa nf (r2.append (.cons r1 .nil))
        exact ⟨a, ws, v, rfl, rfl, hb, by rw [r2.length]; exact hz, p1 O σ _ S2 t⟩
      · exact p1.elim
    · exact p.elim
  · cases hc) (fun _ _ => rfl)
theorem ix_sub {o i : Expr} {p : Pos} {env : Env} (h : noSl i = true) (v : Value) : assign (.Subscript o i p) env v = (do
      let ov ← holding [v] (eval o env)
      let iv ← holding [v, ov] (eval i env)
      standAt p
      holding [v, ov, iv] (setItem ov iv v)
      release [v, ov, iv] []) := by
  cases i <;> first | rfl | cases h
theorem sds_seti (i : Nat) (j e : IE) : SdD N nm cf kd k (.seti i j e) := .one (fun {X sc} C st hc H0 fa O0 O H σ ρ F W S p => by
  unfold chS at hc
  split at hc
  · rename_i x p1 j' p2 e' pos
    simp only [Bool.and_eq_true] at hc
    obtain ⟨⟨⟨⟨c1, c2⟩, c3⟩, c4⟩, c5⟩ := hc
    have p : PoS X H0 fa O0 O kd N.length H ((evE cf e ρ F).toS fun d F => match ρ[i]? with
      | some (.ow ds) => (evE cf j ρ F).toS fun y F => setS ρ i ds y d F
      | _ => .no) W := p
    refine PS.sm (ps_asg (pe_sm (e := e')) (pg_sub (varC_pe C.toCt c1) (pe_sm (e := j')) set_list (ix_sub c3)) (show swapsWithSole [Expr.Subscript (.Name x p1) j' p2] e' pos.line X.env = pure false from noComp_sole c5) sub_st) ?_
    refine (sound e).ee C.toCt e' c4 σ ρ H fa O F _ S.len S.toSR (S.po p fun d F1 v H1 S1 g r p1 => ?_)
    split at p1
    · rename_i ds hi
      obtain ⟨a, vs, ev, nf, oa, ha, rr⟩ := S1.sl i _ hi
      refine ⟨.ref a, ev, ?_⟩
      refine (sound j).ee C.toCt j' c2 σ ρ H1 fa O F1 _ S1.len S1.toSR (S1.po p1 fun y F2 w H2 S2 g2 r2 p2 => ?_)
      unfold setS at p2
      split at p2
      · rename_i z
        cases r2
        split at p2
        · rename_i n hn
          obtain ⟨b, ws, ew, _, ob, hb, r3⟩ := S2.sl i _ hi
          rw [ev] at ew
          cases ew
          obtain ⟨S3, t⟩ := S2.wr ⟨⟨ds, hi⟩, ev⟩ oa nf (r3.set (r.go (g2.go S1.ofa)) n)
          exact ⟨a, ws, z, n, rfl, rfl, hb, by rw [r3.length]; exact hn, p2 O σ _ S3 t⟩
        · exact p2.elim
      · exact p2.elim
    · exact p1.elim
  · cases hc) (fun _ _ => rfl)
theorem fput_fld {F F' : Fd} {n : Nat} {z : Int} (h : F.put n z = some F') : F'.dic = F.dic ∧ F'.cells = F.cells := by
  unfold Fd.put at h
  split at h <;> cases h <;> exact ⟨rfl, rfl⟩
theorem put_dic {m : Nms} {c : Addr} {F F' : Fd} {n : Nat} {z : Int} (h : F.put n z = some F') : putK (fldV m c F) (Sum.inr (m.key n)) (.int z) = fldV m c F' := by
  have d1 : ∀ {a b : Str}, keyN a b = true → ¬ ((Sum.inr a : Key) = Sum.inr b) := fun h => by unfold keyN at h; exact of_decide_eq_true h
  have k := keyN_of m
  match n, h with
  | 1, h =>
    cases h
    have a1 := d1 k.k01
    have a2 := d1 k.k21
    have a3 := d1 k.k31
    simp [putK, fldV, a1, a2, a3]
  | 2, h =>
    cases h
    have a1 := d1 k.k02
    have a2 := d1 k.k12
    have a3 := d1 k.k32
    simp [putK, fldV, a1, a2, a3]
  | 3, h =>
    cases h
    have a1 := d1 k.k03
    have a2 := d1 k.k13
    have a3 := d1 k.k23
    simp [putK, fldV, a1, a2, a3]
theorem sds_fset (b : FK0) (i n : Nat) (e : IE) : SdD N nm cf kd k (.fset b i n e) := .one (fun {X sc} C st hc H0 fa O0 O H σ ρ F W S p => by
  unfold chS at hc
  split at hc
  · rename_i x p1 c kk p2 p3 e' pos
    simp only [Bool.and_eq_true] at hc
    obtain ⟨⟨⟨c1, c2⟩, c3⟩, c4⟩ := hc
    have p : PoS X H0 fa O0 O kd N.length H ((evE cf e ρ F).toS fun d F => fputS ρ b i n d F) W := p
    have run : ∀ (c' : Const), c' = c → (∀ d F1 v H1, SW X.K H0 fa O0 O kd N.length H1 σ ρ F1 → Ge fa H H1 → Rp X.K fa O H1 v d → PoS X H0 fa O0 O kd N.length H1 (fputS ρ b i n d F1) W →
        ∃ z F2 H2, v = .int z ∧ ρ[i]? = some (.im .fd) ∧ SW X.K H0 fa O0 O kd N.length H2 σ ρ F2 ∧ Stp O H1 O H2 ∧ W.nx σ H2 ∧ True) → True := fun _ _ _ => trivial
    have key : ∀ d F1 v H1, SW X.K H0 fa O0 O kd N.length H1 σ ρ F1 → Rp X.K fa O H1 v d → PoS X H0 fa O0 O kd N.length H1 (fputS ρ b i n d F1) W → ∃ z F2, v = .int z ∧ σ[i]? = some (some (.ref fa)) ∧ b = F1.dic ∧ F1.put n z = some F2 ∧ PoS X H0 fa O0 O kd N.length H1 (.nx ρ F2) W := by
      intro d F1 v H1 S1 r p1
      unfold fputS at p1
      split at p1
      · rename_i z hi
        obtain ⟨u, eu, ru⟩ := S1.sl i _ hi
        cases ru
        cases r
        split at p1
        · rename_i hb
          split at p1
          · rename_i F2 hF
            exact ⟨z, F2, rfl, eu, hb, hF, p1⟩
          · exact p1.elim
        · exact p1.elim
      · exact p1.elim
    have upf : ∀ {H1 : Hp} {u : HO}, Ge fa H1 (upd H1 fa u) := fun a o _ e na => by rw [upd_ne na]; exact e
    unfold fldB at c2
    split at c2
    · rename_i m z _
      simp only [Bool.and_eq_true, decide_eq_true_eq] at c2
      obtain ⟨ez, hn⟩ := c2
      subst ez
      refine PS.sm (ps_asg (pe_sm (e := e')) (pg_sub (varC_pe C.toCt c1) pe_str (set_dict (by have := C.hu; omega))) (show swapsWithSole [Expr.Subscript (.Name x p1) _ p3] e' pos.line X.env = pure false from noComp_sole c4) sub_st) ?_
      refine (sound e).ee C.toCt e' c3 σ ρ H fa O F _ S.len S.toSR (S.po p fun d F1 v H1 S1 g r p1 => ?_)
      obtain ⟨z, F2, rfl, eu, hb, hF, p2⟩ := key d F1 v H1 S1 r p1
      refine ⟨.ref fa, eu, ?_⟩
      have hf := S1.fd.2
      cases ek : kd.k with
      | lst => rw [ek] at hf; obtain ⟨hd, _⟩ := hf; rw [← hb] at hd; cases hd
      | dic m2 =>
        rw [ek] at hf
        obtain ⟨hd, cc, ha, rr⟩ := hf
        rw [← hb] at hd
        obtain rfl : m = m2 := by cases hd; rfl
        obtain ⟨q1, q2⟩ := fput_fld hF
        refine ⟨fa, _, rfl, DPut.k (k := Sum.inr (m.key n)) ha (by show 4 < sizeLine; decide), ?_⟩
        refine p2 O σ _ (S1.step upf ⟨tabs_wr S1.fd.1 ha (dK_nc _), ?_⟩) (S1.stp upf)
        rw [ek]
        refine ⟨by rw [q1, ← hb], cc, ?_, ?_⟩
        · rw [upd_same]
          exact congrArg (fun z => some (HO.dK z)) (put_dic (c := cc) hF)
        · rw [q2]; exact rr.go (Ge.go upf S1.ofa)
    · rename_i z _
      simp only [Bool.and_eq_true, decide_eq_true_eq] at c2
      obtain ⟨rfl, hn⟩ := c2
      refine PS.sm (ps_asg (pe_sm (e := e')) (pg_sub (varC_pe C.toCt c1) pe_int set_list) (show swapsWithSole [Expr.Subscript (.Name x p1) _ p3] e' pos.line X.env = pure false from noComp_sole c4) sub_st) ?_
      refine (sound e).ee C.toCt e' c3 σ ρ H fa O F _ S.len S.toSR (S.po p fun d F1 v H1 S1 g r p1 => ?_)
      obtain ⟨z, F2, rfl, eu, hb, hF, p2⟩ := key d F1 v H1 S1 r p1
      refine ⟨.ref fa, eu, ?_⟩
      have hf := S1.fd.2
      cases ek : kd.k with
      | dic m => rw [ek] at hf; obtain ⟨hd, _⟩ := hf; rw [← hb] at hd; cases hd
      | lst =>
        rw [ek] at hf
        obtain ⟨hd, cc, ha, rr⟩ := hf
        obtain ⟨q1, q2⟩ := fput_fld hF
        have nc : fa ≠ cc := fun z => by cases rr with | lst h no _ => exact no (z ▸ S1.ofa)
        have mk : ∀ j, ixN 4 (n : Int) = some j → (([V.ref cc, .int F1.at_, .int F1.left, .int F1.count] : List V).set j (.int z)) = [V.ref cc, .int F2.at_, .int F2.left, .int F2.count] → W.nx σ (upd H1 fa (.lst (([V.ref cc, .int F1.at_, .int F1.left, .int F1.count] : List V).set j (.int z)))) := fun j _ ej => by
          refine p2 O σ _ (S1.step upf ⟨tabs_wr S1.fd.1 ha (lst_nc _), ?_⟩) (S1.stp upf)
          rw [ek]
          refine ⟨by rw [q1]; exact hd, cc, ?_, ?_⟩
          · rw [upd_same, ej]
          · rw [q2]; exact rr.go (Ge.go upf S1.ofa)
        match n, hn, hF with
        | 1, _, hF => exact ⟨fa, _, 1, 1, rfl, rfl, ha, rfl, mk 1 rfl (by cases hF; rfl)⟩
        | 2, _, hF => exact ⟨fa, _, 2, 2, rfl, rfl, ha, rfl, mk 2 rfl (by cases hF; rfl)⟩
        | 3, _, hF => exact ⟨fa, _, 3, 3, rfl, rfl, ha, rfl, mk 3 rfl (by cases hF; rfl)⟩
    · cases c2
  · cases hc) (fun _ _ => rfl)
theorem sds_ife (t : IE) {a b : IS} (ha : SdD N nm cf kd k a) (hb : SdD N nm cf kd k b) : SdD N nm cf kd k (.ife t a b) := .one (fun {X sc} C st hc H0 fa O0 O H σ ρ F W S p => by
  unfold chS at hc
  split at hc
  · rename_i t' a' b' pos
    simp only [Bool.and_eq_true] at hc
    obtain ⟨⟨⟨c1, c2⟩, c3⟩, c4⟩ := hc
    have p : PoS X H0 fa O0 O kd N.length H ((tsE cf t ρ F).toS fun c F => if c = true then evS cf a ρ F else evS cf b ρ F) W := p
    refine PS.sm (ps_if pt_sm pss_sm pss_sm) ?_
    refine (sound t).t C.toCt t' c2 c1 σ ρ H fa O F _ S.len S.toSR (S.po p fun c F1 v H1 S1 g r p1 => ?_)
    subst r
    cases v with
    | true => rw [if_pos rfl] at p1 ⊢; exact ha.b C a' c3 H0 fa O0 O H1 σ ρ F1 W S1 p1
    | false => rw [if_neg Bool.false_ne_true] at p1 ⊢; exact hb.b C b' c4 H0 fa O0 O H1 σ ρ F1 W S1 p1
  · cases hc) (fun _ _ => rfl)
theorem sds_ret (e : IE) : SdD N nm cf kd k (.ret e) := .one (fun {X sc} C st hc H0 fa O0 O H σ ρ F W S p => by
  unfold chS at hc
  split at hc
  · rename_i e' pos
    have p : PoS X H0 fa O0 O kd N.length H ((evE cf e ρ F).toS fun d F => .rt d F) W := p
    refine PS.sm (ps_ret pe_sm) ((sound e).ee C.toCt e' hc σ ρ H fa O F _ S.len S.toSR (S.po p fun d F1 v H1 S1 g r p1 => ?_))
    exact p1 v H1 S1.ge (S1.fd.os S1.out) (r.os S1.out)
  · cases hc) (fun _ _ => rfl)
theorem sds_retO (i : Nat) : SdD N nm cf kd k (.retO i) := .one (fun {X sc} C st hc H0 fa O0 O H σ ρ F W S p => by
  unfold chS at hc
  split at hc
  · rename_i x p1 pos
    have p : PoS X H0 fa O0 O kd N.length H (match ρ[i]? with
      | some (.ow ds) => .rt (.lst ds) F
      | _ => .no) W := p
    split at p
    · rename_i ds hi
      obtain ⟨a, vs, ev, nf, oa, ha, r⟩ := S.sl i _ hi
      exact PS.sm (ps_ret (varC_pe C.toCt hc)) ⟨.ref a, ev, p (.ref a) H S.ge (S.fd.os S.out) (.lst ha (S.nw i a ⟨⟨ds, hi⟩, ev⟩) (r.os S.out))⟩
    · exact p.elim
  · cases hc) (fun _ _ => rfl)
theorem sds_retN : SdD N nm cf kd k .retN := .one (fun {X sc} C st hc H0 fa O0 O H σ ρ F W S p => by
  unfold chS at hc
  split at hc
  · exact PS.sm ps_retN (p .non H S.ge (S.fd.os S.out) .non)
  · cases hc) (fun _ _ => rfl)
theorem sds_exp (e : IE) : SdD N nm cf kd k (.exp e) := .one (fun {X sc} C st hc H0 fa O0 O H σ ρ F W S p => by
  unfold chS at hc
  split at hc
  · rename_i e' pos
    rw [Bool.and_eq_true] at hc
    have p : PoS X H0 fa O0 O kd N.length H ((evE cf e ρ F).toS fun _ F => .nx ρ F) W := p
    refine PS.sm (ps_expr pe_sm (noComp_sw hc.2)) ((sound e).ee C.toCt e' hc.1 σ ρ H fa O F _ S.len S.toSR (S.po p fun d F1 v H1 S1 g r p1 => ?_))
    exact p1 O σ H1 S1 (Stp.refl _ _)
  · cases hc) (fun _ _ => rfl)
theorem sds_pass : SdD N nm cf kd k .pass := .one (fun {X sc} C st hc H0 fa O0 O H σ ρ F W S p => by
  unfold chS at hc
  split at hc
  · exact PS.sm ps_pass (p O σ H S (Stp.refl _ _))
  · cases hc) (fun _ _ => rfl)
theorem sds_brk : SdD N nm cf kd k .brk := .one (fun {X sc} C st hc H0 fa O0 O H σ ρ F W S p => by
  unfold chS at hc
  split at hc
  · exact PS.sm ps_break (p O σ H S (Stp.refl _ _))
  · cases hc) (fun _ _ => rfl)
theorem sds_cnt : SdD N nm cf kd k .cnt := .one (fun {X sc} C st hc H0 fa O0 O H σ ρ F W S p => by
  unfold chS at hc
  split at hc
  · exact PS.sm ps_continue (p O σ H S (Stp.refl _ _))
  · cases hc) (fun _ _ => rfl)
theorem sds_bad : SdD N nm cf kd k .bad := .one (fun {X sc} C st hc H0 fa O0 O H σ ρ F W S p => p.elim) (fun _ _ => rfl)
/-- after a body: on, out, back -/
theorem PoS.turn {o : Rs} {g : Env' → Fd → Rs} {Nn : L2.St → Hp → Prop} {H1 : Hp} {O1 : Os} (p : PoS X H0 fa O0 O kd N.length H (match o with
      | .nx ρ F => g ρ F
      | .ct ρ F => g ρ F
      | .br ρ F => .nx ρ F
      | o => o) W) (j : ∀ O' σ' H' ρ' F', SW X.K H0 fa O0 O' kd N.length H' σ' ρ' F' → Stp O H O' H' → PoS X H0 fa O0 O' kd N.length H' (g ρ' F') W → Nn σ' H') : PoS X H0 fa O0 O kd N.length H o { W with nx := Nn, ct := Nn, bk := W.nx } := by
  cases o with
  | nx ρ F => exact fun O' σ' H' S t => j O' σ' H' ρ F S t (PoS.from (r := g ρ F) p t)
  | ct ρ F => exact fun O' σ' H' S t => j O' σ' H' ρ F S t (PoS.from (r := g ρ F) p t)
  | br ρ F => exact p
  | rt d F => exact p
  | ex c fs F => exact p
  | no => exact p
theorem sds_loop (tg it : IE) {b : IS} (hb : SdD N nm cf kd k b) : SdD N nm cf kd k (.loop tg it b) := .one (fun {X sc} C st hc H0 fa O0 O H σ ρ F W S p => by
  unfold chS at hc
  split at hc
  · rename_i tg' it' b' pos
    simp only [Bool.and_eq_true] at hc
    obtain ⟨⟨⟨⟨⟨c1, c2⟩, c3⟩, c4⟩, c5⟩, _⟩ := hc
    have p : PoS X H0 fa O0 O kd N.length H ((itE cf it ρ F).toS fun xs F => loopS (fun ρ F => evS cf b ρ F) (bindT tg) ρ xs F) W := p
    refine PS.sm (ps_for (wi := SmI X tg' it') C.own C.calm pi_sm (pg_cs C c1) pss_sm (no_fold c3)) ?_
    refine (sound it).i C.toCt tg' it' c4 c2 σ ρ H fa O F _ S.len S.toSR (S.po p fun items F1 J H1 S1 g r p1 => ?_)
    obtain ⟨G, Y, wk, hG, hY⟩ := r
    refine for_it wk (fun i σ' H' => ∃ O' ρ' F', SW X.K H0 fa O0 O' kd N.length H' σ' ρ' F' ∧ Stp O H1 O' H' ∧ PoS X H0 fa O0 O' kd N.length H' (loopS (fun ρ F => evS cf b ρ F) (bindT tg) ρ' (items.drop i) F') W)
      ⟨O, ρ, F1, S1, Stp.refl _ _, by rw [List.drop_zero]; exact p1⟩ (fun i σ' H' _ ⟨O', ρ', F', _, t, _⟩ => hG H' t.go) ?_ ?_
    · rintro i x σ' H' H2 hi ⟨O', ρ', F', S', t, p2⟩ y
      have ge0 : items[i]? = some items[i] := by simp [hi]
      obtain ⟨hH, rx⟩ := hY O' i H' x H2 items[i] t.dn S'.onn t.go ge0 y
      have g2 : Ge fa H' H2 ∧ FeedAt X.K fa O' kd H2 F' := by
        rcases hH with rfl | ⟨T, xs, hT, rfl⟩
        · exact ⟨Ge.refl _ _, S'.fd⟩
        · exact ⟨Ge.new hT, S'.laid hT⟩
      have S2 := S'.step g2.1 g2.2
      have p3 := PoS.from p2 (S'.stp g2.1)
      rw [drop_at hi] at p3
      unfold loopS at p3
      cases eb : bindT tg items[i] ρ' with
      | none => rw [eb] at p3; exact p3.elim
      | some ρ'' =>
        rw [eb] at p3
        refine sw_bind S2 eb rx (tg_lt c1) fun σ2 S3 => ?_
        refine hb.b C b' c5 H0 fa O0 O' H2 σ2 ρ'' F' _ S3 (PoS.turn (H1 := H2) (O1 := O') (g := fun ρ F => loopS (fun ρ F => evS cf b ρ F) (bindT tg) ρ (items.drop (i + 1)) F) p3 fun O3 σ3 H3 ρ3 F3 S4 t4 p4 => ?_)
        exact ⟨O3, ρ3, F3, S4, (t.trans (S'.stp g2.1)).trans t4, p4⟩
    · rintro σ' H' ⟨O', ρ', F', S', t, p2⟩
      rw [List.drop_length] at p2
      exact p2 O' σ' H' S' (Stp.refl _ _)
  · cases hc) (fun _ _ => rfl)
theorem sds_whl (n : Nat) (t : IE) {b : IS} (hb : SdD N nm cf kd k b) : SdD N nm cf kd k (.whl n t b) := .one (fun {X sc} C st hc H0 fa O0 O H σ ρ F W S p => by
  unfold chS at hc
  split at hc
  · rename_i t' b' pos
    simp only [Bool.and_eq_true] at hc
    obtain ⟨⟨c1, c2⟩, c3⟩ := hc
    have p : PoS X H0 fa O0 O kd N.length H (whlS (tsE cf t) (fun ρ F => evS cf b ρ F) n ρ F) W := p
    refine PS.sm (ps_while C.own pt_sm pss_sm) ⟨fun m σ' H' => ∃ O' ρ' F', SW X.K H0 fa O0 O' kd N.length H' σ' ρ' F' ∧ PoS X H0 fa O0 O' kd N.length H' (whlS (tsE cf t) (fun ρ F => evS cf b ρ F) m ρ' F') W, ⟨n, O, ρ, F, S, p⟩, ?_⟩
    rintro m σ' H' ⟨O', ρ', F', S', p2⟩
    cases m with
    | zero => exact p2.elim
    | succ m =>
      unfold whlS at p2
      refine (sound t).t C.toCt t' c2 c1 σ' ρ' H' fa O' F' _ S'.len S'.toSR (S'.po p2 fun c F1 v H1 S1 g r p3 => ?_)
      subst r
      cases v with
      | false => rw [if_neg Bool.false_ne_true] at p3 ⊢; exact p3 O' σ' H1 S1 (Stp.refl _ _)
      | true =>
        rw [if_pos rfl] at p3 ⊢
        refine ⟨fun σ2 H2 => ∃ O2 ρ2 F2, SW X.K H0 fa O0 O2 kd N.length H2 σ2 ρ2 F2 ∧ PoS X H0 fa O0 O2 kd N.length H2 (whlS (tsE cf t) (fun ρ F => evS cf b ρ F) m ρ2 F2) W, fun σ2 H2 z => ⟨m, Nat.lt_succ_self m, z⟩, ?_⟩
        exact hb.b C b' c3 H0 fa O0 O' H1 σ' ρ' F1 _ S1 (PoS.turn (H1 := H1) (O1 := O') (g := fun ρ F => whlS (tsE cf t) (fun ρ F => evS cf b ρ F) m ρ F) p3 fun O3 σ3 H3 ρ3 F3 S4 t4 p4 => ⟨O3, ρ3, F3, S4, p4⟩)
  · cases hc) (fun _ _ => rfl)
/-! ### values side by side -/
/-- the slots lie within more slots -/
structure Pre (n : Nat) (σ : L2.St) (ρ : Env') (σx : L2.St) (ρx : Env') : Prop where
  s : ∀ j, j < n → σx[j]? = σ[j]?
  r : ∀ j, j < n → ρx[j]? = ρ[j]?
theorem SR.pre {n : Nat} {σx : L2.St} {ρx : Env'} (S : SR X.K fa O kd H σx ρx F) (P : Pre n σ ρ σx ρx) (hr : ρ.length = n) : SR X.K fa O kd H σ ρ F :=
  ⟨S.toHd, fun i x e => by
    have hi : i < n := by rw [← hr]; exact (List.getElem?_eq_some_iff.mp e).1
    rw [← P.s i hi]
    exact S.sl i x (by rw [P.r i hi]; exact e)⟩
theorem SW.pad (S : SW X.K H0 fa O0 O kd N.length H σ ρ F) (m : Nat) : SW X.K H0 fa O0 O kd (N.length + m) H (σ ++ List.replicate m none) (ρ ++ List.replicate m .no) F ∧ Pre N.length σ ρ (σ ++ List.replicate m none) (ρ ++ List.replicate m .no) := by
  have gr : ∀ {i : Nat} {x : Sl}, (ρ ++ List.replicate m .no)[i]? = some x → x = .no ∨ (i < N.length ∧ ρ[i]? = some x) := fun {i x} e => by
    by_cases hi : i < N.length
    · rw [List.getElem?_append_left (by rw [S.lr]; exact hi)] at e
      exact .inr ⟨hi, e⟩
    · rw [List.getElem?_append_right (by rw [S.lr]; omega), List.getElem?_replicate] at e
      split at e
      · cases e; exact .inl rfl
      · cases e
  have gs : ∀ {i : Nat}, i < N.length → (σ ++ List.replicate m (none : Option V))[i]? = σ[i]? := fun {i} hi => List.getElem?_append_left (by rw [S.len]; exact hi)
  have back : ∀ i a, OwnAt (ρ ++ List.replicate m .no) (σ ++ List.replicate m none) i a → OwnAt ρ σ i a := fun i a ⟨⟨ds, h1⟩, h2⟩ => by
    rcases gr h1 with z | ⟨z1, z2⟩
    · cases z
    · rw [gs z1] at h2
      exact ⟨⟨ds, z2⟩, h2⟩
  refine ⟨{ S.toHd with sl := fun i x e => ?_, up := S.up, dn := S.dn, ge := S.ge, nw := fun i a o => S.nw i a (back i a o), dj := fun i j a o1 o2 => S.dj i j a (back i a o1) (back j a o2), len := by rw [List.length_append, List.length_replicate, S.len], lr := by rw [List.length_append, List.length_replicate, S.lr], nod := fun i kvs e => ?_ }, ⟨fun j hj => gs hj, fun j hj => List.getElem?_append_left (by rw [S.lr]; exact hj)⟩⟩
  · rcases gr e with rfl | ⟨z1, z2⟩
    · trivial
    · rw [gs z1]; exact S.sl i x z2
  · rcases gr e with z | ⟨_, z⟩
    · cases z
    · exact S.nod i kvs z
theorem Pre.set {n q : Nat} {σx : L2.St} {ρx : Env'} {v : Option V} {s : Sl} (P : Pre n σ ρ σx ρx) : Pre n σ ρ (σx.set (n + q) v) (ρx.set (n + q) s) where
  s := fun j hj => by rw [List.getElem?_set_ne (by omega)]; exact P.s j hj
  r := fun j hj => by rw [List.getElem?_set_ne (by omega)]; exact P.r j hj
theorem par_val {b : Bool} {a : IE} {x : Expr} {m q : Nat} {σx : L2.St} {ρx : Env'} {Q : VK} (C : Ct X N sc nm cf kd k) (hc : chE N nm a sc x = true) (hf : (!b || frE a) = true) (hl : σ.length = N.length) (hr : ρ.length = N.length) (hq : q < m)
    (S : SW X.K H0 fa O0 O kd (N.length + m) H σx ρx F) (P : Pre N.length σ ρ σx ρx)
    (p : match evV cf b a ρ F with
      | .ok s F' => ∀ O' H' v, SW X.K H0 fa O0 O' kd (N.length + m) H' (σx.set (N.length + q) (some v)) (ρx.set (N.length + q) s) F' → Stp O H O' H' → Q v H'
      | .ex c fs F' => ExS X H0 fa O0 kd c fs F'
      | .no => False) : SmE X x σ H Q := by
  have S0 := S.toSR.pre P hr
  cases b with
  | false =>
    refine (sound a).ee C x hc σ ρ H fa O F Q hl S0 ?_
    unfold evV at p
    rw [if_neg Bool.false_ne_true] at p
    cases e : evE cf a ρ F with
    | no => rw [e] at p; exact p
    | ex c fs F1 => rw [e] at p; exact ExS.w' S p
    | ok d F1 =>
      rw [e] at p
      exact fun v H1 g f r => p O H1 v ((S.step g f).im r (by omega)) (S.stp g)
  | true =>
    refine sdF (by simpa using hf) C x hc σ ρ H fa O F Q hl S0 ?_
    unfold evV at p
    rw [if_pos rfl] at p
    cases e : (evE cf a ρ F).bind asL with
    | no => rw [e] at p; exact p
    | ex c fs F1 => rw [e] at p; exact ExS.w' S p
    | ok ds F1 =>
      rw [e] at p
      intro v H1 g f r
      obtain ⟨O', S', t⟩ := S.ow g f r (by omega : N.length + q < N.length + m)
      exact p O' H1 v S' t
theorem par_args {m : Nat} (C : Ct X N sc nm cf kd k) (hl : σ.length = N.length) (hr : ρ.length = N.length) : ∀ (bs : List Bool) (es : IE) (xs : List Expr), chP N nm bs es sc xs = true → ∀ (q : Nat) (O : Os) (H : Hp) (F : Fd) (σx : L2.St) (ρx : Env') (Q : List V → Hp → Prop), q + bs.length ≤ m →
    SW X.K H0 fa O0 O kd (N.length + m) H σx ρx F → Pre N.length σ ρ σx ρx →
    (match evP cf bs es ρ F with
      | .ok ss F' => ∀ O' H' σy ρy vs, SW X.K H0 fa O0 O' kd (N.length + m) H' σy ρy F' → Stp O H O' H' → Pre N.length σ ρ σy ρy → (∀ i, i < q → σy[N.length + i]? = σx[N.length + i]? ∧ ρy[N.length + i]? = ρx[N.length + i]?) → vs.length = ss.length → ss.length = bs.length →
          (∀ (i : Nat) (v : V) (s : Sl), vs[i]? = some v → ss[i]? = some s → σy[N.length + (q + i)]? = some (some v) ∧ ρy[N.length + (q + i)]? = some s) → Q vs H'
      | .ex c fs F' => ExS X H0 fa O0 kd c fs F'
      | .no => False) → SmA X xs σ H Q
  | [], es, xs, hc, q, O, H, F, σx, ρx, Q, hq, S, P, p => by
    cases es <;> first | (exact absurd hc Bool.false_ne_true) | skip
    have hc : xs.isEmpty = true := hc
    cases xs with
    | cons _ _ => cases hc
    | nil => exact sa_nil (p O H σx ρx [] S (Stp.refl _ _) P (fun i _ => ⟨rfl, rfl⟩) rfl rfl (fun i v s e => by cases e))
  | b :: bs, es, xs, hc, q, O, H, F, σx, ρx, Q, hq, S, P, p => by
    cases es <;> first | (exact absurd hc Bool.false_ne_true) | skip
    rename_i a es
    cases xs with
    | nil => cases hc
    | cons x xs =>
      have hc : (chE N nm a sc x && (!b || frE a) && chP N nm bs es sc xs) = true := hc
      rw [Bool.and_eq_true, Bool.and_eq_true] at hc
      rw [List.length_cons] at hq
      refine sa_cons (nostar_ch hc.1.1) (par_val (m := m) (q := q) C hc.1.1 hc.1.2 hl hr (by omega) S P ?_)
      have p : (match (evV cf b a ρ F).bind fun s F => (evP cf bs es ρ F).bind fun ss F => .ok (s :: ss) F with
        | .ok ss F' => ∀ O' H' σy ρy vs, SW X.K H0 fa O0 O' kd (N.length + m) H' σy ρy F' → Stp O H O' H' → Pre N.length σ ρ σy ρy → (∀ i, i < q → σy[N.length + i]? = σx[N.length + i]? ∧ ρy[N.length + i]? = ρx[N.length + i]?) → vs.length = ss.length → ss.length = bs.length + 1 →
            (∀ (i : Nat) (v : V) (s : Sl), vs[i]? = some v → ss[i]? = some s → σy[N.length + (q + i)]? = some (some v) ∧ ρy[N.length + (q + i)]? = some s) → Q vs H'
        | .ex c fs F' => ExS X H0 fa O0 kd c fs F'
        | .no => False) := p
      cases e1 : evV cf b a ρ F with
      | no => rw [e1] at p; exact p
      | ex c fs F1 => rw [e1] at p; exact p
      | ok s F1 =>
        rw [e1] at p
        intro O1 H1 v S1 t1
        refine par_args C hl hr bs es xs hc.2 (q + 1) O1 H1 F1 _ _ _ (by omega) S1 P.set ?_
        have p : (match (evP cf bs es ρ F1).bind fun ss F => .ok (s :: ss) F with
          | .ok ss F' => ∀ O' H' σy ρy vs, SW X.K H0 fa O0 O' kd (N.length + m) H' σy ρy F' → Stp O H O' H' → Pre N.length σ ρ σy ρy → (∀ i, i < q → σy[N.length + i]? = σx[N.length + i]? ∧ ρy[N.length + i]? = ρx[N.length + i]?) → vs.length = ss.length → ss.length = bs.length + 1 →
              (∀ (i : Nat) (v : V) (s : Sl), vs[i]? = some v → ss[i]? = some s → σy[N.length + (q + i)]? = some (some v) ∧ ρy[N.length + (q + i)]? = some s) → Q vs H'
          | .ex c fs F' => ExS X H0 fa O0 kd c fs F'
          | .no => False) := p
        cases e2 : evP cf bs es ρ F1 with
        | no => rw [e2] at p; exact p
        | ex c fs F2 => rw [e2] at p; exact p
        | ok ss F2 =>
          rw [e2] at p
          intro O2 H2 σy ρy vs S2 t2 P2 keep l1 l2 vals
          refine p O2 H2 σy ρy (v :: vs) S2 (t1.trans t2) P2 (fun i hi => ?_) (by rw [List.length_cons, List.length_cons, l1]) (by rw [List.length_cons, l2]) fun i w u e3 e4 => ?_
          · obtain ⟨k1, k2⟩ := keep i (by omega)
            rw [List.getElem?_set_ne (by omega)] at k1 k2
            exact ⟨k1, k2⟩
          · cases i with
            | zero =>
              cases e3
              cases e4
              obtain ⟨k1, k2⟩ := keep q (by omega)
              rw [List.getElem?_set_self (by rw [S.len]; omega)] at k1
              rw [List.getElem?_set_self (by rw [S.lr]; omega)] at k2
              exact ⟨k1, k2⟩
            | succ i =>
              have z := vals i w u (by simpa using e3) (by simpa using e4)
              rw [show N.length + (q + (i + 1)) = N.length + (q + 1 + i) by omega]
              exact z
/-- the slots anew, from more slots -/
theorem SW.re {n' : Nat} {σx : L2.St} {ρx : Env'} {σ' : L2.St} {ρ' : Env'} (S : SW X.K H0 fa O0 O kd n' H σx ρx F) (f : Nat → Nat) (hf : ∀ i j, i < N.length → j < N.length → f i = f j → i = j) (h : ∀ j s, j < N.length → ρ'[j]? = some s → ρx[f j]? = some s ∧ σ'[j]? = σx[f j]?) (l1 : σ'.length = N.length) (l2 : ρ'.length = N.length) :
    SW X.K H0 fa O0 O kd N.length H σ' ρ' F := by
  have lt : ∀ {j : Nat} {s : Sl}, ρ'[j]? = some s → j < N.length := fun e => by rw [← l2]; exact (List.getElem?_eq_some_iff.mp e).1
  have back : ∀ j a, OwnAt ρ' σ' j a → j < N.length ∧ OwnAt ρx σx (f j) a := fun j a ⟨⟨ds, h1⟩, h2⟩ => by
    obtain ⟨z1, z2⟩ := h j _ (lt h1) h1
    exact ⟨lt h1, ⟨ds, z1⟩, by rw [← z2]; exact h2⟩
  have sl' : ∀ (j : Nat) (s : Sl), ρ'[j]? = some s → SlR X.K fa O H σ'[j]? s := fun j s e => by
    obtain ⟨z1, z2⟩ := h j s (lt e) e
    rw [z2]
    exact S.sl (f j) s z1
  exact { S.toHd with
    sl := sl'
    up := S.up
    dn := S.dn
    ge := S.ge
    nw := fun j a o => S.nw (f j) a (back j a o).2
    dj := fun i j a o1 o2 => hf i j (back i a o1).1 (back j a o2).1 (S.dj (f i) (f j) a (back i a o1).2 (back j a o2).2)
    len := l1
    lr := l2
    nod := fun j kvs e => S.nod (f j) kvs (h j _ (lt e) e).1 }
theorem chP_len : ∀ {bs : List Bool} {es : IE} {xs : List Expr}, chP N nm bs es sc xs = true → bs.length = xs.length
  | [], es, xs, hc => by
    cases es <;> first | (exact absurd hc Bool.false_ne_true) | skip
    have hc : xs.isEmpty = true := hc
    cases xs with
    | nil => rfl
    | cons _ _ => cases hc
  | b :: bs, es, xs, hc => by
    cases es <;> first | (exact absurd hc Bool.false_ne_true) | skip
    rename_i a es
    cases xs with
    | nil => cases hc
    | cons x xs =>
      have hc : (chE N nm a sc x && (!b || frE a) && chP N nm bs es sc xs) = true := hc
      rw [Bool.and_eq_true] at hc
      rw [List.length_cons, List.length_cons, chP_len hc.2]
theorem star_m : ∀ {e : Expr}, nostar e = true → (match e with | .Starred _ _ => true | _ => false) = false := fun {e} h => by
  revert h
  cases e <;> first | (intro _; rfl) | (intro h; cases h)
theorem swp2 {sc : Scope} {x y : Str} {px py kp1 kp2 : Pos} {k1 k2 : Nat} {a b : Expr} {env : Env} (hs : env.scope = sc) (hk : env.scope.kind = .function) (h : swpB sc [(x, px), (y, py)] [a, b] = true) :
    swappedStores [.Tuple [.Name x px, .Name y py] k1 kp1] (.Tuple [a, b] k2 kp2) env = pure (some [x, y]) ∧ sc.names.lookup x = some .local ∧ sc.names.lookup y = some .local := by
  unfold swpB at h
  simp only [List.all_cons, List.all_nil, Bool.and_true, Bool.and_eq_true, decide_eq_true_eq, Bool.not_eq_true', List.map_cons, List.map_nil, List.head?_cons, Option.map_some, Option.getD_some] at h
  obtain ⟨⟨⟨⟨⟨⟨h1, h2⟩, h3, h4⟩, h5⟩, h6⟩, h7, h8⟩, h9⟩ := h
  refine ⟨?_, h1, h2⟩
  have hb : env.blockKind = .function := by unfold Env.blockKind; rw [hk]; rfl
  have k1' : env.kindOf x = some .local := by show env.scope.names.lookup x = _; rw [hs]; exact h1
  have k2' : env.kindOf y = some .local := by show env.scope.names.lookup y = _; rw [hs]; exact h2
  have ne : x ≠ y := by
    intro z
    rw [z] at h9
    simp at h9
  have s1 := star_m h7
  have s2 := star_m h8
  have f1 : [a, b].all (foldedForSure 8) = false := by simpa using h5
  have f2 : [a, b].all (constantsAlone 8) = false := by simpa using h6
  have pl : py.line = px.line := of_decide_eq_true h4
  have b1 : (x == y) = false := beq_eq_false_iff_ne.mpr ne
  have b2 : (y == x) = false := beq_eq_false_iff_ne.mpr (Ne.symm ne)
  unfold swappedStores
  simp only [hb, k1', k2', f1, f2, s1, s2, pl, List.any_cons, List.any_nil, List.filterMap_cons, List.filterMap_nil, List.head?_cons, Option.map_some, Option.getD_some, Expr.pos, List.length_cons, List.length_nil]
  simp [List.eraseDups, List.eraseDupsBy, List.eraseDupsBy.loop, b1, b2]
  intro z
  rcases z with z | z
  · exact absurd (s1.symm.trans z) Bool.false_ne_true
  · exact absurd (s2.symm.trans z) Bool.false_ne_true
theorem swp3 {sc : Scope} {x y w : Str} {px py pw kp1 kp2 : Pos} {k1 k2 : Nat} {a b c : Expr} {env : Env} (hs : env.scope = sc) (hk : env.scope.kind = .function) (h : swpB sc [(x, px), (y, py), (w, pw)] [a, b, c] = true) :
    swappedStores [.Tuple [.Name x px, .Name y py, .Name w pw] k1 kp1] (.Tuple [a, b, c] k2 kp2) env = pure (some [x, y, w]) ∧ sc.names.lookup x = some .local ∧ sc.names.lookup y = some .local ∧ sc.names.lookup w = some .local := by
  unfold swpB at h
  simp only [List.all_cons, List.all_nil, Bool.and_true, Bool.and_eq_true, decide_eq_true_eq, Bool.not_eq_true', List.map_cons, List.map_nil, List.head?_cons, Option.map_some, Option.getD_some] at h
  obtain ⟨⟨⟨⟨⟨⟨h1, h2, h2'⟩, h3, h4, h4'⟩, h5⟩, h6⟩, h7, h8, h8'⟩, h9⟩ := h
  refine ⟨?_, h1, h2, h2'⟩
  have hb : env.blockKind = .function := by unfold Env.blockKind; rw [hk]; rfl
  have k1' : env.kindOf x = some .local := by show env.scope.names.lookup x = _; rw [hs]; exact h1
  have k2' : env.kindOf y = some .local := by show env.scope.names.lookup y = _; rw [hs]; exact h2
  have k3' : env.kindOf w = some .local := by show env.scope.names.lookup w = _; rw [hs]; exact h2'
  simp only [List.nodup_cons, List.mem_cons, List.not_mem_nil, or_false, not_or] at h9
  obtain ⟨⟨ne, ne2⟩, ne3, _⟩ := h9
  have s1 := star_m h7
  have s2 := star_m h8
  have s3 := star_m h8'
  have f1 : [a, b, c].all (foldedForSure 8) = false := by simpa using h5
  have f2 : [a, b, c].all (constantsAlone 8) = false := by simpa using h6
  have pl : py.line = px.line := of_decide_eq_true h4
  have pl2 : pw.line = px.line := of_decide_eq_true h4'
  have b1 : (x == y) = false := beq_eq_false_iff_ne.mpr ne
  have b2 : (y == x) = false := beq_eq_false_iff_ne.mpr (Ne.symm ne)
  have b3 : (x == w) = false := beq_eq_false_iff_ne.mpr ne2
  have b4 : (w == x) = false := beq_eq_false_iff_ne.mpr (Ne.symm ne2)
  have b5 : (y == w) = false := beq_eq_false_iff_ne.mpr ne3
  have b6 : (w == y) = false := beq_eq_false_iff_ne.mpr (Ne.symm ne3)
  unfold swappedStores
  simp only [hb, k1', k2', k3', f1, f2, s1, s2, s3, pl, pl2, List.any_cons, List.any_nil, List.filterMap_cons, List.filterMap_nil, List.head?_cons, Option.map_some, Option.getD_some, Expr.pos, List.length_cons, List.length_nil]
  simp [List.eraseDups, List.eraseDupsBy, List.eraseDupsBy.loop, b1, b2, b3, b4, b5, b6]
  intro z
  rcases z with z | z | z
  · exact absurd (s1.symm.trans z) Bool.false_ne_true
  · exact absurd (s2.symm.trans z) Bool.false_ne_true
  · exact absurd (s3.symm.trans z) Bool.false_ne_true
theorem inj2 {n i j l l' : Nat} (hl : l < n) (hl' : l' < n) (e : (if l = i then n + (0 + 0) else if l = j then n + (0 + 1) else l) = (if l' = i then n + (0 + 0) else if l' = j then n + (0 + 1) else l')) : l = l' := by
  repeat' (split at e)
  all_goals omega
theorem inj3 {n i j h l l' : Nat} (hl : l < n) (hl' : l' < n) (e : (if l = i then n + (0 + 0) else if l = j then n + (0 + 1) else if l = h then n + (0 + 2) else l) = (if l' = i then n + (0 + 0) else if l' = j then n + (0 + 1) else if l' = h then n + (0 + 2) else l')) : l = l' := by
  repeat' (split at e)
  all_goals omega
theorem len2 {α : Type} {l : List α} (h : l.length = 2) : ∃ x y, l = [x, y] := by
  match l, h with
  | [x, y], _ => exact ⟨x, y, rfl⟩
theorem len3 {α : Type} {l : List α} (h : l.length = 3) : ∃ x y z, l = [x, y, z] := by
  match l, h with
  | [x, y, z], _ => exact ⟨x, y, z, rfl⟩
theorem sds_par (is : List Nat) (bs : List Bool) (es : IE) : SdD N nm cf kd k (.par is bs es) := .one (fun {X sc} C st hc H0 fa O0 O H σ ρ F W S p => by
  have hp : PoS X H0 fa O0 O kd N.length H ((evP cf bs es ρ F).toS fun ss F => .nx (setAll ρ is ss) F) W := p
  clear p
  unfold chS at hc
  split at hc
  · rename_i x px y py kt pt a b k2 pt2 pos
    rw [Bool.and_eq_true, Bool.and_eq_true] at hc
    obtain ⟨⟨c1, c2⟩, c3⟩ := hc
    obtain ⟨w1, w2, w3⟩ := swp2 (k1 := kt) (kp1 := pt) (k2 := k2) (kp2 := pt2) C.scp C.knd c3
    split at c1
    · rename_i i j
      simp only [Bool.and_eq_true, decide_eq_true_eq] at c1
      obtain ⟨⟨i1, i2⟩, i3⟩ := c1
      have l0 := chP_len c2
      refine PS.sm (ps_par (i := i) (j := j) C.calm C.nnd (by rw [C.nn]; exact i1) (by rw [C.nn]; exact i2) i3 (by rw [C.scp]; exact w2) (by rw [C.scp]; exact w3) pa_sm w1) ?_
      obtain ⟨S', P⟩ := S.pad 2
      refine par_args (m := 2) C.toCt S.len S.lr bs es [a, b] c2 0 O H F _ _ _ (by rw [l0]; exact Nat.le_refl _) S' P ?_
      cases e : evP cf bs es ρ F with
      | no => rw [e] at hp; exact hp
      | ex c fs F1 => rw [e] at hp; exact hp
      | ok ss F1 =>
        rw [e] at hp
        intro O' H' σy ρy vs S2 t P2 _ l1 l2 vals
        rw [l0] at l2
        obtain ⟨s, u, rfl⟩ := len2 l2
        obtain ⟨v, w, rfl⟩ := len2 l1
        · obtain ⟨a1, a2⟩ := vals 0 v s rfl rfl
          obtain ⟨b1, b2⟩ := vals 1 w u rfl rfl
          have li := name_lt i1
          have lj := name_lt i2
          refine ⟨v, w, rfl, hp O' _ H' (S2.re (fun l => if l = i then N.length + (0 + 0) else if l = j then N.length + (0 + 1) else l) ?_ ?_ (by rw [List.length_set, List.length_set]; exact S.len) (by show ((ρ.set i s).set j u).length = _; rw [List.length_set, List.length_set]; exact S.lr)) t⟩
          · intro l l' h1 h2 h3
            exact inj2 h1 h2 h3
          · intro l z hl ez
            have ez : ((ρ.set i s).set j u)[l]? = some z := ez
            show ρy[if l = i then N.length + (0 + 0) else if l = j then N.length + (0 + 1) else l]? = some z ∧ ((σ.set i (some v)).set j (some w))[l]? = σy[if l = i then N.length + (0 + 0) else if l = j then N.length + (0 + 1) else l]?
            by_cases e1 : l = i
            · subst e1
              rw [if_pos rfl]
              rw [List.getElem?_set_ne (Ne.symm i3), List.getElem?_set_self (by rw [S.lr]; exact li)] at ez
              cases ez
              rw [List.getElem?_set_ne (Ne.symm i3), List.getElem?_set_self (by rw [S.len]; exact li)]
              exact ⟨a2, a1.symm⟩
            · rw [if_neg e1]
              by_cases e2 : l = j
              · subst e2
                rw [if_pos rfl]
                rw [List.getElem?_set_self (by rw [List.length_set, S.lr]; exact lj)] at ez
                cases ez
                rw [List.getElem?_set_self (by rw [List.length_set, S.len]; exact lj)]
                exact ⟨b2, b1.symm⟩
              · rw [if_neg e2]
                rw [List.getElem?_set_ne (Ne.symm e2), List.getElem?_set_ne (Ne.symm e1)] at ez
                rw [List.getElem?_set_ne (Ne.symm e2), List.getElem?_set_ne (Ne.symm e1), P2.s l hl, P2.r l hl]
                exact ⟨ez, rfl⟩
    · cases c1
  · rename_i x px y py z pz kt pt a b c k2 pt2 pos
    rw [Bool.and_eq_true, Bool.and_eq_true] at hc
    obtain ⟨⟨c1, c2⟩, c3⟩ := hc
    obtain ⟨w1, w2, w3, w4⟩ := swp3 (k1 := kt) (kp1 := pt) (k2 := k2) (kp2 := pt2) C.scp C.knd c3
    split at c1
    · rename_i i j h
      simp only [Bool.and_eq_true, decide_eq_true_eq] at c1
      obtain ⟨⟨⟨⟨⟨i1, i2⟩, i3⟩, nij⟩, nih⟩, njh⟩ := c1
      have l0 := chP_len c2
      refine PS.sm (ps_par3 (i := i) (j := j) (l := h) C.calm C.nnd (by rw [C.nn]; exact i1) (by rw [C.nn]; exact i2) (by rw [C.nn]; exact i3) nij nih njh (by rw [C.scp]; exact w2) (by rw [C.scp]; exact w3) (by rw [C.scp]; exact w4) pa_sm w1) ?_
      obtain ⟨S', P⟩ := S.pad 3
      refine par_args (m := 3) C.toCt S.len S.lr bs es [a, b, c] c2 0 O H F _ _ _ (by rw [l0]; exact Nat.le_refl _) S' P ?_
      cases e : evP cf bs es ρ F with
      | no => rw [e] at hp; exact hp
      | ex c fs F1 => rw [e] at hp; exact hp
      | ok ss F1 =>
        rw [e] at hp
        intro O' H' σy ρy vs S2 t P2 _ l1 l2 vals
        rw [l0] at l2
        obtain ⟨s, u, r, rfl⟩ := len3 l2
        obtain ⟨v, w, g, rfl⟩ := len3 l1
        obtain ⟨a1, a2⟩ := vals 0 v s rfl rfl
        obtain ⟨b1, b2⟩ := vals 1 w u rfl rfl
        obtain ⟨d1, d2⟩ := vals 2 g r rfl rfl
        have li := name_lt i1
        have lj := name_lt i2
        have lh := name_lt i3
        refine ⟨v, w, g, rfl, hp O' _ H' (S2.re (fun l => if l = i then N.length + (0 + 0) else if l = j then N.length + (0 + 1) else if l = h then N.length + (0 + 2) else l) ?_ ?_ (by rw [List.length_set, List.length_set, List.length_set]; exact S.len) (by show (((ρ.set i s).set j u).set h r).length = _; rw [List.length_set, List.length_set, List.length_set]; exact S.lr)) t⟩
        · intro l l' h1 h2 h3
          exact inj3 h1 h2 h3
        · intro l z hl ez
          have ez : (((ρ.set i s).set j u).set h r)[l]? = some z := ez
          show ρy[if l = i then N.length + (0 + 0) else if l = j then N.length + (0 + 1) else if l = h then N.length + (0 + 2) else l]? = some z ∧ (((σ.set i (some v)).set j (some w)).set h (some g))[l]? = σy[if l = i then N.length + (0 + 0) else if l = j then N.length + (0 + 1) else if l = h then N.length + (0 + 2) else l]?
          by_cases e1 : l = i
          · subst e1
            rw [if_pos rfl]
            rw [List.getElem?_set_ne (Ne.symm nih), List.getElem?_set_ne (Ne.symm nij), List.getElem?_set_self (by rw [S.lr]; exact li)] at ez
            cases ez
            rw [List.getElem?_set_ne (Ne.symm nih), List.getElem?_set_ne (Ne.symm nij), List.getElem?_set_self (by rw [S.len]; exact li)]
            exact ⟨a2, a1.symm⟩
          · rw [if_neg e1]
            by_cases e2 : l = j
            · subst e2
              rw [if_pos rfl]
              rw [List.getElem?_set_ne (Ne.symm njh), List.getElem?_set_self (by rw [List.length_set, S.lr]; exact lj)] at ez
              cases ez
              rw [List.getElem?_set_ne (Ne.symm njh), List.getElem?_set_self (by rw [List.length_set, S.len]; exact lj)]
              exact ⟨b2, b1.symm⟩
            · rw [if_neg e2]
              by_cases e3 : l = h
              · subst e3
                rw [if_pos rfl]
                rw [List.getElem?_set_self (by rw [List.length_set, List.length_set, S.lr]; exact lh)] at ez
                cases ez
                rw [List.getElem?_set_self (by rw [List.length_set, List.length_set, S.len]; exact lh)]
                exact ⟨d2, d1.symm⟩
              · rw [if_neg e3]
                rw [List.getElem?_set_ne (Ne.symm e3), List.getElem?_set_ne (Ne.symm e2), List.getElem?_set_ne (Ne.symm e1)] at ez
                rw [List.getElem?_set_ne (Ne.symm e3), List.getElem?_set_ne (Ne.symm e2), List.getElem?_set_ne (Ne.symm e1), P2.s l hl, P2.r l hl]
                exact ⟨ez, rfl⟩
    · cases c1
  · cases hc) (fun _ _ => rfl)
/-- where a slot is set, if it is -/
def posI : List Nat → Nat → Option Nat
  | [], _ => none
  | i :: is, j => if i = j then some 0 else (posI is j).map (· + 1)
def setL {α : Type} (l : List α) : List Nat → List α → List α
  | i :: is, x :: xs => setL (l.set i x) is xs
  | _, _ => l
theorem setAll_L : ∀ (is : List Nat) (ss : List Sl) (ρ : Env'), setAll ρ is ss = setL ρ is ss
  | [], ss, _ => by simp [setAll, setL]
  | _ :: _, [], _ => by simp [setAll, setL]
  | i :: is, s :: ss, ρ => setAll_L is ss (ρ.set i s)
theorem posI_none : ∀ {is : List Nat} {j : Nat}, j ∉ is → posI is j = none
  | [], _, _ => rfl
  | i :: is, j, h => by
    rw [List.mem_cons, not_or] at h
    have e0 : posI (i :: is) j = if i = j then some 0 else (posI is j).map (· + 1) := rfl
    rw [e0, if_neg (fun z => h.1 z.symm), posI_none h.2]
    rfl
theorem posI_lt : ∀ (is : List Nat) (j q : Nat), posI is j = some q → q < is.length ∧ is[q]? = some j
  | [], _, _, h => by cases h
  | i :: is, j, q, h => by
    have h : (if i = j then some 0 else (posI is j).map (· + 1)) = some q := h
    split at h
    · rename_i e; cases h; exact ⟨by simp, by rw [e]; rfl⟩
    · rw [Option.map_eq_some_iff] at h
      obtain ⟨r, hr, rfl⟩ := h
      obtain ⟨h1, h2⟩ := posI_lt is j r hr
      exact ⟨by simpa using h1, by simpa using h2⟩
theorem setL_len {α : Type} : ∀ (is : List Nat) (xs l : List α), (setL l is xs).length = l.length
  | [], _, _ => by simp [setL]
  | _ :: _, [], _ => by simp [setL]
  | i :: is, x :: xs, l => by
    show (setL (l.set i x) is xs).length = _
    rw [setL_len is xs, List.length_set]
theorem setL_get {α : Type} : ∀ (is : List Nat) (xs l : List α) (j : Nat), is.Nodup → is.length = xs.length → (∀ i ∈ is, i < l.length) → (setL l is xs)[j]? = match posI is j with | some q => xs[q]? | none => l[j]?
  | [], xs, l, j, _, _, _ => by simp [setL, posI]
  | i :: is, [], l, j, _, h, _ => by cases h
  | i :: is, x :: xs, l, j, nd, hl, hi => by
    rw [List.nodup_cons] at nd
    show (setL (l.set i x) is xs)[j]? = _
    rw [setL_get is xs (l.set i x) j nd.2 (by simpa using hl) (fun k hk => by rw [List.length_set]; exact hi k (List.mem_cons_of_mem _ hk))]
    have e0 : posI (i :: is) j = if i = j then some 0 else (posI is j).map (· + 1) := rfl
    rw [e0]
    by_cases e : i = j
    · subst e
      rw [if_pos rfl, posI_none nd.1]
      show (l.set i x)[i]? = some x
      rw [List.getElem?_set_self (hi i List.mem_cons_self)]
    · rw [if_neg e]
      cases posI is j with
      | none =>
        show (l.set i x)[j]? = l[j]?
        exact List.getElem?_set_ne e
      | some q => rfl
/-- targets that are names -/
def gL : List Nat → TGs
  | [] => gNil
  | i :: is => gCons (gName i) (gL is)
theorem gL_of : ∀ (is : List Nat) (vs : List V) (σ : L2.St) (H : Hp) (Q : L2.St → Hp → Prop), is.length = vs.length → Q (setL σ is (vs.map some)) H → gL is vs σ H Q
  | [], [], σ, H, Q, _, q => ⟨rfl, q⟩
  | [], _ :: _, _, _, _, h, _ => by cases h
  | _ :: _, [], _, _, _, h, _ => by cases h
  | i :: is, v :: vs, σ, H, Q, h, q => ⟨v, vs, rfl, gL_of is vs (σ.set i (some v)) H Q (by simpa using h) q⟩
theorem pgs_names (C : Cs X N sc nm cf kd k) : ∀ (is : List Nat) (ts : List Expr), chNm N sc is ts = true → PGs X ts (gL is) ∧ (assignEach ts X.env).length = is.length ∧ (assignEach ts X.env).findIdx? (·.1) = none ∧ ∀ i ∈ is, i < N.length
  | [], ts, h => by
    have h : ts.isEmpty = true := h
    cases ts with
    | nil => exact ⟨pgs_nil, rfl, rfl, fun i hi => by cases hi⟩
    | cons _ _ => cases h
  | i :: is, ts, h => by
    unfold chNm at h
    split at h
    · rename_i x p ts
      rw [Bool.and_eq_true] at h
      obtain ⟨h1, h2, h3, h4⟩ := pgs_names C is ts h.2
      obtain ⟨n1, n2⟩ := nameT_ix h.1
      have pn : PG X (.Name x p) (gName i) := pg_name C.nnd (by rw [C.nn]; exact n1) (by rw [C.scp]; exact n2) (.inl (C.fn x))
      refine ⟨pgs_cons pn h1 (by rfl), ?_, ?_, fun j hj => ?_⟩
      · show (assignEach ts X.env).length + 1 = is.length + 1
        rw [h2]
      · show ((false, assign (.Name x p) X.env) :: assignEach ts X.env).findIdx? (·.1) = none
        rw [List.findIdx?_cons, h3]
        rfl
      · rcases List.mem_cons.mp hj with rfl | hj
        · exact name_lt n1
        · exact h4 j hj
    · cases h
theorem long_st {ts vs : List Expr} {k1 k2 : Nat} {p1 p2 : Pos} {env : Env} (h : longT ts vs = true) : swappedStores [.Tuple ts k1 p1] (.Tuple vs k2 p2) env = pure none := by
  unfold longT at h
  rw [Bool.or_eq_true] at h
  unfold swappedStores
  rcases h with h | h
  · simp [h]
  · simp only []
    repeat' (first | rfl | split)
    all_goals first | rfl | (rename_i z; exact absurd h z)
theorem sds_paru (is : List Nat) (bs : List Bool) (es : IE) : SdD N nm cf kd k (.paru is bs es) := .one (fun {X sc} C st hc H0 fa O0 O H σ ρ F W S p => by
  have hp : PoS X H0 fa O0 O kd N.length H ((evP cf bs es ρ F).toS fun ss F => .nx (setAll ρ is ss) F) W := p
  clear p
  unfold chS at hc
  split at hc
  · rename_i ts kt pt vs k2 p2 pos
    simp only [Bool.and_eq_true, decide_eq_true_eq] at hc
    obtain ⟨⟨⟨⟨⟨c1, c2⟩, c3⟩, c4⟩, c5⟩, c6⟩ := hc
    obtain ⟨g1, g2, g3, g4⟩ := pgs_names C is ts c1
    have hw : swapsWithSole [Expr.Tuple ts kt pt] (.Tuple vs k2 p2) pos.line X.env = pure false ∧ swappedStores [Expr.Tuple ts kt pt] (.Tuple vs k2 p2) X.env = pure none := by
      refine ⟨noComp_sole rfl, ?_⟩
      rw [Bool.or_eq_true] at c6
      rcases c6 with c6 | c6
      · exact unp_st C.scp c6
      · exact long_st c6
    refine PS.sm (ps_asg (pe_sm (e := .Tuple vs k2 p2)) (pg_tup C.calm g1 g2 g3) hw.1 hw.2) ?_
    have l0 := chP_len c5
    obtain ⟨S', P⟩ := S.pad bs.length
    refine sm_tup (par_args (m := bs.length) C.toCt S.len S.lr bs es vs c5 0 O H F _ _ _ (by omega) S' P ?_)
    cases e : evP cf bs es ρ F with
    | no => rw [e] at hp; exact hp
    | ex c fs F1 => rw [e] at hp; exact hp
    | ok ss F1 =>
      rw [e] at hp
      intro O' H' σy ρy xs S2 t P2 _ l1 l2 vals
      refine ⟨by rw [l1, l2]; exact Nat.le_trans c4 (show 1000 ≤ sizeLine by decide), fun p hpn => ⟨p, xs, rfl, .inl (.inl upd_same), by rw [l1, l2, c3], gL_of is xs σ _ _ (by rw [c3, l1, l2]) ?_⟩⟩
      have S3 := S2.step (Ge.new hpn) (S2.toHd.laid hpn) (H1 := upd H' p (.tup xs))
      have le : is.length = ss.length := by rw [l2, c3]
      have le' : is.length = (xs.map some).length := by rw [List.length_map, l1, le]
      have hp : ∀ O'' σ' H'', SW X.K H0 fa O0 O'' kd N.length H'' σ' (setAll ρ is ss) F1 → Stp O H O'' H'' → W.nx σ' H'' := hp
      refine hp O' _ (upd H' p (.tup xs)) (S3.re (fun l => match posI is l with | some q => N.length + (0 + q) | none => l) ?_ ?_ (by rw [setL_len]; exact S.len) (by rw [setAll_L, setL_len]; exact S.lr)) (t.trans (S2.stp (Ge.new hpn)))
      · intro a b ha hb h
        cases ea : posI is a with
        | none =>
          cases eb : posI is b with
          | none => rw [ea, eb] at h; exact h
          | some r => rw [ea, eb] at h; dsimp only at h; omega
        | some q =>
          cases eb : posI is b with
          | none => rw [ea, eb] at h; dsimp only at h; omega
          | some r =>
            rw [ea, eb] at h
            dsimp only at h
            have hqr : q = r := by omega
            subst hqr
            have z1 := (posI_lt _ _ _ ea).2
            have z2 := (posI_lt _ _ _ eb).2
            rw [z1] at z2
            exact Option.some.inj z2
      · intro l z hl ez
        rw [setAll_L, setL_get is ss ρ l c2 le (fun i hi => by rw [S.lr]; exact g4 i hi)] at ez
        rw [setL_get is (xs.map some) σ l c2 le' (fun i hi => by rw [S.len]; exact g4 i hi)]
        cases ea : posI is l with
        | none =>
          rw [ea] at ez
          dsimp only at ez ⊢
          exact ⟨by rw [P2.r l hl]; exact ez, (P2.s l hl).symm⟩
        | some q =>
          rw [ea] at ez
          dsimp only at ez ⊢
          have hq := (posI_lt _ _ _ ea).1
          obtain ⟨v, ev⟩ : ∃ v, xs[q]? = some v := ⟨xs[q]'(by omega), List.getElem?_eq_getElem (by omega)⟩
          obtain ⟨a1, a2⟩ := vals q v z ev ez
          refine ⟨a2, ?_⟩
          rw [a1, List.getElem?_map, ev]
          rfl
  · cases hc) (fun _ _ => rfl)
theorem Rps.reverse {vs : List V} {ds : List D} (h : Rps X.K fa O H vs ds) : Rps X.K fa O H vs.reverse ds.reverse := by
  induction vs generalizing ds with
  | nil => cases h; exact .nil
  | cons v vs ih =>
    cases h with
    | cons h1 h2 =>
      rw [List.reverse_cons, List.reverse_cons]
      exact (ih h2).append (.cons h1 .nil)
theorem sds_raise (c : Str) (fs : List Str) (es : IE) : SdD N nm cf kd k (.raise c fs es) := .one (fun {X sc} C st hc H0 fa O0 O H σ ρ F W S p => by
  unfold chS at hc
  split at hc
  · rename_i y p1 e0 r q pos
    simp only [Bool.and_eq_true, decide_eq_true_eq] at hc
    obtain ⟨⟨⟨⟨⟨rfl, c1⟩, c2⟩, c3⟩, c4⟩, c5⟩ := hc
    have p : PoS X H0 fa O0 O kd N.length H ((evL cf false es ρ F).toS fun ds F => if ds.length = fs.length then .ex y (fs.zip ds).reverse F else .no) W := p
    cases e : evL cf false es ρ F with
    | no => rw [e] at p; exact p.elim
    | ex c fs2 F1 =>
      rw [e] at p
      obtain ⟨E, tk, q⟩ := id p
      refine ss_raise (E := E) C.calm tk (C.nms.exc y fs c3) C.room (C.gl c1) c2 (chL_star c4) ((sound es).l C.toCt (e0 :: r) c4 σ ρ H fa O F _ S.len S.toSR ?_)
      rw [e]
      exact ExS.w S p
    | ok ds F1 =>
      rw [e] at p
      have p : PoS X H0 fa O0 O kd N.length H (if ds.length = fs.length then .ex y (fs.zip ds).reverse F1 else .no) W := p
      by_cases hl : ds.length = fs.length
      · rw [if_pos hl] at p
        obtain ⟨E, tk, q⟩ := p
        refine ss_raise (E := E) C.calm tk (C.nms.exc y fs c3) C.room (C.gl c1) c2 (chL_star c4) ((sound es).l C.toCt (e0 :: r) c4 σ ρ H fa O F _ S.len S.toSR ?_)
        rw [e]
        intro vs H1 g1 f1 ⟨r1, l1⟩
        have S1 := S.step g1 f1
        have lv : vs.length = fs.length := r1.length.trans hl
        refine ⟨lv, by rw [l1]; exact c5, fun C' d hm hd => ?_⟩
        have gn : Ge fa H1 (upd H1 d (.xd (fs.zip vs).reverse)) := Ge.new hd
        refine q _ _ _ (S1.ge.trans gn) ((S1.toHd.laid hd).os fun a _ _ _ o => S1.up a o) ⟨C', d, (fs.zip vs).reverse, rfl, hm, rfl, upd_same, fun z => S1.toHd.new hd (S1.up _ z), ?_, ?_⟩
        · rw [List.map_reverse, List.map_reverse, List.map_fst_zip (by omega), List.map_fst_zip (by omega)]
        · rw [List.map_reverse, List.map_reverse, List.map_snd_zip (by omega), List.map_snd_zip (by omega)]
          exact ((Rps.reverse r1).go (gn.go S1.ofa)).os fun a _ _ _ o => S1.up a o
      · rw [if_neg hl] at p; exact p.elim
  · cases hc) (fun _ _ => rfl)
/-- ALL statements -/
theorem soundS : ∀ s : IS, SdD N nm cf kd k s
  | .nil => sd_nil'
  | .seq s r => sd_seq (soundS s) (soundS r)
  | .asg i e => sd_asg i e
  | .own i e => sds_own i e
  | .unp tg e => sds_unp tg e
  | .par is bs es => sds_par is bs es
  | .app i e => sds_app i e
  | .seti i j e => sds_seti i j e
  | .fset b i n e => sds_fset b i n e
  | .ife t a b => sds_ife t (soundS a) (soundS b)
  | .loop tg it b => sds_loop tg it (soundS b)
  | .whl n t b => sds_whl n t (soundS b)
  | .ret e => sds_ret e
  | .retO i => sds_retO i
  | .retN => sds_retN
  | .exp e => sds_exp e
  | .pass => sds_pass
  | .brk => sds_brk
  | .cnt => sds_cnt
  | .raise c fs es => sds_raise c fs es
  | .paru is bs es => sds_paru is bs es
  | .frz i => .one (fun C st hc => by cases hc) (fun _ _ => rfl)
  | .bad => sds_bad
end
end TH
/-! A def of the text keeps its promise. -/
namespace TH
open PySem PySem.Spec PyProof.Rows L2
/-- the slots at the entry -/
def ent (n : Nat) (ds : List D) : Env' := ds.map Sl.im ++ List.replicate (n - ds.length) .no
/-- a body as a function on data -/
def runS (cf : Str → List D → Fd → Ou D) (s : IS) (n : Nat) (ds : List D) (F : Fd) : Ou D :=
  match evS cf s (ent n ds) F with
  | .nx _ F => .ok .non F
  | .rt d F => .ok d F
  | .ex c fs F => .ex c fs F
  | _ => .no
theorem ent_get {n : Nat} {ds : List D} {i : Nat} {s : Sl} (h : (ent n ds)[i]? = some s) : (∃ d, ds[i]? = some d ∧ s = .im d) ∨ s = .no := by
  unfold ent at h
  by_cases hi : i < ds.length
  · rw [List.getElem?_append_left (by simpa using hi), List.getElem?_map] at h
    cases e : ds[i]? with
    | none => rw [e] at h; cases h
    | some d => rw [e] at h; cases h; exact .inl ⟨d, rfl, rfl⟩
  · rw [List.getElem?_append_right (by simpa using hi), List.getElem?_replicate] at h
    split at h
    · cases h; exact .inr rfl
    · cases h
theorem start_get {N : List Str} {vs : List V} {i : Nat} {v : V} (h : vs[i]? = some v) : (start N vs)[i]? = some (some v) := by
  unfold L2.start
  rw [List.getElem?_append_left (by simpa using (List.getElem?_eq_some_iff.mp h).1), List.getElem?_map, h]
  rfl
section
variable {P : Program} {w : World} {K : PySem.W.Frag} {mg : Str → Option Value} {base : Heap} {kd : FK} {k : Nat} {f : Addr} {name qual : Str} {params : Arguments} {body : List Stmt} {scope : Scope} {dV kV doc pm cdv ct oc : Value} {an od : Option Addr}
  {osl : Array (Option Value)} {N ps : List Str} {nm : Str → Option (List Str × List Nat)} {cf : Str → List D → Fd → Ou D}
theorem guards_deeper {A : Around} {env : Env} (h : A.guards = some []) : (A.deeper env).guards = some [] := by
  first | exact h | (simpa [Around.deeper] using h)
/-- the slots at a def's entry -/
theorem sw_start {fa : Addr} {O : Os} {H : Hp} {F : Fd} {vs : List V} {ds : List D} (hd : Hd K fa O kd H F) (r : Rps K fa O H vs ds) (hl : vs.length ≤ N.length) : SW K H fa O O kd N.length H (start N vs) (ent N.length ds) F where
  toHd := hd
  sl := fun i s e => by
    rcases ent_get e with ⟨d, e1, rfl⟩ | rfl
    · obtain ⟨v, e2, rv⟩ := r.get e1
      exact ⟨v, start_get e2, rv⟩
    · trivial
  up := fun _ o => o
  dn := fun _ _ _ _ o => o
  ge := Ge.refl _ _
  nw := fun i a ⟨⟨es, e⟩, _⟩ => by
    rcases ent_get e with ⟨d, _, z⟩ | z <;> cases z
  dj := fun i j a ⟨⟨es, e⟩, _⟩ => by
    rcases ent_get e with ⟨d, _, z⟩ | z <;> cases z
  len := by
    unfold L2.start
    rw [List.length_append, List.length_map, List.length_replicate]
    omega
  lr := by
    unfold ent
    rw [List.length_append, List.length_map, List.length_replicate, ← r.length]
    omega
  nod := fun i kvs e => by
    rcases ent_get e with ⟨d, _, z⟩ | z <;> cases z
/-- the context of a def's body -/
abbrev bodyCx (P : Program) (w : World) (K : PySem.W.Frag) (mg : Str → Option Value) (base : Heap) (N : List Str) (qual : Str) (scope : Scope) (f : Addr) (cdv : Value) (A : Around) (outer : List Env) (st : Shared) (H : Hp) (E : XK) : Cx := cxOf (L2.CX P w) P w K mg base N qual scope f cdv A outer st H E
theorem takes_body {A : Around} {outer : List Env} {st : Shared} {H : Hp} {E : XK} : Takes (bodyCx P w K mg base N qual scope f cdv A outer st H E) (fun cls d _ H => E cls d H) := takes_of (X := bodyCx P w K mg base N qual scope f cdv A outer st H E) (E := E) rfl rfl rfl rfl
/-- a table for the lambdas of the def whose code object is cdv -/
def TabC (base : Heap) (mg : Str → Option Value) (kd : FK) (qual : Str) (cdv : Value) : Prop := ∃ c P, cdv = .ref c ∧ LamX.TabB base mg c P ∧ (P, (qual ++ ".<locals>.") ++ "<lambda>") ∈ kd.T ∧ ∀ p ∈ kd.T, p.1 = P → p.2 = (qual ++ ".<locals>.") ++ "<lambda>"
theorem tabX_of {A : Around} {outer : List Env} {st : Shared} {H : Hp} {E : XK} (h : TabC base mg kd qual cdv) : TabX (bodyCx P w K mg base N qual scope f cdv A outer st H E) kd := by
  obtain ⟨c, P0, h1, h2, h3, h4⟩ := h
  have e1 : (bodyCx P w K mg base N qual scope f cdv A outer st H E).env.qual = qual ++ ".<locals>." := rfl
  have e2 : (bodyCx P w K mg base N qual scope f cdv A outer st H E).env.code = cdv := rfl
  have e3 : (bodyCx P w K mg base N qual scope f cdv A outer st H E).base = base := rfl
  have e4 : (bodyCx P w K mg base N qual scope f cdv A outer st H E).mg = mg := rfl
  unfold TabX
  rw [e1, e2, e3, e4]
  exact ⟨c, P0, h1, h2, h3, h4⟩
/-- THE RULE for a def, by its body -/
theorem fnG_raw {sp : Sp} (lk : K.lookup f = some ⟨oc, od, .func (PySem.W.fnOf name qual params body scope dV kV doc pm an cdv ct), osl⟩) (hcd : PySem.W.codeIn K cdv qual = true) (S : FnScope N ps scope)
    (blt : ∀ x, x ∈ bNames → mg x = none) (nms : Nm P w K mg base kd k nm cf) (lam : hasH nm scope = true → TabC base mg kd qual cdv ∧ ∃ j, j + 2 ≤ k ∧ Nm P w K mg base kd j nm cf) (len : ∀ vs H Q E, sp vs H Q E → vs.length = ps.length)
    (run : ∀ (A : Around) (outer : List Env) (st : Shared) (H : Hp) (vs : List V) (Q : VK) (E : XK), Cs (bodyCx P w K mg base N qual scope f cdv A outer st H E) N scope nm cf kd k → Takes (bodyCx P w K mg base N qual scope f cdv A outer st H E) (fun cls d _ H => E cls d H) → sp vs H Q E →
      SmSs (bodyCx P w K mg base N qual scope f cdv A outer st H E) body { nx := fun _ H' => Q .non H', rt := Q } (L2.start N vs) H) :
    FnG P w K mg base (k + 1) f (PySem.W.fnOf name qual params body scope dV kV doc pm an cdv ct) ps sp := by
  refine ⟨fun A outer st H args us vs Q E hr hgd e0 hb r hsp => ?_⟩
  have hl := len _ _ _ _ hsp
  have kin : K.In st.heap := e0.mod.kin.keeps fun b o e => (e0.bs b o e).1
  have lim : st.heap.NoLimit := e0.mod.nolimit.keeps fun b o e => (e0.bs b o e).1
  have kinds : ∀ y ∈ ps.zip us, scope.names.lookup y.1 = some .local ∨ (scope.names.lookup y.1 = some .cell ∧ ((cellsFrom (st.heap.objs.size + 1) scope.names []).lookup y.1).isSome = true) := fun y hy =>
    (S.par y.1 (List.of_mem_zip (a := y.1) (b := y.2) hy).1).imp_right fun q => ⟨q, PySem.W.cellsFrom_some _ _ _ (.inl q)⟩
  refine codeAny_call_function hr.depth (kin _ _ lk) rfl S.co S.gen rfl (PySem.W.codeRec_of kin hcd) (hb _ _ _ _ (wpAny_newFunctionEnv_cells S.kind kinds fun env he s1 x => ?_))
  subst he
  refine ⟨lim.keeps x.toInCall.keep, codeAny_func ?_⟩
  have I : L2.Inv (bodyCx P w K mg base N qual scope f cdv A outer st H E) [] (L2.start N vs) H s1 := inv_start S hr.hd e0 hl r x
  have C : Cs (bodyCx P w K mg base N qual scope f cdv A outer st H E) N scope nm cf kd k := { calm := rfl, nn := rfl, nd := S.nd, scp := rfl, gd := guards_deeper hgd, room := hr.deeper _, blt := blt, nms := nms, lam := fun h => ⟨tabX_of (lam h).1, (lam h).2⟩, fn := fun _ => rfl, knd := S.kind, own := passes_of (X := bodyCx P w K mg base N qual scope f cdv A outer st H E) rfl }
  refine wpAny_mono (run A outer st H vs Q E C takes_body hsp [] s1 I) (fun fl s' hs => ?_) fun e s' hs => hs
  match fl, hs with
  | .ret u, hs => obtain ⟨v, σ', H', J, rv, q⟩ := hs; exact ⟨v, H', J.os, J.bare, J.base, J.hok, rv, q⟩
  | .next, hs => obtain ⟨σ', H', J, q⟩ := hs; exact ⟨.non, H', J.os, J.bare, J.base, J.hok, rfl, q⟩
  | .brk, hs => obtain ⟨_, _, _, q⟩ := hs; exact q.elim
  | .cont, hs => obtain ⟨_, _, _, q⟩ := hs; exact q.elim
/-- .. by the literal of its body -/
theorem fnG_of {s : IS} (lk : K.lookup f = some ⟨oc, od, .func (PySem.W.fnOf name qual params body scope dV kV doc pm an cdv ct), osl⟩) (hcd : PySem.W.codeIn K cdv qual = true) (S : FnScope N ps scope)
    (blt : ∀ x, x ∈ bNames → mg x = none) (nms : Nm P w K mg base kd k nm cf) (lam : hasH nm scope = true → TabC base mg kd qual cdv ∧ ∃ j, j + 2 ≤ k ∧ Nm P w K mg base kd j nm cf) (hs : chSs N nm s scope body = true) :
    FnG P w K mg base (k + 1) f (PySem.W.fnOf name qual params body scope dV kV doc pm an cdv ct) ps (SpD K mg kd ps.length (runS cf s N.length)) := by
  have hpl : ps.length ≤ N.length := by have := congrArg List.length S.pre; rw [List.length_take] at this; omega
  refine fnG_raw lk hcd S blt nms lam (fun vs H Q E h => h.1) fun A outer st H vs Q E C pass hsp => ?_
  obtain ⟨hl, fa, O, ds, F, hd, rp, hq⟩ := hsp
  refine (soundS s).b C body hs H fa O O H _ (ent N.length ds) F _ (sw_start hd rp (by omega)) ?_
  unfold runS at hq
  cases e : evS cf s (ent N.length ds) F with
  | nx ρ F' =>
    rw [e] at hq
    exact fun O' σ' H' S' _ => hq .non H' S'.ge (S'.fd.os S'.out) .non
  | rt d F' => rw [e] at hq; exact hq
  | ex c fs F' => rw [e] at hq; exact ⟨E, pass, hq⟩
  | br ρ F' => rw [e] at hq; exact hq.elim
  | ct ρ F' => rw [e] at hq; exact hq.elim
  | no => rw [e] at hq; exact hq.elim
end
end TH
/-! A def behind its name; a law's end. -/
namespace TH
open PySem PySem.Spec PyProof.Rows L2
section
variable {P : Program} {w : World} {K : PySem.W.Frag} {mg mb : Str → Option Value} {base : Heap} {kd : FK} {k : Nat}
/-- a def of the text, behind its name -/
theorem cal_of {x qual : Str} {st : Stmt} {f : Addr} {fd : FuncData} {N ps : List Str} {ns : List Nat} {nm : Str → Option (List Str × List Nat)} {cf : Str → List D → Fd → Ou D} {s : IS} (F : L2.Fun K x qual st f fd) (hm : mg x = some (.ref f)) (S : FnScope N ps (defScope st))
    (blt : ∀ x, x ∈ bNames → mg x = none) (nms : Nm P w K mg base kd k nm cf) (lam : hasH nm (defScope st) = true → (∀ (oc : Value) (od : Option Addr) (kV doc pm : Value) (an : Option Addr) (cdv ct : Value) (osl : Array (Option Value)), K.lookup f = some ⟨oc, od, .func (PySem.W.fnOf x qual (defArgs st) (defBody st) (defScope st) .none kV doc pm an cdv ct), osl⟩ → TabC base mg kd qual cdv) ∧ ∃ j, j + 2 ≤ k ∧ Nm P w K mg base kd j nm cf) (hs : chSs N nm s (defScope st) (defBody st) = true)
    (hb : ∀ (kV doc pm : Value) (an : Option Addr) (cdv ct : Value) (n : Nat), n ∈ ns → ∀ us ws : List Value, us.length = n → us.length + ws.length = ps.length →
      bindArgs (PySem.W.fnOf x qual (defArgs st) (defBody st) (defScope st) .none kV doc pm an cdv ct) ⟨us, (ps.drop n).zip ws⟩ = pure (ps.zip (us ++ ws)))
    (hp : ∀ (kV doc pm : Value) (an : Option Addr) (cdv ct : Value) (n : Nat) (ord : List Nat), n + ord.length = ps.length → (∀ i ∈ ord, i < ord.length) → n ≤ 9 → codeO n ord ∈ ns → ∀ us ws : List Value, us.length = n → ws.length = ord.length →
      bindArgs (PySem.W.fnOf x qual (defArgs st) (defBody st) (defScope st) .none kV doc pm an cdv ct) ⟨us, (namesO ord (ps.drop n)).zip ws⟩ = pure (ps.zip (us ++ permO .none ord ws))) : Cal P w K mg base kd (k + 1) x ps ns (runS cf s N.length) := by
  obtain ⟨oc, od, kV, doc, pm, an, cdv, ct, osl, rfl, lk, hcd⟩ := F.ex
  exact ⟨f, _, hm, F.kp, fnG_of lk hcd S blt nms (fun h => ⟨(lam h).1 _ _ _ _ _ _ _ _ _ lk, (lam h).2⟩) hs, hb kV doc pm an cdv ct, hp kV doc pm an cdv ct⟩
/-- the heap of a law's call: the script, if it is no part of the text -/
def scrH (K : PySem.W.Frag) (a : Addr) (o : Obj) (xs : List V) : Hp := fun b => if b = a ∧ K.lookup a = none then some (.frz o (.lst xs)) else none
theorem scrH_is {a b : Addr} {o : Obj} {xs : List V} {u : HO} (h : scrH K a o xs b = some u) : b = a ∧ K.lookup a = none ∧ u = .frz o (.lst xs) := by
  unfold scrH at h
  split at h
  · rename_i z; cases h; exact ⟨z.1, z.2, rfl⟩
  · cases h
/-- THE END: a law's call, by the promise of its def -/
theorem endG {fa a : Addr} {fd : FuncData} {x : Str} {sp : Sp} {t : Shared} {us : List Value} {ns : List Int} (kin : K.In t.heap) (gns : t.heap.Ns mainGlobals mg) (bns : t.heap.Ns builtinsNs mb) (bo : ∀ y : Str, y ≠ "__name__" → mb y = bootBuiltins y) (lim : t.heap.NoLimit)
    (ng : t.gens = #[]) (obj : t.heap.get? a = some { cls := .type "list", data := .seq us.toArray }) (its : IntsAre us ns) (le : ns.length ≤ sizeLine) (room : Room k callerA) (gd : callerA.guards = some [])
    (F : ∀ base : Heap, K.In base → base.Ns mainGlobals mg → FnG P w K mg base k fa fd [x] sp) (bnd : ∀ (s : Shared) (u : Value), BindsTo s fd ⟨[u], []⟩ [(x, u)])
    (prom : ∀ H : Hp, Only H → SqL K H a (ns.map V.int) → sp [.ref a] H (fun v _ => v = .bl true) fun _ _ _ => False) :
    codeAny (model P w) callerA (.call (.ref fa) ⟨[.ref a], []⟩) (fun r s' => r = .ok (.ret (.bool true)) ∧ OldK t.heap s'.heap ∧ s'.os = t.os ∧ AllBare s'.gens) t := by
  have rv : Vals (ns.map V.int) us := vals_ints its
  generalize eH : scrH K a { cls := .type "list", data := .seq us.toArray } (ns.map V.int) = H
  have isH : ∀ {b : Addr} {u : HO}, H b = some u → b = a ∧ K.lookup a = none ∧ u = .frz { cls := .type "list", data := .seq us.toArray } (.lst (ns.map V.int)) := fun h => by rw [← eH] at h; exact scrH_is h
  have noH : ∀ {b : Addr}, b ≠ a → H b = none := fun {b} h => by
    cases q : H b with
    | none => rfl
    | some u => exact absurd (isH q).1 h
  have only : Only H := fun b => by
    cases q : H b with
    | none => exact .inl rfl
    | some u => obtain ⟨_, _, rfl⟩ := isH q; exact .inr ⟨_, _, rfl⟩
  have hok : HOk P w H t.heap := fun b u q => by
    obtain ⟨rfl, _, rfl⟩ := isH q
    exact ⟨obj, by rw [List.length_map]; exact le, us, _, rv, obj⟩
  have seq : SqL K H a (ns.map V.int) := by
    cases q : K.lookup a with
    | none =>
      refine .inl (.inr ⟨{ cls := .type "list", data := .seq us.toArray }, ?_⟩)
      rw [← eH]
      exact if_pos ⟨rfl, q⟩
    | some o =>
      have e := kin a o q
      rw [obj] at e
      cases e
      exact .inr ⟨_, us.toArray, _, q, rfl, rfl, rfl, by rw [List.size_toArray, its.length]; exact le, by simpa using rv⟩
  have nodict : ∀ {b : Addr} {o : Obj} {es : Array DictEntry} {ep : Nat}, t.heap.get? b = some o → o.data = .dict es ep → H b = none := fun {b o es ep} e d => noH fun z => by
    rw [z, obj] at e
    cases e
    have d' : Data.seq us.toArray _ = Data.dict es ep := d
    cases d'
  have nsH : ∀ {b : Addr} {m : Str → Option Value}, t.heap.Ns b m → (hidT t.heap H).Ns b m := fun ⟨o, es, ep, e, d, r⟩ => ⟨o, es, ep, hidT_get e (nodict e d), d, r⟩
  have kinH : K.In (hidT t.heap H) := fun b o e => hidT_get (kin b o e) (by
    cases q : H b with
    | none => rfl
    | some u =>
      obtain ⟨rfl, z, _⟩ := isH q
      rw [z] at e
      cases e)
  have md : Mod K mg (hidT t.heap H) := ⟨kinH, nsH gns, ⟨mb, nsH bns, bo⟩, lim.elim fun mc z => ⟨mc, nsH z.1, z.2⟩⟩
  have env : Env0 P w K mg (hidT t.heap H) callerA [] t H :=
    { frames := rfl, mod := md, bs := fun b o e => of_hidT e, bsz := Nat.le_of_eq (hidT_size _ _), funs := trivial, frf := fun b z => (List.not_mem_nil z).elim, hok := hok, bare := .of_eq ng }
  refine codeAny_mono ((F _ kinH (nsH gns)).run callerA [] t H ⟨[.ref a], []⟩ [.ref a] [.ref a] _ _ room gd env (bnd t (.ref a)) (.cons rfl .nil) (prom H only seq)) fun r s' h => ?_
  match r, h with
  | .error e, h =>
    obtain ⟨_, _, _, _, _, _, _, _, _, _, _, _, z⟩ := h
    exact z.elim
  | .ok (.ret u), h =>
    obtain ⟨v, H', os, bare, un, hok', rel, ev⟩ := h
    have ev : v = .bl true := ev
    subst ev
    cases rel
    refine ⟨rfl, OldK.of_keep fun b o e => ?_, os, bare⟩
    by_cases hb : H b = none
    · exact un.keep b o e hb (fun z => (List.not_mem_nil z).elim) (by simp)
    · cases q : H b with
      | none => exact absurd q hb
      | some u =>
        obtain ⟨rfl, _, rfl⟩ := isH q
        have z := hok' b _ (un.frzs b _ _ q)
        rw [obj] at e
        cases e
        exact z.1
end
/-- the law's walk, from the promise of its def -/
theorem walkG {l : PySem.W.OpenLaw} {n k : Nat} {q : Program} {loose : List Str} {XP : (Str → Option Value) → Heap → Prop} {YP : World → Heap → Prop} {d : DefRec} {K : Params → PySem.W.Frag} {sp : World → Sp} {x : Str} (most : l.most = some n) (small : n ≤ sizeLine) (nodef : d.params.defaults = [])
    (room : Room k callerA) (gd : callerA.guards = some []) (hY : ∀ (w : World) (h : Heap), YP w h → (K w.params).In h)
    (F : ∀ (w : World) (mg : Str → Option Value) (fa : Addr) (h : Heap), (K w.params).In h → h.Ns mainGlobals mg → mg d.name = some (.ref fa) → ∃ fd : FuncData, (∀ (s : Shared) (u : Value), BindsTo s fd ⟨[u], []⟩ [(x, u)]) ∧
      ∀ base : Heap, (K w.params).In base → base.Ns mainGlobals mg → FnG l.prog w (K w.params) mg base k fa fd [x] (sp w))
    (prom : ∀ (w : World) (H : Hp) (a : Addr) (ns : List Int), ns.length ≤ n → Only H → SqL (K w.params) H a (ns.map V.int) → sp w [.ref a] H (fun v _ => v = .bl true) fun _ _ _ => False) :
    PySem.W.WalkO q loose XP YP l.row.toRowW d [] (fun f vs => PySem.call f vs) :=
  Att.attach_call most nodef fun w s₀ s mg mb fa o pm cd doc a vs ns G Y ho hd hcd hmg obj its len ng => by
    obtain ⟨fd, hb, hF⟩ := F w mg fa _ (hY w _ Y) G.T.g hmg
    exact endG (hY w _ Y) G.T.g G.T.b G.T.builtins G.T.nolimit ng obj its (Nat.le_trans len small) room gd hF hb fun H h1 h2 => prom w H a ns len h1 h2
end TH
/-! The suite of a law's own try: what is asked of a caught error. -/
namespace TH
open PySem PySem.Spec PyProof.Rows L2
/-- an expression over the caught error -/
inductive HX where
  | isi (x : Str)
  | fld (f : Str)
  | cst (d : D)
  | loc (i : Nat)
  | not (a : HX)
  | and (a b : HX)
  | or (a b : HX)
  | ife (t a b : HX)
  | tup (es : HX)
  | nil
  | cons (a es : HX)
  | bad
def HX.isAnd : HX → Bool | .and _ _ => true | _ => false
def HX.isOr : HX → Bool | .or _ _ => true | _ => false
def HX.isNot : HX → Bool | .not _ => true | _ => false
/-- local names in a suite -/
abbrev HE := List (Option D)
def bD? : Option D → Option Bool
  | some (.bl b) => some b
  | _ => none
def getH (τ : HE) (i : Nat) : Option D := match τ[i]? with | some (some d) => some d | _ => none
section
variable (hi : Str → Option Bool) (fs : List (Str × D))
mutual
def evX : HX → HE → Option D
  | .isi x, _ => (hi x).map .bl
  | .fld f, _ => fs.lookup f
  | .cst d, _ => some d
  | .loc i, τ => getH τ i
  | .not a, τ => (bD? (evX a τ)).map fun b => .bl (!b)
  | .and a b, τ => match bD? (evX a τ) with
    | some true => (bD? (evX b τ)).map .bl
    | some false => some (.bl false)
    | none => none
  | .or a b, τ => match bD? (evX a τ) with
    | some false => (bD? (evX b τ)).map .bl
    | some true => some (.bl true)
    | none => none
  | .ife t a b, τ => match bD? (evX t τ) with
    | some true => evX a τ
    | some false => evX b τ
    | none => none
  | .tup es, τ => match evXs es τ with
    | some xs => if xs.length ≤ sizeLine then some (.tup xs) else none
    | none => none
  | _, _ => none
def evXs : HX → HE → Option (List D)
  | .nil, _ => some []
  | .cons a es, τ => match evX a τ, evXs es τ with
    | some d, some ds => some (d :: ds)
    | _, _ => none
  | _, _ => none
end
end
section
variable (N : List Str) (sc : Scope) (ie : Nat)
def tokX (h : HX) (e : Expr) : Bool := (match h with | .not _ => true | .and _ _ => true | .or _ _ => true | _ => false) || plainT e
mutual
def chX : HX → Expr → Bool
  | .isi x, e => match e with
    | .Call (.Name y _) [.Name z _, .Name t _] [] _ => decide (y = "isinstance") && decide (t = x) && glB sc y && glB sc t && dbB t && varC N sc ie z
    | _ => false
  | .fld f, e => match e with
    | .Attribute (.Name z _) g _ => decide (g = f) && varC N sc ie z
    | _ => false
  | .cst d, e => match e with
    | .Constant c _ _ => constB d c
    | _ => false
  | .loc i, e => match e with
    | .Name z _ => varC N sc i z
    | _ => false
  | .not a, e => match e with
    | .UnaryOp op a' _ => decide (op = .Not) && tokX a a' && chX a a'
    | _ => false
  | .and a b, e => match e with
    | .BoolOp op (a' :: b' :: rest) pos => decide (op = .And) && tokX a a' && chX a a' && (match rest with
      | [] => tokX b b' && chX b b'
      | _ :: _ => b.isAnd && chX b (.BoolOp .And (b' :: rest) pos))
    | _ => false
  | .or a b, e => match e with
    | .BoolOp op (a' :: b' :: rest) pos => decide (op = .Or) && tokX a a' && chX a a' && (match rest with
      | [] => tokX b b' && chX b b'
      | _ :: _ => b.isOr && chX b (.BoolOp .Or (b' :: rest) pos))
    | _ => false
  | .ife t a b, e => match e with
    | .IfExp t' a' b' _ => tokX t t' && chX t t' && chX a a' && chX b b'
    | _ => false
  | .tup es, e => match e with
    | .Tuple es' _ _ => chXs es es'
    | _ => false
  | _, _ => false
def chXs : HX → List Expr → Bool
  | .nil, es => es.isEmpty
  | .cons a r, es => match es with
    | e :: es => nostar e && chX a e && chXs r es
    | [] => false
  | _, _ => false
end
end
/-- what is known of the class of a caught error -/
structure ClsOk (K : PySem.W.Frag) (mg : Str → Option Value) (C : Addr) (hi : Str → Option Bool) (ns : List Str) : Prop where
  ec : ExcC K C
  xf : XfC K C
  no : ∀ f ∈ ns, PySem.W.findIn K (.ref C) f = some none
  is : ∀ x b, hi x = some b → ∃ D, mg x = some (.ref D) ∧ PySem.W.kitOne K (.ref C) (.ref D) = some b
/-- the state of a suite -/
structure SuS (K : PySem.W.Frag) (mg : Str → Option Value) (fa : Addr) (O : Os) (kd : FK) (a : Addr) (cls : Value) (d : Option Addr) (ie : Nat) (hi : Str → Option Bool) (fs : List (Str × D)) (σ : L2.St) (H : Hp) (τ : HE) (F : Fd) : Prop extends Hd K fa O kd H F where
  ex : ∃ (C dd : Addr) (ws : List (Str × V)), cls = .ref C ∧ d = some dd ∧ H dd = some (.xd ws) ∧ ¬ O dd ∧ ws.map (·.1) = fs.map (·.1) ∧ Rps K fa O H (ws.map (·.2)) (fs.map (·.2)) ∧ ClsOk K mg C hi (fs.map (·.1))
  ei : σ[ie]? = some (some (.ref a))
  sl : ∀ (i : Nat) (x : D), τ[i]? = some (some x) → ∃ v, σ[i]? = some (some v) ∧ Rp K fa O H v x
section
variable {K : PySem.W.Frag} {mg : Str → Option Value} {fa : Addr} {O : Os} {kd : FK} {a : Addr} {cls : Value} {d : Option Addr} {ie : Nat} {hi : Str → Option Bool} {fs : List (Str × D)} {σ : L2.St} {H H2 : Hp} {τ : HE} {F : Fd}
theorem SuS.go (S : SuS K mg fa O kd a cls d ie hi fs σ H τ F) (g : Ge fa H H2) (f : FeedAt K fa O kd H2 F) : SuS K mg fa O kd a cls d ie hi fs σ H2 τ F where
  toHd := S.toHd.ge g f
  ex := by
    obtain ⟨C, dd, ws, e1, e2, e3, e4, e5, e6, e7⟩ := S.ex
    exact ⟨C, dd, ws, e1, e2, g dd _ e3 (fun z => e4 (z ▸ S.ofa)), e4, e5, e6.go (g.go S.ofa), e7⟩
  ei := S.ei
  sl := fun i x e => by
    obtain ⟨v, h1, h2⟩ := S.sl i x e
    exact ⟨v, h1, h2.go (g.go S.ofa)⟩
theorem look_both : ∀ {ws : List (Str × V)} {fs : List (Str × D)} {f : Str} {x : D}, ws.map (·.1) = fs.map (·.1) → Rps K fa O H (ws.map (·.2)) (fs.map (·.2)) → fs.lookup f = some x → ∃ v, ws.lookup f = some v ∧ Rp K fa O H v x
  | [], [], f, x, _, _, h => by cases h
  | [], _ :: _, f, x, e, _, _ => by cases e
  | _ :: _, [], f, x, e, _, _ => by cases e
  | (n, v) :: ws, (m, y) :: fs, f, x, e, r, h => by
    simp only [List.map_cons, List.cons.injEq] at e
    obtain ⟨e1, e2⟩ := e
    subst e1
    cases r with
    | cons r1 r2 =>
      rw [List.lookup_cons] at h ⊢
      cases hb : f == n with
      | true => rw [hb] at h; cases h; exact ⟨v, rfl, r1⟩
      | false => rw [hb] at h; exact look_both e2 r2 h
theorem mem_names {fs : List (Str × D)} {f : Str} {x : D} (h : fs.lookup f = some x) : f ∈ fs.map (·.1) := List.mem_map.mpr ⟨(f, x), lookup_mem h, rfl⟩
end
/-- where a suite runs -/
structure CtX (X : Cx) (N : List Str) (sc : Scope) : Prop where
  nn : X.N = N
  nd : N.Nodup
  scp : X.env.scope = sc
  isn : X.mg "isinstance" = none
section
variable {X : Cx} {N : List Str} {sc : Scope} {ie : Nat} {hi : Str → Option Bool} {fs : List (Str × D)}
theorem CtX.gl (C : CtX X N sc) {x : Str} (h : glB sc x = true) : Gl X x := by
  unfold glB at h
  split at h
  · rename_i e; show X.env.scope.names.lookup x = _; rw [C.scp]; exact e
  · cases h
theorem CtX.var (C : CtX X N sc) {a : Addr} {pn : List (Addr × Obj)} {i : Nat} {x : Str} {p : Pos} (h : varC N sc i x = true) : PE (X.suite a pn) (.Name x p) (tVar i) := by
  unfold varC at h
  simp only [Bool.and_eq_true, decide_eq_true_eq, Bool.not_eq_true'] at h
  obtain ⟨⟨⟨h1, h2⟩, h3⟩, h4⟩ := h
  refine pe_var (X := X.suite a pn) (by show X.N[i]? = _; rw [C.nn]; exact h1) ?_ (by simpa [dbB] using h3) h4
  show Vis X.env.scope x
  rw [C.scp]
  unfold visB at h2
  unfold Vis
  split at h2
  · rename_i e; exact .inl e
  · rename_i e; exact .inr (.inl e)
  · rename_i e; exact .inr (.inr e)
  · cases h2
variable (N sc ie hi fs) in
structure SdX (h : HX) : Prop where
  e : ∀ {X : Cx}, CtX X N sc → ∀ {a : Addr} {oe : Obj} {pn : List (Addr × Obj)} {cls : Value} {d : Option Addr}, Zc cls d oe → (∃ vs, oe.data = .fields vs) → ∀ (x : Expr), chX N sc ie h x = true → ∀ {fa : Addr} {O : Os} {kd : FK} {σ : L2.St} {H : Hp} {τ : HE} {F : Fd} {r : D} {Q : VK},
    SuS X.K X.mg fa O kd a cls d ie hi fs σ H τ F → evX hi fs h τ = some r → (∀ v H2, Ge fa H H2 → FeedAt X.K fa O kd H2 F → Rp X.K fa O H2 v r → Q v H2) → SmE (X.suite a ((a, oe) :: pn)) x σ H Q
  t : ∀ {X : Cx}, CtX X N sc → ∀ {a : Addr} {oe : Obj} {pn : List (Addr × Obj)} {cls : Value} {d : Option Addr}, Zc cls d oe → (∃ vs, oe.data = .fields vs) → ∀ (x : Expr), chX N sc ie h x = true → tokX h x = true → ∀ {fa : Addr} {O : Os} {kd : FK} {σ : L2.St} {H : Hp} {τ : HE} {F : Fd} {b : Bool} {Q : Bool → Hp → Prop},
    SuS X.K X.mg fa O kd a cls d ie hi fs σ H τ F → evX hi fs h τ = some (.bl b) → (∀ H2, Ge fa H H2 → FeedAt X.K fa O kd H2 F → Q b H2) → SmT (X.suite a ((a, oe) :: pn)) x σ H Q
  w : (h.isAnd || h.isOr) = true → ∀ {X : Cx}, CtX X N sc → ∀ {a : Addr} {oe : Obj} {pn : List (Addr × Obj)} {cls : Value} {d : Option Addr}, Zc cls d oe → (∃ vs, oe.data = .fields vs) → ∀ (x : Expr), chX N sc ie h x = true → ∀ {fa : Addr} {O : Os} {kd : FK} {σ : L2.St} {H : Hp} {τ : HE} {F : Fd} {b : Bool} {Q : Bool → Hp → Prop},
    SuS X.K X.mg fa O kd a cls d ie hi fs σ H τ F → evX hi fs h τ = some (.bl b) → (∀ H2, Ge fa H H2 → FeedAt X.K fa O kd H2 F → Q b H2) → SmW (X.suite a ((a, oe) :: pn)) x σ H Q
  l : ∀ {X : Cx}, CtX X N sc → ∀ {a : Addr} {oe : Obj} {pn : List (Addr × Obj)} {cls : Value} {d : Option Addr}, Zc cls d oe → (∃ vs, oe.data = .fields vs) → ∀ (xs : List Expr), chXs N sc ie h xs = true → ∀ {fa : Addr} {O : Os} {kd : FK} {σ : L2.St} {H : Hp} {τ : HE} {F : Fd} {rs : List D} {Q : List V → Hp → Prop},
    SuS X.K X.mg fa O kd a cls d ie hi fs σ H τ F → evXs hi fs h τ = some rs → (∀ vs H2, Ge fa H H2 → FeedAt X.K fa O kd H2 F → Rps X.K fa O H2 vs rs → Q vs H2) → SmA (X.suite a ((a, oe) :: pn)) xs σ H Q
theorem bD_some {o : Option D} {b : Bool} (h : bD? o = some b) : o = some (.bl b) := by
  unfold bD? at h
  split at h
  · cases h; rfl
  · cases h
theorem SdX.plain {h : HX} (he : ∀ {X : Cx}, CtX X N sc → ∀ {a : Addr} {oe : Obj} {pn : List (Addr × Obj)} {cls : Value} {d : Option Addr}, Zc cls d oe → (∃ vs, oe.data = .fields vs) → ∀ (x : Expr), chX N sc ie h x = true → ∀ {fa : Addr} {O : Os} {kd : FK} {σ : L2.St} {H : Hp} {τ : HE} {F : Fd} {r : D} {Q : VK},
    SuS X.K X.mg fa O kd a cls d ie hi fs σ H τ F → evX hi fs h τ = some r → (∀ v H2, Ge fa H H2 → FeedAt X.K fa O kd H2 F → Rp X.K fa O H2 v r → Q v H2) → SmE (X.suite a ((a, oe) :: pn)) x σ H Q)
    (hw : (h.isAnd || h.isOr) = false) (hn : h.isNot = false) (hl : ∀ xs, chXs N sc ie h xs = false) : SdX N sc ie hi fs h where
  e := he
  t := fun C _ _ _ _ _ hz hf x hc ht _ _ _ _ _ _ _ b Q S ev k => st_plain (by
    cases h <;> first | (cases hw; done) | (cases hn; done) | skip
    all_goals (unfold tokX at ht; rw [Bool.false_or] at ht; exact ht)) (he C hz hf x hc S ev fun v H2 g f r => ⟨b, by cases r; rfl, k H2 g f⟩)
  w := fun z => by rw [hw] at z; cases z
  l := fun C _ _ _ _ _ hz hf xs hc => by rw [hl] at hc; cases hc
theorem sx_isi (x : Str) : SdX N sc ie hi fs (.isi x) := .plain (fun {X} C {a oe pn cls d} hz hf e hc {fa O kd σ H τ F r Q} S ev k => by
  unfold chX at hc
  split at hc
  · rename_i y p1 z p2 t p3 q
    simp only [Bool.and_eq_true, decide_eq_true_eq] at hc
    obtain ⟨⟨⟨⟨⟨rfl, rfl⟩, c1⟩, c2⟩, c3⟩, c4⟩ := hc
    have ev : (hi t).map D.bl = some r := ev
    rw [Option.map_eq_some_iff] at ev
    obtain ⟨b, eb, rfl⟩ := ev
    obtain ⟨Cc, dd, ws, rfl, rfl, e3, e4, e5, e6, T⟩ := S.ex
    obtain ⟨Da, hm, hk⟩ := T.is t b eb
    refine PE.sm (pe_callB (X := X.suite a ((a, oe) :: pn)) (id := "isinstance") (r := fun vs H Q => SmC (X.suite a ((a, oe) :: pn)) (.builtin "isinstance") vs H Q) cr_sm (C.gl c1) C.isn (by decide +kernel) (pa_sm (es := [.Name z p2, .Name t p3])) (by decide) (by decide) rfl rfl) ?_
    refine sa_cons rfl (PE.sm (C.var c4) ⟨.ref a, S.ei, ?_⟩)
    refine sa_cons rfl (PE.sm (pe_glob (X := X.suite a ((a, oe) :: pn)) (v := .ref Da) (C.gl c2) hm rfl (by simpa [dbB] using c3)) (sa_nil ?_))
    exact err_isi T.ec hz hf e3 (cv := .ref Da) (fun u ru => ru) hk (k _ H (Ge.refl _ _) S.fd (.bl b))
  · cases hc) rfl rfl (fun _ => rfl)
theorem sx_fld (f : Str) : SdX N sc ie hi fs (.fld f) := .plain (fun {X} C {a oe pn cls d} hz hf e hc {fa O kd σ H τ F r Q} S ev k => by
  unfold chX at hc
  split at hc
  · rename_i z p1 g p2
    simp only [Bool.and_eq_true, decide_eq_true_eq] at hc
    obtain ⟨rfl, c1⟩ := hc
    have ev : fs.lookup g = some r := ev
    obtain ⟨Cc, dd, ws, rfl, rfl, e3, e4, e5, e6, T⟩ := S.ex
    obtain ⟨v, ev2, rv⟩ := look_both e5 e6 ev
    exact PE.sm (pe_xf T.xf (T.no g (mem_names ev)) hz hf (C.var c1)) ⟨.ref a, S.ei, rfl, rfl, dd, ws, v, rfl, e3, ev2, k v H (Ge.refl _ _) S.fd rv⟩
  · cases hc) rfl rfl (fun _ => rfl)
theorem sx_loc (i : Nat) : SdX N sc ie hi fs (.loc i) := .plain (fun {X} C {a oe pn cls d} hz hf e hc {fa O kd σ H τ F r Q} S ev k => by
  unfold chX at hc
  split at hc
  · have ev : getH τ i = some r := ev
    unfold getH at ev
    split at ev
    · rename_i y ey
      cases ev
      obtain ⟨v, h1, h2⟩ := S.sl i _ ey
      exact PE.sm (C.var hc) ⟨v, h1, k v H (Ge.refl _ _) S.fd h2⟩
    · cases ev
  · cases hc) rfl rfl (fun _ => rfl)
theorem sx_no {h : HX} (hc' : ∀ x, chX N sc ie h x = false) (hw : (h.isAnd || h.isOr) = false) (hn : h.isNot = false) (hl : ∀ xs, chXs N sc ie h xs = false) : SdX N sc ie hi fs h := .plain (fun {X} C {a oe pn cls d} hz hf e hc => by rw [hc'] at hc; cases hc) hw hn hl
theorem sx_cst (c : D) : SdX N sc ie hi fs (.cst c) := .plain (fun {X} C {a oe pn cls d} hz hf e hc {fa O kd σ H τ F r Q} S ev k => by
  unfold chX at hc
  split at hc
  · cases ev
    unfold constB at hc
    split at hc
    · simp only [decide_eq_true_eq] at hc; subst hc; exact PE.sm pe_int (k _ H (Ge.refl _ _) S.fd (.int _))
    · simp only [decide_eq_true_eq] at hc; subst hc; exact PE.sm pe_bl (k _ H (Ge.refl _ _) S.fd (.bl _))
    · simp only [decide_eq_true_eq] at hc; subst hc; exact PE.sm pe_str (k _ H (Ge.refl _ _) S.fd (.str _))
    · exact PE.sm pe_non (k _ H (Ge.refl _ _) S.fd .non)
    · cases hc
  · cases hc) rfl rfl (fun _ => rfl)
theorem sx_not {h : HX} (ih : SdX N sc ie hi fs h) : SdX N sc ie hi fs (.not h) where
  e := fun {X} C {a oe pn cls d} hz hf x hc {fa O kd σ H τ F r Q} S ev k => by
    unfold chX at hc
    split at hc
    · simp only [Bool.and_eq_true, decide_eq_true_eq] at hc
      obtain ⟨⟨rfl, c1⟩, c2⟩ := hc
      have ev : (bD? (evX hi fs h τ)).map (fun b => D.bl (!b)) = some r := ev
      rw [Option.map_eq_some_iff] at ev
      obtain ⟨b, eb, rfl⟩ := ev
      exact sm_notT (ih.e C hz hf _ c2 S (bD_some eb) fun v H2 g f r => ⟨b, by cases r; rfl, k _ H2 g f (.bl _)⟩)
    · cases hc
  t := fun {X} C {a oe pn cls d} hz hf x hc ht {fa O kd σ H τ F b Q} S ev k => by
    unfold chX at hc
    split at hc
    · simp only [Bool.and_eq_true, decide_eq_true_eq] at hc
      obtain ⟨⟨rfl, c1⟩, c2⟩ := hc
      have ev : (bD? (evX hi fs h τ)).map (fun b => D.bl (!b)) = some (.bl b) := ev
      rw [Option.map_eq_some_iff] at ev
      obtain ⟨b', eb, e2⟩ := ev
      cases e2
      exact st_not (ih.t C hz hf _ c2 c1 S (bD_some eb) fun H2 g f => k H2 g f)
    · cases hc
  w := fun z => by cases z
  l := fun {X} C {a oe pn cls d} hz hf xs hc => by cases hc
theorem chX_andI {a b : HX} {x : Expr} (h : chX N sc ie (.and a b) x = true) : ∃ a' b' rest pos, x = .BoolOp .And (a' :: b' :: rest) pos ∧ tokX a a' = true ∧ chX N sc ie a a' = true ∧ ((rest = [] ∧ tokX b b' = true ∧ chX N sc ie b b' = true) ∨ (rest ≠ [] ∧ b.isAnd = true ∧ chX N sc ie b (.BoolOp .And (b' :: rest) pos) = true)) := by
  unfold chX at h
  split at h
  · rename_i op a' b' rest pos
    simp only [Bool.and_eq_true, decide_eq_true_eq] at h
    obtain ⟨⟨⟨rfl, h1⟩, h2⟩, h3⟩ := h
    refine ⟨_, _, _, _, rfl, h1, h2, ?_⟩
    split at h3
    · rw [Bool.and_eq_true] at h3; exact .inl ⟨rfl, h3.1, h3.2⟩
    · rw [Bool.and_eq_true] at h3; exact .inr ⟨by simp, h3.1, h3.2⟩
  · cases h
theorem chX_orI {a b : HX} {x : Expr} (h : chX N sc ie (.or a b) x = true) : ∃ a' b' rest pos, x = .BoolOp .Or (a' :: b' :: rest) pos ∧ tokX a a' = true ∧ chX N sc ie a a' = true ∧ ((rest = [] ∧ tokX b b' = true ∧ chX N sc ie b b' = true) ∨ (rest ≠ [] ∧ b.isOr = true ∧ chX N sc ie b (.BoolOp .Or (b' :: rest) pos) = true)) := by
  unfold chX at h
  split at h
  · rename_i op a' b' rest pos
    simp only [Bool.and_eq_true, decide_eq_true_eq] at h
    obtain ⟨⟨⟨rfl, h1⟩, h2⟩, h3⟩ := h
    refine ⟨_, _, _, _, rfl, h1, h2, ?_⟩
    split at h3
    · rw [Bool.and_eq_true] at h3; exact .inl ⟨rfl, h3.1, h3.2⟩
    · rw [Bool.and_eq_true] at h3; exact .inr ⟨by simp, h3.1, h3.2⟩
  · cases h
/-- how a chain's value comes -/
theorem ev_and {a b : HX} {τ : HE} {r : D} (h : evX hi fs (.and a b) τ = some r) : (evX hi fs a τ = some (.bl false) ∧ r = .bl false) ∨ (evX hi fs a τ = some (.bl true) ∧ ∃ k, evX hi fs b τ = some (.bl k) ∧ r = .bl k) := by
  have h : (match bD? (evX hi fs a τ) with | some true => (bD? (evX hi fs b τ)).map D.bl | some false => some (.bl false) | none => none) = some r := h
  split at h
  · rename_i e
    rw [Option.map_eq_some_iff] at h
    obtain ⟨k, hk, rfl⟩ := h
    exact .inr ⟨bD_some e, k, bD_some hk, rfl⟩
  · rename_i e; cases h; exact .inl ⟨bD_some e, rfl⟩
  · cases h
theorem ev_or {a b : HX} {τ : HE} {r : D} (h : evX hi fs (.or a b) τ = some r) : (evX hi fs a τ = some (.bl true) ∧ r = .bl true) ∨ (evX hi fs a τ = some (.bl false) ∧ ∃ k, evX hi fs b τ = some (.bl k) ∧ r = .bl k) := by
  have h : (match bD? (evX hi fs a τ) with | some false => (bD? (evX hi fs b τ)).map D.bl | some true => some (.bl true) | none => none) = some r := h
  split at h
  · rename_i e
    rw [Option.map_eq_some_iff] at h
    obtain ⟨k, hk, rfl⟩ := h
    exact .inr ⟨bD_some e, k, bD_some hk, rfl⟩
  · rename_i e; cases h; exact .inl ⟨bD_some e, rfl⟩
  · cases h
theorem sx_and {p q : HX} (hp : SdX N sc ie hi fs p) (hq : SdX N sc ie hi fs q) : SdX N sc ie hi fs (.and p q) := by
  have w : ∀ {X : Cx}, CtX X N sc → ∀ {a : Addr} {oe : Obj} {pn : List (Addr × Obj)} {cls : Value} {d : Option Addr}, Zc cls d oe → (∃ vs, oe.data = .fields vs) → ∀ (x : Expr), chX N sc ie (.and p q) x = true → ∀ {fa : Addr} {O : Os} {kd : FK} {σ : L2.St} {H : Hp} {τ : HE} {F : Fd} {b : Bool} {Q : Bool → Hp → Prop},
    SuS X.K X.mg fa O kd a cls d ie hi fs σ H τ F → evX hi fs (.and p q) τ = some (.bl b) → (∀ H2, Ge fa H H2 → FeedAt X.K fa O kd H2 F → Q b H2) → SmW (X.suite a ((a, oe) :: pn)) x σ H Q := by
    intro X C a oe pn cls d hz hf x hc fa O kd σ H τ F b Q S ev k
    obtain ⟨a', b', rest, pos, rfl, c1, c2, c3⟩ := chX_andI hc
    rcases ev_and ev with ⟨e1, e2⟩ | ⟨e1, kk, e2, e3⟩
    · cases e2
      exact sw_and (hp.t C hz hf a' c2 c1 S e1 fun H2 g f => by rw [if_neg Bool.false_ne_true]; exact k H2 g f)
    · cases e3
      refine sw_and (hp.t C hz hf a' c2 c1 S e1 fun H2 g f => ?_)
      rw [if_pos rfl]
      rcases c3 with ⟨rfl, t1, t2⟩ | ⟨_, t1, t2⟩
      · exact sw_and1 (hq.t C hz hf b' t2 t1 (S.go g f) e2 fun H3 g3 f3 => k H3 (g.trans g3) f3)
      · exact hq.w (by rw [t1]; rfl) C hz hf _ t2 (S.go g f) e2 fun H3 g3 f3 => k H3 (g.trans g3) f3
  exact {
    e := fun {X} C {a oe pn cls d} hz hf x hc {fa O kd σ H τ F r Q} S ev k => by
      obtain ⟨a', b', rest, pos, rfl, c1, c2, c3⟩ := chX_andI hc
      rcases ev_and ev with ⟨e1, rfl⟩ | ⟨e1, kk, e2, rfl⟩
      · exact sm_and (hp.e C hz hf a' c2 S e1 fun v H2 g f r => ⟨false, by cases r; rfl, by rw [if_neg Bool.false_ne_true]; exact k _ H2 g f (.bl _)⟩)
      · refine sm_and (hp.e C hz hf a' c2 S e1 fun v H2 g f r => ⟨true, by cases r; rfl, ?_⟩)
        rw [if_pos rfl]
        rcases c3 with ⟨rfl, t1, t2⟩ | ⟨_, t1, t2⟩
        · exact sm_one (hq.e C hz hf b' t2 (S.go g f) e2 fun v3 H3 g3 f3 r3 => k v3 H3 (g.trans g3) f3 r3)
        · exact hq.e C hz hf _ t2 (S.go g f) e2 fun v3 H3 g3 f3 r3 => k v3 H3 (g.trans g3) f3 r3
    t := fun {X} C {a oe pn cls d} hz hf x hc ht {fa O kd σ H τ F b Q} S ev k => (w C hz hf x hc S ev k).t
    w := fun _ => w
    l := fun {X} C {a oe pn cls d} hz hf xs hc => by cases hc }
theorem sx_or {p q : HX} (hp : SdX N sc ie hi fs p) (hq : SdX N sc ie hi fs q) : SdX N sc ie hi fs (.or p q) := by
  have w : ∀ {X : Cx}, CtX X N sc → ∀ {a : Addr} {oe : Obj} {pn : List (Addr × Obj)} {cls : Value} {d : Option Addr}, Zc cls d oe → (∃ vs, oe.data = .fields vs) → ∀ (x : Expr), chX N sc ie (.or p q) x = true → ∀ {fa : Addr} {O : Os} {kd : FK} {σ : L2.St} {H : Hp} {τ : HE} {F : Fd} {b : Bool} {Q : Bool → Hp → Prop},
    SuS X.K X.mg fa O kd a cls d ie hi fs σ H τ F → evX hi fs (.or p q) τ = some (.bl b) → (∀ H2, Ge fa H H2 → FeedAt X.K fa O kd H2 F → Q b H2) → SmW (X.suite a ((a, oe) :: pn)) x σ H Q := by
    intro X C a oe pn cls d hz hf x hc fa O kd σ H τ F b Q S ev k
    obtain ⟨a', b', rest, pos, rfl, c1, c2, c3⟩ := chX_orI hc
    rcases ev_or ev with ⟨e1, e2⟩ | ⟨e1, kk, e2, e3⟩
    · cases e2
      exact sw_or (hp.t C hz hf a' c2 c1 S e1 fun H2 g f => by rw [if_pos rfl]; exact k H2 g f)
    · cases e3
      refine sw_or (hp.t C hz hf a' c2 c1 S e1 fun H2 g f => ?_)
      rw [if_neg Bool.false_ne_true]
      rcases c3 with ⟨rfl, t1, t2⟩ | ⟨_, t1, t2⟩
      · exact sw_or1 (hq.t C hz hf b' t2 t1 (S.go g f) e2 fun H3 g3 f3 => k H3 (g.trans g3) f3)
      · exact hq.w (by rw [t1]; cases q.isAnd <;> rfl) C hz hf _ t2 (S.go g f) e2 fun H3 g3 f3 => k H3 (g.trans g3) f3
  exact {
    e := fun {X} C {a oe pn cls d} hz hf x hc {fa O kd σ H τ F r Q} S ev k => by
      obtain ⟨a', b', rest, pos, rfl, c1, c2, c3⟩ := chX_orI hc
      rcases ev_or ev with ⟨e1, rfl⟩ | ⟨e1, kk, e2, rfl⟩
      · exact sm_or (hp.e C hz hf a' c2 S e1 fun v H2 g f r => ⟨true, by cases r; rfl, by rw [if_pos rfl]; exact k _ H2 g f (.bl _)⟩)
      · refine sm_or (hp.e C hz hf a' c2 S e1 fun v H2 g f r => ⟨false, by cases r; rfl, ?_⟩)
        rw [if_neg Bool.false_ne_true]
        rcases c3 with ⟨rfl, t1, t2⟩ | ⟨_, t1, t2⟩
        · exact sm_one (hq.e C hz hf b' t2 (S.go g f) e2 fun v3 H3 g3 f3 r3 => k v3 H3 (g.trans g3) f3 r3)
        · exact hq.e C hz hf _ t2 (S.go g f) e2 fun v3 H3 g3 f3 r3 => k v3 H3 (g.trans g3) f3 r3
    t := fun {X} C {a oe pn cls d} hz hf x hc ht {fa O kd σ H τ F b Q} S ev k => (w C hz hf x hc S ev k).t
    w := fun _ => w
    l := fun {X} C {a oe pn cls d} hz hf xs hc => by cases hc }
theorem sx_ife {t p q : HX} (ht : SdX N sc ie hi fs t) (hp : SdX N sc ie hi fs p) (hq : SdX N sc ie hi fs q) : SdX N sc ie hi fs (.ife t p q) := .plain (fun {X} C {a oe pn cls d} hz hf e hc {fa O kd σ H τ F r Q} S ev k => by
  unfold chX at hc
  split at hc
  · simp only [Bool.and_eq_true] at hc
    obtain ⟨⟨⟨c1, c2⟩, c3⟩, c4⟩ := hc
    have ev : (match bD? (evX hi fs t τ) with | some true => evX hi fs p τ | some false => evX hi fs q τ | none => none) = some r := ev
    split at ev
    · rename_i e
      exact sm_if (ht.t C hz hf _ c2 c1 S (bD_some e) fun H2 g f => by rw [if_pos rfl]; exact hp.e C hz hf _ c3 (S.go g f) ev fun v3 H3 g3 f3 r3 => k v3 H3 (g.trans g3) f3 r3)
    · rename_i e
      exact sm_if (ht.t C hz hf _ c2 c1 S (bD_some e) fun H2 g f => by rw [if_neg Bool.false_ne_true]; exact hq.e C hz hf _ c4 (S.go g f) ev fun v3 H3 g3 f3 r3 => k v3 H3 (g.trans g3) f3 r3)
    · cases ev
  · cases hc) rfl rfl (fun _ => rfl)
theorem sx_tup {es : HX} (ih : SdX N sc ie hi fs es) : SdX N sc ie hi fs (.tup es) := .plain (fun {X} C {a oe pn cls d} hz hf e hc {fa O kd σ H τ F r Q} S ev k => by
  unfold chX at hc
  split at hc
  · have ev : (match evXs hi fs es τ with | some xs => if xs.length ≤ sizeLine then some (.tup xs) else none | none => none) = some r := ev
    split at ev
    · rename_i xs ex
      split at ev
      · rename_i hl
        cases ev
        exact sm_tup (ih.l C hz hf _ hc S ex fun vs H2 g f r => ⟨by rw [r.length]; exact hl, (S.toHd.ge g f).newT (fun v H3 g3 f3 r3 => k v H3 (g.trans g3) f3 r3) r⟩)
      · cases ev
    · cases ev
  · cases hc) rfl rfl (fun _ => rfl)
theorem sx_nil : SdX N sc ie hi fs .nil where
  e := fun {X} C {a oe pn cls d} hz hf x hc => by cases hc
  t := fun {X} C {a oe pn cls d} hz hf x hc => by cases hc
  w := fun z => by cases z
  l := fun {X} C {a oe pn cls d} hz hf xs hc {fa O kd σ H τ F rs Q} S ev k => by
    have hc : xs.isEmpty = true := hc
    cases xs with
    | nil => cases ev; exact sa_nil (k [] H (Ge.refl _ _) S.fd .nil)
    | cons _ _ => cases hc
theorem sx_cons {p es : HX} (hp : SdX N sc ie hi fs p) (hs : SdX N sc ie hi fs es) : SdX N sc ie hi fs (.cons p es) where
  e := fun {X} C {a oe pn cls d} hz hf x hc => by cases hc
  t := fun {X} C {a oe pn cls d} hz hf x hc => by cases hc
  w := fun z => by cases z
  l := fun {X} C {a oe pn cls d} hz hf xs hc {fa O kd σ H τ F rs Q} S ev k => by
    cases xs with
    | nil => cases hc
    | cons x xs =>
      have hc : (nostar x && chX N sc ie p x && chXs N sc ie es xs) = true := hc
      simp only [Bool.and_eq_true] at hc
      obtain ⟨⟨c1, c2⟩, c3⟩ := hc
      have ev : (match evX hi fs p τ, evXs hi fs es τ with | some d, some ds => some (d :: ds) | _, _ => none) = some rs := ev
      split at ev
      · rename_i y ys e1 e2
        cases ev
        refine sa_cons c1 (hp.e C hz hf x c2 S e1 fun v H2 g f r => hs.l C hz hf xs c3 (S.go g f) e2 fun vs H3 g3 f3 r3 => k (v :: vs) H3 (g.trans g3) f3 (.cons (r.go (g3.go S.ofa)) r3))
      · cases ev
theorem soundX : ∀ h : HX, SdX N sc ie hi fs h
  | .isi x => sx_isi x
  | .fld f => sx_fld f
  | .cst c => sx_cst c
  | .loc i => sx_loc i
  | .not a => sx_not (soundX a)
  | .and a b => sx_and (soundX a) (soundX b)
  | .or a b => sx_or (soundX a) (soundX b)
  | .ife t a b => sx_ife (soundX t) (soundX a) (soundX b)
  | .tup es => sx_tup (soundX es)
  | .nil => sx_nil
  | .cons a es => sx_cons (soundX a) (soundX es)
  | .bad => sx_no (fun _ => rfl) rfl rfl (fun _ => rfl)
end
end TH
section
set_option maxHeartbeats 1000000
/-! A def that tells what came: its promise. -/
namespace TH
open PySem PySem.Spec PyProof.Rows L2
inductive HS where
  | asg (i : Nat) (e : HX)
  | ifr (t e : HX)
  | ret (e : HX)
def setH (τ : HE) (i : Nat) (d : D) : HE := τ.set i (some d)
def evHS (hi : Str → Option Bool) (fs : List (Str × D)) : List HS → HE → Option D
  | [], _ => none
  | .asg i e :: r, τ => match evX hi fs e τ with
    | some d => evHS hi fs r (setH τ i d)
    | none => none
  | .ifr t e :: r, τ => match bD? (evX hi fs t τ) with
    | some true => evX hi fs e τ
    | some false => evHS hi fs r τ
    | none => none
  | .ret e :: _, τ => evX hi fs e τ
section
variable (N : List Str) (sc : Scope) (ie : Nat)
def chHS : List HS → List Stmt → Bool
  | [], _ => false
  | .asg i h :: r, sts => match sts with
    | .Assign [.Name x _] e _ :: rest => nameT N sc sc i x && decide (i ≠ ie) && decide (i < N.length) && chX N sc ie h e && noComp e && chHS r rest
    | _ => false
  | .ifr t h :: r, sts => match sts with
    | .If t' [.Return (some e) _] [] _ :: rest => tokX t t' && chX N sc ie t t' && chX N sc ie h e && chHS r rest
    | _ => false
  | .ret h :: r, sts => match sts with
    | [.Return (some e) _] => r.isEmpty && chX N sc ie h e
    | _ => false
end
section
variable {X : Cx} {N : List Str} {sc : Scope} {ie : Nat} {hi : Str → Option Bool} {fs : List (Str × D)}
theorem SuS.set {K : PySem.W.Frag} {mg : Str → Option Value} {fa : Addr} {O : Os} {kd : FK} {a : Addr} {cls : Value} {d : Option Addr} {σ : L2.St} {H : Hp} {τ : HE} {F : Fd} {i : Nat} {v : V} {x : D} (S : SuS K mg fa O kd a cls d ie hi fs σ H τ F) (r : Rp K fa O H v x) (ne : i ≠ ie) (hl : i < σ.length) : SuS K mg fa O kd a cls d ie hi fs (σ.set i (some v)) H (setH τ i x) F where
  toHd := S.toHd
  ex := S.ex
  ei := by rw [List.getElem?_set_ne ne]; exact S.ei
  sl := fun j y e => by
    unfold setH at e
    rcases set_get e with ⟨e1, e2⟩ | ⟨e1, e2⟩
    · subst e1
      cases e2
      exact ⟨v, by rw [List.getElem?_set_self hl], r⟩
    · obtain ⟨w, h1, h2⟩ := S.sl j y e2
      exact ⟨w, by rw [List.getElem?_set_ne e1]; exact h1, h2⟩
theorem soundHS (C : CtX X N sc) (fn : ∀ x, X.fn x = true) {a : Addr} {oe : Obj} {pn : List (Addr × Obj)} {cls : Value} {d : Option Addr} (hz : Zc cls d oe) (hf : ∃ vs, oe.data = .fields vs) {fa : Addr} {O : Os} {kd : FK} {F : Fd} {r : D} {W : Ends} :
    ∀ (hs : List HS) (sts : List Stmt), chHS N sc ie hs sts = true → ∀ {σ : L2.St} {H : Hp} {τ : HE}, σ.length = N.length → SuS X.K X.mg fa O kd a cls d ie hi fs σ H τ F → evHS hi fs hs τ = some r → (∀ v H2, Ge fa H H2 → FeedAt X.K fa O kd H2 F → Rp X.K fa O H2 v r → W.rt v H2) →
      SmSs (X.suite a ((a, oe) :: pn)) sts W σ H
  | [], _, hc, _, _, _, _, _, _, _ => by cases hc
  | .asg i h :: rs, sts, hc, σ, H, τ, hl, S, ev, k => by
    unfold chHS at hc
    split at hc
    · rename_i x p e pos rest
      simp only [Bool.and_eq_true, decide_eq_true_eq] at hc
      obtain ⟨⟨⟨⟨⟨c1, c2⟩, c3⟩, c4⟩, c5⟩, c6⟩ := hc
      have ev : (match evX hi fs h τ with | some d => evHS hi fs rs (setH τ i d) | none => none) = some r := ev
      split at ev
      · rename_i y ey
        obtain ⟨h1, h2⟩ := nameT_ix c1
        refine PSs.sm (pss_cons (ps_set (X := X.suite a ((a, oe) :: pn)) (show X.N.Nodup by rw [C.nn]; exact C.nd) (show X.N[i]? = some x by rw [C.nn]; exact h1) (show L2.Loc X.env.scope x by rw [C.scp]; exact h2) pe_sm (noComp_sw c5) (.inl (fn x))) pss_sm) ?_
        refine (soundX h).e C hz hf e c4 S ey fun v H2 g f rv => ?_
        exact soundHS C fn hz hf rs rest c6 (by rw [List.length_set]; exact hl) ((S.go g f).set rv c2 (by rw [hl]; exact c3)) ev fun v3 H3 g3 f3 r3 => k v3 H3 (g.trans g3) f3 r3
      · cases ev
    · cases hc
  | .ifr t h :: rs, sts, hc, σ, H, τ, hl, S, ev, k => by
    unfold chHS at hc
    split at hc
    · rename_i t' e p2 p3 rest
      simp only [Bool.and_eq_true] at hc
      obtain ⟨⟨⟨c1, c2⟩, c3⟩, c4⟩ := hc
      have ev : (match bD? (evX hi fs t τ) with | some true => evX hi fs h τ | some false => evHS hi fs rs τ | none => none) = some r := ev
      split at ev
      · rename_i eb
        refine PSs.sm (pss_cons (ps_if pt_sm (pss_one (ps_ret pe_sm)) pss_nil) (pss_sm (sts := rest))) ?_
        refine (soundX t).t C hz hf t' c2 c1 S (bD_some eb) fun H2 g f => ?_
        rw [if_pos rfl]
        exact (soundX h).e C hz hf e c3 (S.go g f) ev fun v3 H3 g3 f3 r3 => k v3 H3 (g.trans g3) f3 r3
      · rename_i eb
        refine PSs.sm (pss_cons (ps_if pt_sm (pss_one (ps_ret (pe_sm (e := e)))) pss_nil) (pss_sm (sts := rest))) ?_
        refine (soundX t).t C hz hf t' c2 c1 S (bD_some eb) fun H2 g f => ?_
        rw [if_neg Bool.false_ne_true]
        exact soundHS C fn hz hf rs rest c4 hl (S.go g f) ev fun v3 H3 g3 f3 r3 => k v3 H3 (g.trans g3) f3 r3
      · cases ev
    · cases hc
  | .ret h :: rs, sts, hc, σ, H, τ, hl, S, ev, k => by
    unfold chHS at hc
    split at hc
    · rw [Bool.and_eq_true] at hc
      exact PSs.sm (pss_one (ps_ret pe_sm)) ((soundX h).e C hz hf _ hc.2 S ev k)
    · cases hc
end
/-- the fields, read back -/
def fldsD : List D → Option (List (Str × D))
  | [] => some []
  | .tup [.str n, d] :: r => (fldsD r).map ((n, d) :: ·)
  | _ => none
theorem fldsD_of : ∀ fs : List (Str × D), fldsD (fs.map fun p => D.tup [.str p.1, p.2]) = some fs
  | [] => rfl
  | (n, d) :: r => by
    show (fldsD (r.map fun p => D.tup [.str p.1, p.2])).map ((n, d) :: ·) = _
    rw [fldsD_of r]; rfl
/-- what such a def tells: w with a value, else what its suite says of an error -/
def gHrd (w : Str) (hr : Str → Str → Option Bool) (re : Str) (names : List Str) (hs : List HS) (n : Nat) : List D → Fd → Ou D := fun ds F =>
  match ds with
  | [.bl true, d] => .ok (.tup [.str w, d]) F
  | [.bl false, .str c, .tup es] => match fldsD es with
    | some fs => if decide (hr c re = some true) && (fs.map (·.1)).all names.contains then (match evHS (hr c) fs hs (List.replicate n none) with
      | some r => .ok r F
      | none => .no) else .no
    | none => .no
  | _ => .no
/-- the classes of errors, as far as they are asked for -/
def XcOk (K : PySem.W.Frag) (mg : Str → Option Value) (hr : Str → Str → Option Bool) (re : Str) (names : List Str) : Prop :=
  ∃ CS, mg re = some (.ref CS) ∧ ∀ c, hr c re = some true → ∃ C, mg c = some (.ref C) ∧ PySem.W.exmOne K (.ref C) (.ref CS) = some true ∧ ClsOk K mg C (hr c) names
def chHB (N : List Str) (sg : Scope) (ie : Nat) (hs : List HS) (w a re : Str) (bg : List Stmt) : Bool := match bg with
  | [.Try [.Return (some (.Tuple [.Constant (.str w') _ _, .Call (.Name a' _) [] [] _] _ _)) _] [.ExceptHandler (some (.Name re' _)) (some en) (b0 :: suite) _] [] [] _] =>
    decide (w' = w) && decide (a' = a) && decide (re' = re) && decide (N[ie]? = some en) && decide (sg.names.lookup en = some .local) && glB sg re && dbB re && chHS N sg ie hs (b0 :: suite)
  | _ => false
theorem ClsOk.sub {K : PySem.W.Frag} {mg : Str → Option Value} {C : Addr} {hi : Str → Option Bool} {ns ms : List Str} (h : ClsOk K mg C hi ns) (s : ∀ x ∈ ms, x ∈ ns) : ClsOk K mg C hi ms := ⟨h.ec, h.xf, fun f hf => h.no f (s f hf), h.is⟩
theorem he_none {n i : Nat} {x : D} : ¬ ((List.replicate n (none : Option D))[i]? = some (some x)) := fun h => by
  rw [List.getElem?_replicate] at h
  split at h <;> cases h
/-- THE RULE for a def that tells what came -/
theorem hrd_of {P : Program} {w : World} {K : PySem.W.Frag} {mg : Str → Option Value} {base : Heap} {kd : FK} {x a re wd : Str} {hr : Str → Str → Option Bool} {names : List Str} {hs : List HS} {ie : Nat} {st : Stmt} {gA : Addr} {fd : FuncData} {N : List Str}
    (F : L2.Fun K x x st gA fd) (hm : mg x = some (.ref gA)) (Sg : FnScope N [a] (defScope st)) (hN : N[0]? = some a) (hva : visB (defScope st) a = true) (hda : dbB a = true) (hca : (a == ("__classdict__" : Str)) = false) (isn : mg "isinstance" = none) (xc : XcOk K mg hr re names)
    (hc : chHB N (defScope st) ie hs wd a re (defBody st) = true)
    (hb : ∀ (kV doc pm : Value) (an : Option Addr) (cdv ct : Value) (us : List Value), us.length = 1 → bindArgs (PySem.W.fnOf x x (defArgs st) (defBody st) (defScope st) .none kV doc pm an cdv ct) ⟨us, []⟩ = pure ([a].zip us)) :
    HrdD P w K mg base kd x a (gHrd wd hr re names hs N.length) := by
  obtain ⟨oc, od, kV, doc, pm, an, cdv, ct, osl, rfl, lk, hcd⟩ := F.ex
  have hv : Vis (defScope st) a := by
    unfold visB at hva
    unfold Vis
    split at hva
    · rename_i e; exact .inl e
    · rename_i e; exact .inr (.inl e)
    · rename_i e; exact .inr (.inr e)
    · cases hva
  refine ⟨gA, N, defArgs st, defBody st, defScope st, .none, kV, doc, pm, cdv, ct, oc, an, od, osl, hm, F.kp, lk, hcd, L2.Binds.all (fun us e => hb kV doc pm an cdv ct us e), Sg, hN, hv, hda, hca, ?_⟩
  intro A stk s H f c' q fa O Fd0 m Q S hco act nx hex
  obtain ⟨d0, F0, e0⟩ := hex
  generalize defBody st = bg at hc ⊢
  unfold chHB at hc
  split at hc
  · rename_i w' j1 q1 a' q2 q3 kt q4 q5 re' q6 en b0 suite q7 q8
    simp only [Bool.and_eq_true, decide_eq_true_eq] at hc
    obtain ⟨⟨⟨⟨⟨⟨⟨rfl, rfl⟩, rfl⟩, c1⟩, c2⟩, c3⟩, c4⟩, c5⟩ := hc
    obtain ⟨CS, hCS, cls⟩ := xc
    have CX : CtX (hCx P w K mg base N x (defScope st) gA cdv A stk s H).nox N (defScope st) := ⟨rfl, Sg.nd, rfl, isn⟩
    have iel : ie < N.length := (List.getElem?_eq_some_iff.mp c1).1
    have hre : Gl (hCx P w K mg base N x (defScope st) gA cdv A stk s H).nox re' := by
      unfold glB at c3
      split at c3
      · rename_i e; exact e
      · cases c3
    refine PSs.sm (pss_one (ps_try_as (X := (hCx P w K mg base N x (defScope st) gA cdv A stk s H).nox) (c := .ref CS) (i := ie) (Wout := fun _ _ _ _ => False)
      (tb := fun W D σ H' => ∃ Ech : XK, (∀ cls d σ' H', Ech cls d H' → W cls d σ' H') ∧ σ[0]? = some (some (.ref f)) ∧ H' c' = some (LamX.CodeO c' q) ∧ H' = H ∧ LamPo K mg fa O kd m H Ech (fun v H2 => ∀ p, H2 p = none → D.rt (.ref p) (upd H2 p (.tup [.str w', v]))))
      (ts := fun a cls d D σ H' => σ.length = N.length → ∃ hi fs τ F r, SuS K mg fa O kd a cls d ie hi fs σ H' τ F ∧ evHS hi fs hs τ = some r ∧ ∀ v H2, Ge fa H' H2 → FeedAt K fa O kd H2 F → Rp K fa O H2 v r → D.rt v H2)
      rfl rfl Sg.nd c1 c2 ⟨hre, by simpa [dbB] using c4, .inl hCS⟩ LamX.takes0 (fun W pn xe tk _ => ?_) (fun a oe cls d pn hz hf => ?_))) ?_
    · refine ⟨fun pins s' σ H' D I h => ?_⟩
      obtain ⟨Ech, hW, h1, h2, h3, h4⟩ := h
      refine (pss_one (ps_ret (pe_sm (X := (hCx P w K mg base N x (defScope st) gA cdv A stk s H).tr pn xe)))).run pins s' σ H' D I ?_
      refine sm_tup (sa_cons rfl (PE.sm pe_str (sa_cons rfl (PE.sm (act W pn xe Ech q2 q3 tk hW) ⟨h1, h2, h3, ?_⟩))))
      show LamPo K mg fa O kd m H Ech _
      cases m with
      | ok d F1 => exact fun v H2 g f r => sa_nil ⟨(show 2 ≤ sizeLine by decide), fun p hp => h4 v H2 g f r p hp⟩
      | ex c fs F1 => exact h4
      | no => exact h4
    · refine ⟨fun pins s' σ H' D I h => ?_⟩
      obtain ⟨hi, fs, τ, F1, r, S1, ev, k⟩ := h (I.len)
      exact soundHS CX (fun _ => rfl) hz hf hs (b0 :: suite) c5 I.len S1 ev k pins s' I
    · refine ⟨fun cls d H' => ∃ c fs F', m = .ex c fs F' ∧ Ge fa H H' ∧ FeedAt K fa O kd H' F' ∧ ExR K mg fa O H' cls d c fs, ?_, rfl, hco, rfl, ?_⟩
      · rintro cls' d σ' H' ⟨c, fs, F', rfl, g, f1, exr⟩
        have e0 : (match gHrd w' hr re' names hs N.length [.bl false, .str c, .tup (fs.map fun p => D.tup [.str p.1, p.2])] F' with | .ok r F2 => Ou.ok r F2 | _ => .no) = .ok d0 F0 := e0
        have eg : gHrd w' hr re' names hs N.length [.bl false, .str c, .tup (fs.map fun p => D.tup [.str p.1, p.2])] F' = (if decide (hr c re' = some true) && (fs.map (·.1)).all names.contains then (match evHS (hr c) fs hs (List.replicate N.length none) with | some r => Ou.ok r F' | none => .no) else .no) := by
          show (match fldsD (fs.map fun p => D.tup [.str p.1, p.2]) with | some fs => _ | none => _) = _
          rw [fldsD_of]
        rw [eg] at e0
        by_cases hcond : (decide (hr c re' = some true) && (fs.map (·.1)).all names.contains) = true
        · rw [if_pos hcond] at e0
          simp only [Bool.and_eq_true, decide_eq_true_eq] at hcond
          obtain ⟨k1, k2⟩ := hcond
          cases er : evHS (hr c) fs hs (List.replicate N.length none) with
          | none => rw [er] at e0; cases e0
          | some r =>
            rw [er] at e0
            cases e0
            obtain ⟨C, hmC, hex, ok⟩ := cls c k1
            obtain ⟨C', dd, ws, x1, x2, x3, x4, x5, x6, x7⟩ := exr
            rw [hmC] at x2
            cases x2
            refine ⟨true, by rw [x1]; exact hex, fun _ a2 na hl => ?_, fun z => by cases z⟩
            refine ⟨hr c, fs, List.replicate N.length none, F0, d0, { toHd := S.ge g f1, ex := ⟨C, dd, ws, x1, x3, x4, x5, x6, x7, ok.sub fun y hy => ?_⟩, ei := ?_, sl := fun i x e => absurd e he_none }, er, fun v H2 g2 f2 rv => ?_⟩
            · simpa using List.all_eq_true.mp k2 y hy
            · rw [List.length_set] at hl
              rw [List.getElem?_set_self (by rw [hl]; exact iel)]
            · refine nx d0 F0 ?_ v H2 (g.trans g2) f2 rv
              show (match gHrd w' hr re' names hs N.length [.bl false, .str c, .tup (fs.map fun p => D.tup [.str p.1, p.2])] F0 with | .ok r F2 => Ou.ok r F2 | _ => .no) = _
              rw [eg, if_pos (by simp only [Bool.and_eq_true, decide_eq_true_eq]; exact ⟨k1, k2⟩), er]
        · rw [if_neg hcond] at e0
          cases e0
      · cases m with
        | ok d F1 =>
          intro v H2 g f r p hp
          exact (S.ge g f).newT (fun v3 H3 g3 f3 r3 => nx (.tup [.str w', d]) F1 rfl v3 H3 (g.trans g3) f3 r3) (.cons (.str _) (.cons r .nil)) p hp
        | ex c fs F1 => exact fun cls od H2 g f exr => ⟨c, fs, F1, rfl, g, f, exr⟩
        | no => cases e0
  · cases hc
end TH
end
section
set_option maxHeartbeats 1000000
/-! A law's end, where defs of the text make lambdas. -/
namespace TH
open PySem PySem.Spec PyProof.Rows L2
section
variable {P : Program} {w : World} {K : PySem.W.Frag} {mg mb : Str → Option Value} {k : Nat}
/-- the heap of a law's call: the tables, and the script, if it is no part of the text -/
def scrT (K : PySem.W.Frag) (a : Addr) (o : Obj) (xs : List V) (ts : List Addr) : Hp := fun b => if b = a ∧ K.lookup a = none then some (.frz o (.lst xs)) else if b ∈ ts then some (.tbl #[]) else none
theorem scrT_is {a b : Addr} {o : Obj} {xs : List V} {ts : List Addr} {u : HO} (h : scrT K a o xs ts b = some u) : (b = a ∧ K.lookup a = none ∧ u = .frz o (.lst xs)) ∨ (b ∈ ts ∧ u = .tbl #[]) := by
  unfold scrT at h
  split at h
  · rename_i z; cases h; exact .inl ⟨z.1, z.2, rfl⟩
  · split at h
    · rename_i z; cases h; exact .inr ⟨z, rfl⟩
    · cases h
/-- THE END: a law's call, by the promise of its def; cs: the code objects and their tables -/
theorem endT {fa a : Addr} {cs : List (Addr × Addr)} {fd : FuncData} {x : Str} {sp : Sp} {t : Shared} {us : List Value} {ns : List Int} (kin : K.In t.heap) (gns : t.heap.Ns mainGlobals mg) (bns : t.heap.Ns builtinsNs mb) (bo : ∀ y : Str, y ≠ "__name__" → mb y = bootBuiltins y) (lim : t.heap.NoLimit)
    (ng : t.gens = #[]) (cd : ∀ p ∈ cs, PySem.W.CodeHd t.heap p.1 p.2 ∧ t.heap.get? p.2 = some (PySem.W.tabObj #[])) (nk : ∀ p ∈ cs, K.lookup p.2 = none)
    (bmn : ∃ (bm : Addr) (ob : Obj), mg "__builtins__" = some (.ref bm) ∧ bm ≠ builtinsNs ∧ t.heap.get? bm = some ob ∧ ob.cls = .type "module" ∧ ob.dict = some builtinsNs ∧ ob.data = .plain)
    (obj : t.heap.get? a = some { cls := .type "list", data := .seq us.toArray }) (its : IntsAre us ns) (le : ns.length ≤ sizeLine) (room : Room k callerA) (gd : callerA.guards = some [])
    (F : ∀ base : Heap, K.In base → base.Ns mainGlobals mg → (∀ p ∈ cs, LamX.TabB base mg p.1 p.2) → FnG P w K mg base k fa fd [x] sp) (bnd : ∀ (s : Shared) (u : Value), BindsTo s fd ⟨[u], []⟩ [(x, u)])
    (prom : ∀ H : Hp, (∀ p ∈ cs, H p.2 = some (.tbl #[])) → SqL K H a (ns.map V.int) → sp [.ref a] H (fun v _ => v = .bl true) fun _ _ _ => False) :
    codeAny (model P w) callerA (.call (.ref fa) ⟨[.ref a], []⟩) (fun r s' => r = .ok (.ret (.bool true)) ∧ OldK t.heap s'.heap ∧ s'.os = t.os ∧ AllBare s'.gens) t := by
  have rv : Vals (ns.map V.int) us := vals_ints its
  have isTab : ∀ {b : Addr}, b ∈ cs.map (·.2) → t.heap.get? b = some (PySem.W.tabObj #[]) := fun {b} hb => by
    obtain ⟨p, hp, rfl⟩ := List.mem_map.mp hb
    exact (cd p hp).2
  have aNo : a ∉ cs.map (·.2) := fun z => by
    have q := isTab z
    rw [obj] at q
    cases congrArg Obj.data (Option.some.inj q)
  generalize eH : scrT K a { cls := .type "list", data := .seq us.toArray } (ns.map V.int) (cs.map (·.2)) = H
  have isH : ∀ {b : Addr} {u : HO}, H b = some u → (b = a ∧ K.lookup a = none ∧ u = .frz { cls := .type "list", data := .seq us.toArray } (.lst (ns.map V.int))) ∨ (b ∈ cs.map (·.2) ∧ u = .tbl #[]) := fun h => by rw [← eH] at h; exact scrT_is h
  have noH : ∀ {b : Addr}, b ≠ a → b ∉ cs.map (·.2) → H b = none := fun {b} h1 h2 => by
    cases q : H b with
    | none => rfl
    | some u =>
      rcases isH q with z | z
      · exact absurd z.1 h1
      · exact absurd z.1 h2
  have tabH : ∀ p ∈ cs, H p.2 = some (.tbl #[]) := fun p hp => by
    have m : p.2 ∈ cs.map (·.2) := List.mem_map.mpr ⟨p, hp, rfl⟩
    rw [← eH]
    unfold scrT
    rw [if_neg (fun z : p.2 = a ∧ K.lookup a = none => aNo (z.1 ▸ m)), if_pos m]
  have hok : HOk P w H t.heap := fun b u q => by
    rcases isH q with ⟨rfl, _, rfl⟩ | ⟨m, rfl⟩
    · exact ⟨obj, by rw [List.length_map]; exact le, us, _, rv, obj⟩
    · exact isTab m
  have seq : SqL K H a (ns.map V.int) := by
    cases q : K.lookup a with
    | none =>
      refine .inl (.inr ⟨{ cls := .type "list", data := .seq us.toArray }, ?_⟩)
      rw [← eH]
      exact if_pos ⟨rfl, q⟩
    | some o =>
      have e := kin a o q
      rw [obj] at e
      cases e
      exact .inr ⟨_, us.toArray, _, q, rfl, rfl, rfl, by rw [List.size_toArray, its.length]; exact le, by simpa using rv⟩
  have plainH : ∀ {b : Addr} {o : Obj}, t.heap.get? b = some o → (∀ vs n, o.data ≠ .seq vs n) → o.data ≠ .fields #[] → H b = none := fun {b o} e d1 d2 => by
    cases q : H b with
    | none => rfl
    | some u =>
      rcases isH q with ⟨rfl, _, _⟩ | ⟨m, _⟩
      · rw [obj] at e; cases e; exact (d1 _ _ rfl).elim
      · rw [isTab m] at e; cases e; exact (d2 rfl).elim
  have nodict : ∀ {b : Addr} {o : Obj} {es : Array DictEntry} {ep : Nat}, t.heap.get? b = some o → o.data = .dict es ep → H b = none := fun {b o es ep} e d => plainH e (fun vs n z => by rw [d] at z; cases z) (fun z => by rw [d] at z; cases z)
  have nsH : ∀ {b : Addr} {m : Str → Option Value}, t.heap.Ns b m → (hidT t.heap H).Ns b m := fun ⟨o, es, ep, e, d, r⟩ => ⟨o, es, ep, hidT_get e (nodict e d), d, r⟩
  have kinH : K.In (hidT t.heap H) := fun b o e => hidT_get (kin b o e) (by
    cases q : H b with
    | none => rfl
    | some u =>
      rcases isH q with ⟨rfl, z, _⟩ | ⟨m, _⟩
      · rw [z] at e; cases e
      · obtain ⟨p, hp, rfl⟩ := List.mem_map.mp m
        rw [nk p hp] at e; cases e)
  have md : Mod K mg (hidT t.heap H) := ⟨kinH, nsH gns, ⟨mb, nsH bns, bo⟩, lim.elim fun mc z => ⟨mc, nsH z.1, z.2⟩⟩
  have tb : ∀ p ∈ cs, LamX.TabB (hidT t.heap H) mg p.1 p.2 := fun p hp => by
    obtain ⟨cp, tp⟩ := cd p hp
    refine ⟨?_, ?_, fun z => ?_⟩
    · obtain ⟨o, vs, file, tf, flags, tg, inF, text, tt, e1, e2, e3, e4, r⟩ := cp
      refine ⟨o, vs, file, tf, flags, tg, inF, text, tt, hidT_get e1 (plainH e1 (fun us n z => by rw [e3] at z; cases z) (fun z => ?_)), e2, e3, e4, r⟩
      rw [e3] at z
      cases z
      simp at e4
    · obtain ⟨bm, ob, b1, b2, b3, b4, b5, b6⟩ := bmn
      refine ⟨bm, ob, b1, b2, fun q => ?_, fun q => ?_, hidT_get b3 (plainH b3 (fun us n z => by rw [b6] at z; cases z) (fun z => by rw [b6] at z; cases z)), b4, b5, b6⟩
      · obtain ⟨o, es, ep, e, d, _⟩ := gns
        rw [q, e] at b3; cases b3; rw [d] at b6; cases b6
      · rw [q, tp] at b3; cases b3; cases b6
    · obtain ⟨o, es, ep, e, d, _⟩ := gns
      rw [z, tp] at e; cases e; cases d
  have env : Env0 P w K mg (hidT t.heap H) callerA [] t H :=
    { frames := rfl, mod := md, bs := fun b o e => of_hidT e, bsz := Nat.le_of_eq (hidT_size _ _), funs := trivial, frf := fun b z => (List.not_mem_nil z).elim, hok := hok, bare := .of_eq ng }
  refine codeAny_mono ((F _ kinH (nsH gns) tb).run callerA [] t H ⟨[.ref a], []⟩ [.ref a] [.ref a] _ _ room gd env (bnd t (.ref a)) (.cons rfl .nil) (prom H tabH seq)) fun r s' h => ?_
  match r, h with
  | .error e, h =>
    obtain ⟨_, _, _, _, _, _, _, _, _, _, _, _, z⟩ := h
    exact z.elim
  | .ok (.ret u), h =>
    obtain ⟨v, H', os, bare, un, hok', rel, ev⟩ := h
    have ev : v = .bl true := ev
    subst ev
    cases rel
    have keeps : ∀ b o, b ∉ cs.map (·.2) → t.heap.get? b = some o → s'.heap.get? b = some o := fun b o nb e => by
      cases q : H b with
      | none => exact un.keep b o e q (fun z => (List.not_mem_nil z).elim) (by simp)
      | some u =>
        rcases isH q with ⟨rfl, _, rfl⟩ | ⟨m, _⟩
        · have z := hok' b _ (un.frzs b _ _ q)
          rw [obj] at e
          cases e
          exact z.1
        · exact absurd m nb
    have more : ∀ p ∈ cs, ∃ ps : Array Value, s'.heap.get? p.2 = some { cls := .none, data := .fields ps } := fun p hp => by
      obtain ⟨ps, z⟩ := un.tbls p.2 #[] (tabH p hp)
      exact ⟨_, hok' p.2 _ z⟩
    refine ⟨rfl, ⟨fun b o e => ?_, fun b o e => ?_⟩, os, bare⟩
    · by_cases hb : b ∈ cs.map (·.2)
      · obtain ⟨p, hp, rfl⟩ := List.mem_map.mp hb
        obtain ⟨ps, hm⟩ := more p hp
        obtain ⟨cp, tp⟩ := cd p hp
        rw [tp] at e
        cases e
        exact .inr (.inl ⟨(cp.tab tp).isCodeTable, rfl, #[], ps, rfl, by rw [Array.empty_append]; exact hm⟩)
      · exact .inl (keeps b o hb e)
    · by_cases hb : b ∈ cs.map (·.2)
      · obtain ⟨p, hp, rfl⟩ := List.mem_map.mp hb
        obtain ⟨ps, hm⟩ := more p hp
        exact ⟨_, hm⟩
      · exact ⟨o, keeps b o hb e⟩
end
/-- the law's walk, from the promise of its def; ts: the tables of the defs that make lambdas -/
theorem walkT {l : PySem.W.OpenLaw} {n k : Nat} {q : Program} {loose : List Str} {XP : (Str → Option Value) → Heap → Prop} {YP : World → Heap → Prop} {d : DefRec} {K : Params → PySem.W.Frag} {x : Str} {ts : List Addr} (most : l.most = some n) (small : n ≤ sizeLine) (nodef : d.params.defaults = [])
    (room : Room k callerA) (gd : callerA.guards = some []) (hY : ∀ (w : World) (h : Heap), YP w h → (K w.params).In h) (hT : ∀ (w : World) (h : Heap), YP w h → ∀ P ∈ ts, h.get? P = some (PySem.W.tabObj #[]))
    (F : ∀ (w : World) (mg : Str → Option Value) (fa : Addr) (h : Heap), (K w.params).In h → h.Ns mainGlobals mg → mg d.name = some (.ref fa) → ∃ (fd : FuncData) (cs : List (Addr × Addr)) (sp : Sp), (∀ (s : Shared) (u : Value), BindsTo s fd ⟨[u], []⟩ [(x, u)]) ∧
      (∀ p ∈ cs, p.2 ∈ ts ∧ PySem.W.codeHdIn (K w.params) p.1 p.2 = true ∧ (K w.params).lookup p.2 = none) ∧
      (∀ base : Heap, (K w.params).In base → base.Ns mainGlobals mg → (∀ p ∈ cs, LamX.TabB base mg p.1 p.2) → FnG l.prog w (K w.params) mg base k fa fd [x] sp) ∧
      ∀ (H : Hp) (a : Addr) (ns : List Int), ns.length ≤ n → (∀ z ∈ ns, Builtin.Int.intBits z ≤ 1048576) → (∀ p ∈ cs, H p.2 = some (.tbl #[])) → SqL (K w.params) H a (ns.map V.int) → sp [.ref a] H (fun v _ => v = .bl true) fun _ _ _ => False) :
    PySem.W.WalkO q loose XP YP l.row.toRowW d [] (fun f vs => PySem.call f vs) :=
  Att.attach_callB most nodef fun w s₀ s mg mb fa o pm cd doc a vs ns G Y ho hd hcd hmg obj its len bits ng => by
    obtain ⟨fd, cs, sp, hb, hc, hF, prom⟩ := F w mg fa _ (hY w _ Y) G.T.g hmg
    exact endT (cs := cs) (hY w _ Y) G.T.g G.T.b G.T.builtins G.T.nolimit ng (fun p hp => ⟨PySem.W.codeHd_of_K (hY w _ Y) (hc p hp).2.1, hT w _ Y _ (hc p hp).1⟩) (fun p hp => (hc p hp).2.2) G.T.bmain obj its (Nat.le_trans len small) room gd hF hb fun H h1 h2 => prom H a ns len bits h1 h2
end TH
end
/-! The record is made; the law's def. -/
namespace TH
open PySem PySem.Spec PyProof.Rows L2
/-- the record at the start -/
def F0 (u : Nms) (m : Nat) (ns : List Int) : Fd := { dic := .dic u, cells := ns.take m, at_ := 0, left := 0, count := 0 }
/-- a new record of the script's first cells -/
def spFeed (K : PySem.W.Frag) (nu : Nms) (m : Nat) : Sp := fun vs H Q _ => ∃ (a : Addr) (ns : List Int), vs = [.ref a] ∧ SqL K H a (ns.map V.int) ∧ ∀ (f c : Addr) (H2 : Hp), (∀ b u, H b = some u → H2 b = some u) → H f = none → f ≠ c → H2 f = some (.dK (fldV nu c (F0 nu m ns))) → H2 c = some (.lst ((ns.take m).map V.int)) → Q (.ref f) H2
section
variable {X : Cx} {N : List Str} {sc : Scope} {nm : Str → Option (List Str × List Nat)} {cf : Str → List D → Fd → Ou D} {k : Nat} {H : Hp} {σ : L2.St} {Q : VK} {kd : FK}
theorem cut_take (xs : List V) (m : Nat) : cutV xs none (some (m : Int)) = xs.take m := by
  unfold cutV
  rw [HT.sIx_none, HT.sIx_nat, List.drop_zero, Nat.sub_zero]
  exact List.take_eq_take_iff.mpr (by omega)
theorem merge_fld {u : Nms} {c : Addr} {F : Fd} : mergeK [] (fldV u c F) = fldV u c F := by
  have d1 : ∀ {a b : Str}, keyN a b = true → ¬ ((Sum.inr a : Key) = Sum.inr b) := fun h => by unfold keyN at h; exact of_decide_eq_true h
  have k := keyN_of u
  have a1 := d1 k.k01
  have a2 := d1 k.k02
  have a3 := d1 k.k03
  have a4 := d1 k.k12
  have a5 := d1 k.k13
  have a6 := d1 k.k23
  simp [mergeK, putK, fldV, a1, a2, a3, a4, a5, a6]
/-- {'cells': list(script[:m]), 'at': 0, 'left': 0, 'count': 0} -/
theorem feed_run {E : XK} {nu : Nms} {m : Nat} {p0 p1 p2 p3 p4 p5 p6 p7 p8 p9 q1 q2 q3 q4 q5 : Pos} {j1 j2 j3 j4 j5 j6 j7 j8 : Nat} {a : Addr} (C : Ct X N sc nm cf kd k) (hv : varC N sc 0 "_law_script" = true) (hg : glB sc "list" = true) (hσ : σ[0]? = some (some (.ref a))) (hsp : spFeed X.K nu m [.ref a] H Q E) :
    SmSs X [.Return (some (.Dict [some (.Constant (.str (nu.key 0)) j1 p1), some (.Constant (.str (nu.key 1)) j2 p2), some (.Constant (.str (nu.key 2)) j3 p3), some (.Constant (.str (nu.key 3)) j4 p4)]
      [.Call (.Name "list" p5) [.Subscript (.Name "_law_script" p6) (.Slice none (some (.Constant (.int (m : Int)) j5 p7)) none p8) p9] [] q1, .Constant (.int 0) j6 q2, .Constant (.int 0) j7 q3, .Constant (.int 0) j8 q4] q5)) p0]
      { nx := fun _ H' => Q .non H', rt := Q } σ H := by
  obtain ⟨b, ns, e, seq, q⟩ := hsp
  cases e
  refine PSs.sm (pss_one (ps_ret (pe_disp (pps_cons pe_str (pe_sm (e := .Call (.Name "list" p5) [.Subscript (.Name "_law_script" p6) (.Slice none (some (.Constant (.int (m : Int)) j5 p7)) none p8) p9] [] q1)) (pps_cons pe_str pe_int (pps_cons pe_str pe_int (pps_cons pe_str pe_int pps_nil)))) rfl rfl (by simp) (by show 4 ≤ 15; decide)))) ?_
  intro f hf
  show SmE X _ σ (upd H f (.dK [])) _
  have g1 : ∀ b u, H b = some u → upd H f (.dK []) b = some u := fun b u e => by rw [upd_ne (ne_of_none e hf)]; exact e
  have seq1 : SqL X.K (upd H f (.dK [])) a (ns.map V.int) := by
    rcases seq with (z | ⟨o, z⟩) | z
    · exact .inl (.inl (g1 _ _ z))
    · exact .inl (.inr ⟨o, g1 _ _ z⟩)
    · exact .inr z
  refine sm_bi (f := .list) (C.gl hg) (C.blt _ (by decide +kernel)) rfl (sa_cons rfl (PE.sm (pe_slice sl_list (varC_pe C hv) po_none (po_some pe_int)) ⟨.ref a, hσ, (m : Int), rfl, a, _, rfl, seq1, fun s hs => sa_nil ?_⟩))
  refine CallR.sm call_list_of ⟨s, _, rfl, .inl (.inl (.inl upd_same)), fun c hc => ?_⟩
  have nsf : s ≠ f := fun z => by rw [z, upd_same] at hs; cases hs
  have ncs : c ≠ s := fun z => by rw [z, upd_same] at hc; cases hc
  have ncf : c ≠ f := fun z => by rw [z, upd_ne nsf.symm, upd_same] at hc; cases hc
  refine ⟨by rw [upd_ne ncf.symm, upd_ne nsf.symm, upd_same], fldV nu c (F0 nu m ns), rfl, by show 4 ≤ 15; decide, ?_⟩
  refine q f c _ (fun b u e => ?_) hf ncf.symm (by rw [upd_same, merge_fld]) (by rw [upd_ne ncf, upd_same, cut_take, List.map_take])
  have e1 := g1 b u e
  have nb : b ≠ f := ne_of_none e hf
  have nbs : b ≠ s := ne_of_none e1 hs
  have e2 : upd (upd H f (.dK [])) s (.lst (cutV (ns.map V.int) none (some (m : Int)))) b = some u := by rw [upd_ne nbs]; exact e1
  rw [upd_ne nb, upd_ne (ne_of_none e2 hc)]
  exact e2
/-- the law's body: the record first -/
theorem law_run {nu : Nms} {T : List (Addr × Str)} {m : Nat} {s : IS} {a : Addr} {ns : List Int} {rest : List Stmt} {p1 p2 p3 p4 p5 : Pos} (C : Cs X N sc nm cf ⟨.dic nu, T⟩ k) (tabs : ∀ p ∈ T, H p.1 = some (.tbl #[])) (feed : Cal0 X.prog X.w X.K X.mg X.base k "_law_feed" ["_law_script"] [1] (spFeed X.K nu m)) (hv : varC N sc 0 "_law_script" = true) (hg : glB sc "_law_feed" = true) (hx : nameT N sc sc 1 "_law_feed_here" = true)
    (hσ : σ[0]? = some (some (.ref a))) (hl : σ.length = N.length) (seq : SqL X.K H a (ns.map V.int)) (hs : chSs N nm s sc rest = true) (math : ∃ F', evS cf s ((List.replicate N.length .no).set 1 (.im .fd)) (F0 nu m ns) = .rt (.bl true) F') (hQ : ∀ H', Q (.bl true) H') :
    SmSs X (.Assign [.Name "_law_feed_here" p1] (.Call (.Name "_law_feed" p2) [.Name "_law_script" p3] [] p4) p5 :: rest) { nx := fun _ H' => Q .non H', rt := Q } σ H := by
  have h1 := name_lt (nameT_ix hx).1
  refine PSs.sm (pss_cons ps_sm pss_sm) (ss_set C hx rfl (sm_call (C.gl hg) feed C.room C.gd (by decide) rfl rfl (List.mem_singleton.mpr rfl) rfl ?_))
  show SmA X [.Name "_law_script" p3] σ H _
  refine sa_cons rfl (PE.sm (varC_pe C.toCt hv) ⟨.ref a, hσ, sa_nil ⟨rfl, rfl, fun _ _ _ => False, fun pins H1 s u s' I c => ?_, a, ns, rfl, seq, fun f c H2 keep hf nfc ef ec => ?_⟩⟩)
  · obtain ⟨_, _, _, _, _, _, _, _, _, _, _, _, z⟩ := c
    exact z.elim
  · obtain ⟨F', ev⟩ := math
    have S : SW X.K H2 f (fun b => b = f) (fun b => b = f) ⟨.dic nu, T⟩ N.length H2 (σ.set 1 (some (.ref f))) ((List.replicate N.length .no).set 1 (.im .fd)) (F0 nu m ns) :=
      { ofa := rfl
        onn := fun b e => ⟨_, inferInstance, e ▸ ef⟩
        fd := ⟨fun p hp => LamX.TabS.nil (keep _ _ (tabs p hp)), rfl, c, ef, .lst ec (fun z => nfc z.symm) (Rps.of_ints _)⟩
        sl := fun i x e => by
          rcases set_get e with ⟨e1, e2⟩ | ⟨e1, e2⟩
          · subst e1 e2
            rw [List.getElem?_set_self (by rw [hl]; exact h1)]
            exact ⟨_, rfl, .fd⟩
          · rw [List.getElem?_replicate] at e2
            split at e2
            · cases e2; trivial
            · cases e2
        up := fun _ o => o
        dn := fun _ _ _ _ o => o
        ge := Ge.refl _ _
        nw := fun i b ⟨⟨es, e⟩, _⟩ => by
          rcases set_get e with ⟨_, z⟩ | ⟨_, z⟩
          · cases z
          · rw [List.getElem?_replicate] at z; split at z <;> cases z
        dj := fun i j b ⟨⟨es, e⟩, _⟩ => by
          rcases set_get e with ⟨_, z⟩ | ⟨_, z⟩
          · cases z
          · rw [List.getElem?_replicate] at z; split at z <;> cases z
        len := by rw [List.length_set]; exact hl
        lr := by rw [List.length_set, List.length_replicate]
        nod := fun i kvs e => by
          rcases set_get e with ⟨_, z⟩ | ⟨_, z⟩
          · cases z
          · rw [List.getElem?_replicate] at z; split at z <;> cases z }
    refine (soundS s).b C rest hs H2 f _ _ H2 _ _ (F0 nu m ns) _ S ?_
    rw [ev]
    intro v H' _ _ r
    cases r
    exact hQ H'
end
end TH
section
set_option maxHeartbeats 1000000
/-! Facts of the written part, put together: classes of errors, tables. -/
namespace TH
open PySem PySem.Spec PyProof.Rows L2
section
variable {P : Program} {w : World} {K : PySem.W.Frag} {mg : Str → Option Value} {base : Heap}
theorem kit_ref {C D : Addr} {b : Bool} (h1 : PySem.W.isClsIn K D = true) (h2 : PySem.W.typeIn K (.ref D) = some (.type "type")) (h3 : PySem.W.subIn K (.ref C) (.ref D) = some b) (h4 : C = D → b = true) : PySem.W.kitOne K (.ref C) (.ref D) = some b := by
  unfold PySem.W.kitOne
  by_cases e : (Value.ref C == Value.ref D) = true
  · rw [if_pos e]
    have z : C = D := Value.ref.inj (beq_iff_eq.mp e)
    rw [h4 z]
  · rw [if_neg e]
    show (if ((PySem.W.clsIn K D).isSome && PySem.W.typeIn K (.ref D) == some (.type "type")) = true then PySem.W.subIn K (.ref C) (.ref D) else none) = some b
    have h1' : (PySem.W.clsIn K D).isSome = true := h1
    rw [h1', h2]
    exact h3
/-- what is said of one class -/
structure ClsF (K : PySem.W.Frag) (C : Addr) : Prop where
  sa : PySem.W.findIn K (.ref C) "__setattr__" = some (some (.builtin "object.__setattr__"))
  hg : PySem.W.findIn K (.ref C) "__getattribute__" = some (some (.builtin "BaseException.__getattribute__"))
  hk : PySem.W.findIn K (.ref C) "__getattr__" = some none
  hs : PySem.W.subIn K (.ref C) (.type "BaseException") = some true
  hd : PySem.W.hasDictIn K C = true
  ha : PySem.W.findIn K (.ref C) "__class__" = some (some (.builtin "object.__class__"))
  hm : PySem.W.mroIn K C (.type "object") = some true
  ty : PySem.W.typeIn K (.ref C) = some (.type "type")
  kc : PySem.W.keepIn K (.ref C) = true
theorem ClsF.xf {C : Addr} (h : ClsF K C) : XfC K C := ⟨h.hg, h.hk, h.hs, h.hd⟩
theorem ClsF.ec {C : Addr} (h : ClsF K C) (hn : PySem.W.specialIn K (.builtin "object.__class__") "__get__" = some (some (.builtin "getset_descriptor.__get__"))) (ht : PySem.W.takesIn K (.builtin "object.__class__") = some true) : ExcC K C := ⟨h.hg, h.hk, h.hs, h.hd, h.ha, hn, ht, h.hm⟩
theorem ClsF.ox {C N : Addr} {nm q : Str} {bs bm : List Value} {sn : List Str} {sub : List Value} {ab : Bool} {col : Option Bool} {dd : Option Addr} {k0 k1 k2 k3 k5 : Option Value} (h : ClsF K C) (l : K.lookup C = some (excClassObj nm q C N bs bm true sn sub ab col dd k0 k1 k2 k3 k5 "ValueError.__new__")) (r : PySem.HandSPX.refsVE bm = true) : OexC K C :=
  ⟨⟨nm, q, N, bs, bm, sn, sub, ab, col, dd, k0, k1, k2, k3, k5, l, r⟩, h.sa, h.hs, h.ty, h.kc⟩
theorem exm_ref' {C D : Addr} {b : Bool} (h1 : PySem.W.subIn K (.ref D) (.type "BaseException") = some true) (h2 : PySem.W.isClsIn K D = true) (h3 : PySem.W.typeIn K (.ref D) = some (.type "type")) (h4 : PySem.W.subIn K (.ref C) (.ref D) = some b) : PySem.W.exmOne K (.ref C) (.ref D) = some b := by
  unfold PySem.W.exmOne
  rw [h1, if_pos (by rfl)]
  show (if ((PySem.W.clsIn K D).isSome && PySem.W.typeIn K (.ref D) == some (.type "type")) = true then PySem.W.subIn K (.ref C) (.ref D) else none) = some b
  have h2' : (PySem.W.clsIn K D).isSome = true := h2
  rw [h2', h3]
  exact h4
theorem tabIn_of {x : Str} {f c T : Addr} {oc oc' : Value} {od od' : Option Addr} {fd : FuncData} {sl sl' : Array (Option Value)} {vs : Array Value} (h1 : PySem.W.nsIn K mainGlobals x = some (some (.ref f))) (h2 : K.lookup f = some ⟨oc, od, .func fd, sl⟩) (h3 : fd.code = .ref c) (h4 : K.lookup c = some ⟨oc', od', .fields vs, sl'⟩)
    (h5 : vs[11]? = some (.ref T)) : PySem.W.tabIn K x = some (c, T) := by
  unfold PySem.W.tabIn
  rw [h1]
  simp only [h2, h3, h4, h5]
theorem tab_lookup {kd : FK} {x q : Str} {f : Addr} {A : Arguments} {B : List Stmt} {S : Scope} {oc kV doc pm cd ct : Value} {od an : Option Addr} {osl : Array (Option Value)} (l : K.lookup f = some ⟨oc, od, .func (PySem.W.fnOf x q A B S .none kV doc pm an cd ct), osl⟩) (t : TabC base mg kd q cd) :
    ∀ (oc : Value) (od : Option Addr) (kV doc pm : Value) (an : Option Addr) (cdv ct : Value) (osl : Array (Option Value)), K.lookup f = some ⟨oc, od, .func (PySem.W.fnOf x q A B S .none kV doc pm an cdv ct), osl⟩ → TabC base mg kd q cdv := by
  intro oc' od' kV' doc' pm' an' cdv' ct' osl' e
  have z : cd = cdv' := congrArg (fun o : Option Obj => match o with | some ⟨_, _, .func fd, _⟩ => fd.code | _ => .none) (l.symm.trans e)
  rw [← z]; exact t
theorem vis_of {sc : Scope} {x : Str} (h : visB sc x = true) : Vis sc x := by
  unfold visB at h
  unfold Vis
  split at h
  · rename_i e; exact .inl e
  · rename_i e; exact .inr (.inl e)
  · rename_i e; exact .inr (.inr e)
  · cases h
def chIni (sc : Scope) (ps fs : List Str) (body : List Stmt) : Bool := match ps, fs, body with
  | [p0, p1], [f1], [.Assign [.Attribute (.Name a _) g _] (.Name b _) _] => decide (a = p0) && decide (g = f1) && decide (b = p1) && visB sc p0 && visB sc p1 && (dbB p0 && dbB p1 && !(p0 == ("__classdict__" : Str)) && !(p1 == ("__classdict__" : Str)))
  | [p0, p1, p2], [f1, f2], [.Assign [.Attribute (.Name a _) g _] (.Name b _) _, .Assign [.Attribute (.Name a' _) g' _] (.Name b' _) _] => decide (a = p0) && decide (g = f1) && decide (b = p1) && decide (a' = p0) && decide (g' = f2) && decide (b' = p2) && visB sc p0 && visB sc p1 && visB sc p2 &&
    (dbB p0 && dbB p1 && dbB p2 && !(p0 == ("__classdict__" : Str)) && !(p1 == ("__classdict__" : Str)) && !(p2 == ("__classdict__" : Str)))
  | _, _, _ => false
/-- a class of errors whose __init__ keeps its fields -/
theorem excD_of {c qual : Str} {C fI : Addr} {st : Stmt} {ps fs : List Str} {oc kV dc pm cd ct : Value} {od an : Option Addr} {sl : Array (Option Value)} (hm : mg c = some (.ref C)) (T : OexC K C) (i : PySem.W.findIn K (.ref C) "__init__" = some (some (.ref fI))) (t : PySem.W.typeIn K (.ref fI) = some (.type "function"))
    (l : K.lookup fI = some ⟨oc, od, .func (PySem.W.fnOf "__init__" qual (defArgs st) (defBody st) (defScope st) .none kV dc pm an cd ct), sl⟩) (hc : PySem.W.codeIn K cd qual = true) (no : ∀ f ∈ fs, PySem.W.findIn K (.ref C) f = some none) (S : FnScope ps ps (defScope st)) (ch : chIni (defScope st) ps fs (defBody st) = true)
    (hb : ∀ (kV doc pm : Value) (an : Option Addr) (cdv ct : Value) (us : List Value), us.length = ps.length → bindArgs (PySem.W.fnOf "__init__" qual (defArgs st) (defBody st) (defScope st) .none kV doc pm an cdv ct) ⟨us, []⟩ = pure (ps.zip us)) : ExcD P w K mg base 2 c fs := by
  have hb' : L2.Binds K (PySem.W.fnOf "__init__" qual (defArgs st) (defBody st) (defScope st) .none kV dc pm an cd ct) ps [] := L2.Binds.all (fun us e => hb kV dc pm an cd ct us e)
  refine ⟨C, fI, _, ps, 1, hm, T, i, t, ?_, hb', by decide⟩
  clear hb hb'
  generalize defBody st = body at *
  unfold chIni at ch
  split at ch
  · simp only [Bool.and_eq_true, decide_eq_true_eq] at ch
    obtain ⟨⟨⟨⟨⟨rfl, rfl⟩, rfl⟩, v0⟩, v1⟩, d⟩ := ch
    exact init_one (q4 := ⟨0, 0, 0, 0⟩) l hc S T (no _ (by simp)) (vis_of v0) (vis_of v1) (by simp only [Bool.and_eq_true]; exact d)
  · simp only [Bool.and_eq_true, decide_eq_true_eq] at ch
    obtain ⟨⟨⟨⟨⟨⟨⟨⟨⟨rfl, rfl⟩, rfl⟩, rfl⟩, rfl⟩, rfl⟩, v0⟩, v1⟩, v2⟩, d⟩ := ch
    exact init_two l hc S T (no _ (by simp)) (no _ (by simp)) (vis_of v0) (vis_of v1) (vis_of v2) (by simp only [Bool.and_eq_true]; exact d)
  · cases ch
end
end TH
end
/-! repr of data that are not large. -/
namespace TH
open PySem PySem.Spec PyProof.Rows L2
mutual
/-- ints of at most twelve figures, texts that can be laid -/
def okD : D → Bool
  | .int i => decide (-1000000000000 < i) && decide (i < 1000000000000)
  | .str x => PyData.canLay0 (.str x)
  | .tup xs => okDs xs
  | .lst xs => okDs xs
  | .fd => false
  | _ => true
def okDs : List D → Bool
  | [] => true
  | x :: xs => okD x && okDs xs
end
mutual
def szD : D → Nat
  | .str x => x.cps.size
  | .tup xs => szDs xs
  | .lst xs => szDs xs
  | _ => 41
def szDs : List D → Nat
  | [] => 0
  | x :: xs => szD x + 1 + szDs xs
end
mutual
def dpD : D → Nat
  | .tup xs => dpDs xs + 1
  | .lst xs => dpDs xs + 1
  | _ => 0
def dpDs : List D → Nat
  | [] => 0
  | x :: xs => max (dpD x) (dpDs xs)
end
theorem int_short {i : Int} (h1 : -1000000000000 < i) (h2 : i < 1000000000000) : PyData.intsShort 13 (.int i) = true := by
  have h : i.natAbs < 10 ^ 12 := by
    have : (10 : Nat) ^ 12 = 1000000000000 := by decide
    omega
  show decide ((PyData.shown (.int i)).length ≤ 13) = true
  rw [decide_eq_true_eq]
  show (Str.ofString (toString i)).length ≤ 13
  have e := int_text_length_le10 (k := 12) (by decide) h
  rw [ofString_len]
  exact e
theorem log_short {i : Int} (h1 : -1000000000000 < i) (h2 : i < 1000000000000) : i.natAbs.log2 < 40 ∨ i.natAbs = 0 := by
  by_cases z : i.natAbs = 0
  · exact .inr z
  · refine .inl ((Nat.log2_lt z).mpr ?_)
    have : (2 : Nat) ^ 40 = 1099511627776 := by decide
    omega
mutual
theorem okD_pure : ∀ {d : D}, okD d = true → d.pure = true
  | .non, _ => rfl
  | .bl _, _ => rfl
  | .int _, _ => rfl
  | .str _, _ => rfl
  | .tup xs, h => okDs_pure (xs := xs) h
  | .lst xs, h => okDs_pure (xs := xs) h
theorem okDs_pure : ∀ {xs : List D}, okDs xs = true → D.pures xs = true
  | [], _ => rfl
  | x :: xs, h => by
    rw [okDs, Bool.and_eq_true] at h
    rw [D.pures, okD_pure h.1, okDs_pure h.2]; rfl
end
mutual
theorem okD_lay : ∀ {d : D}, okD d = true → PyData.canLay0 d.py = true
  | .non, _ => rfl
  | .bl _, _ => rfl
  | .int _, _ => rfl
  | .str _, h => h
  | .tup xs, h => okDs_lay (xs := xs) h
  | .lst xs, h => okDs_lay (xs := xs) h
theorem okDs_lay : ∀ {xs : List D}, okDs xs = true → PyData.canLayAll0 (D.pys xs) = true
  | [], _ => rfl
  | x :: xs, h => by
    rw [okDs, Bool.and_eq_true] at h
    show (PyData.canLay0 x.py && PyData.canLayAll0 (D.pys xs)) = true
    rw [okD_lay h.1, okDs_lay h.2]; rfl
end
mutual
theorem okD_short : ∀ {d : D}, okD d = true → PyData.intsShort 13 d.py = true
  | .non, _ => rfl
  | .bl _, _ => rfl
  | .int i, h => by
    rw [okD, Bool.and_eq_true, decide_eq_true_eq, decide_eq_true_eq] at h
    exact int_short h.1 h.2
  | .str _, h => rfl
  | .tup xs, h => okDs_short (xs := xs) h
  | .lst xs, h => okDs_short (xs := xs) h
theorem okDs_short : ∀ {xs : List D}, okDs xs = true → PyData.intsShortAll 13 (D.pys xs) = true
  | [], _ => rfl
  | x :: xs, h => by
    rw [okDs, Bool.and_eq_true] at h
    show (PyData.intsShort 13 x.py && PyData.intsShortAll 13 (D.pys xs)) = true
    rw [okD_short h.1, okDs_short h.2]; rfl
end
mutual
theorem okD_show : ∀ {d : D}, okD d = true → PyData.showable d.py = true
  | .non, _ => rfl
  | .bl _, _ => rfl
  | .int i, h => by
    rw [okD, Bool.and_eq_true, decide_eq_true_eq, decide_eq_true_eq] at h
    show decide (i.natAbs.log2 < 1920) = true
    rw [decide_eq_true_eq]
    rcases log_short h.1 h.2 with z | z
    · omega
    · rw [z]; decide
  | .str _, h => rfl
  | .tup xs, h => okDs_show (xs := xs) h
  | .lst xs, h => okDs_show (xs := xs) h
theorem okDs_show : ∀ {xs : List D}, okDs xs = true → PyData.showableAll (D.pys xs) = true
  | [], _ => rfl
  | x :: xs, h => by
    rw [okDs, Bool.and_eq_true] at h
    show (PyData.showable x.py && PyData.showableAll (D.pys xs)) = true
    rw [okD_show h.1, okDs_show h.2]; rfl
end
mutual
theorem okD_weight : ∀ {d : D}, okD d = true → PyData.weight d.py ≤ szD d
  | .non, _ => Nat.zero_le _
  | .bl _, _ => Nat.zero_le _
  | .int i, h => by
    rw [okD, Bool.and_eq_true, decide_eq_true_eq, decide_eq_true_eq] at h
    show (if i == 0 then 0 else i.natAbs.log2 + 1) ≤ 41
    split
    · omega
    · rcases log_short h.1 h.2 with z | z
      · omega
      · rw [z]; decide
  | .str _, h => Nat.le_refl _
  | .tup xs, h => okDs_weight (xs := xs) h
  | .lst xs, h => okDs_weight (xs := xs) h
theorem okDs_weight : ∀ {xs : List D}, okDs xs = true → PyData.weightAll (D.pys xs) ≤ szDs xs
  | [], _ => Nat.le_refl _
  | x :: xs, h => by
    rw [okDs, Bool.and_eq_true] at h
    show PyData.weight x.py + 1 + PyData.weightAll (D.pys xs) ≤ szD x + 1 + szDs xs
    have h1 := okD_weight h.1
    have h2 := okDs_weight h.2
    omega
end
mutual
theorem dpD_depth : ∀ d : D, PyData.depth d.py ≤ dpD d + 1
  | .non => Nat.le_add_left _ _
  | .bl _ => Nat.le_add_left _ _
  | .int _ => Nat.le_add_left _ _
  | .str _ => Nat.le_add_left _ _
  | .fd => Nat.le_add_left _ _
  | .tup xs => by
    have h := dpDs_depth xs
    show PyData.depth (.tuple (D.pys xs)) ≤ dpDs xs + 1 + 1
    simp only [PyData.depth]
    omega
  | .lst xs => by
    have h := dpDs_depth xs
    show PyData.depth (.list (D.pys xs)) ≤ dpDs xs + 1 + 1
    simp only [PyData.depth]
    omega
theorem dpDs_depth : ∀ xs : List D, PyData.depthAll (D.pys xs) ≤ dpDs xs + 1
  | [] => Nat.zero_le _
  | x :: xs => by
    have h1 := dpD_depth x
    have h2 := dpDs_depth xs
    show PyData.depthAll (x.py :: D.pys xs) ≤ max (dpD x) (dpDs xs) + 1
    simp only [PyData.depthAll]
    omega
end
theorem repr_ok {d : D} (h : okD d = true) (hs : szD d ≤ 1000000) (hd : dpD d ≤ 50) : reprOk d = true := by
  have h1 := okD_lay h
  have h2 : d.py.depth < 60 := by have := dpD_depth d; omega
  have h3 : PyData.weight d.py ≤ 2 ^ 20 := by have := okD_weight h; have : (2 : Nat) ^ 20 = 1048576 := by decide
                                              omega
  have h4 : PyData.layable0 d.py = true := by
    show (PyData.canLay0 d.py && decide (PyData.depth d.py ≤ 64) && decide (PyData.weight d.py ≤ 2 ^ 20)) = true
    rw [h1, decide_eq_true h3, decide_eq_true (by omega)]; rfl
  have h5 := shown_le13 h4 (okD_short h)
  show (d.pure && d.py.showable && !d.py.hasDict && decide (d.py.depth < 60) && decide (d.py.shown.length ≤ sizeLine)) = true
  rw [okD_pure h, okD_show h, PyData.hasDict_of_canLay _ h1, decide_eq_true h2, decide_eq_true (by rw [sizeLine_eq]; omega)]; rfl
theorem bi_reprT {xs : List D} (h : okD (.tup xs) = true) (hs : szD (.tup xs) ≤ 1000000) (hd : dpD (.tup xs) ≤ 50) : biD .repr [.tup xs] = some (.str (D.tup xs).py.shown) := by
  show (if reprOk (.tup xs) then some (D.str (D.tup xs).py.shown) else none) = _
  rw [repr_ok h hs hd]; rfl
theorem bi_reprL {xs : List D} (h : okD (.lst xs) = true) (hs : szD (.lst xs) ≤ 1000000) (hd : dpD (.lst xs) ≤ 50) : biD .repr [.lst xs] = some (.str (D.lst xs).py.shown) := by
  show (if reprOk (.lst xs) then some (D.str (D.lst xs).py.shown) else none) = _
  rw [repr_ok h hs hd]; rfl
theorem okDs_map {α : Type} {f : α → D} : ∀ {L : List α}, (∀ u ∈ L, okD (f u) = true) → okDs (L.map f) = true
  | [], _ => rfl
  | u :: L, h => by
    show (okD (f u) && okDs (L.map f)) = true
    rw [h u (List.mem_cons_self ..), okDs_map fun v hv => h v (List.mem_cons_of_mem _ hv)]; rfl
theorem szDs_map {α : Type} {f : α → D} {B : Nat} : ∀ {L : List α}, (∀ u ∈ L, szD (f u) ≤ B) → szDs (L.map f) ≤ L.length * (B + 1)
  | [], _ => Nat.zero_le _
  | u :: L, h => by
    have h1 := h u (List.mem_cons_self ..)
    have h2 := szDs_map (L := L) fun v hv => h v (List.mem_cons_of_mem _ hv)
    show szD (f u) + 1 + szDs (L.map f) ≤ (L.length + 1) * (B + 1)
    rw [Nat.add_mul]
    omega
theorem dpDs_map {α : Type} {f : α → D} {B : Nat} : ∀ {L : List α}, (∀ u ∈ L, dpD (f u) ≤ B) → dpDs (L.map f) ≤ B
  | [], _ => Nat.zero_le _
  | u :: L, h => by
    have h1 := h u (List.mem_cons_self ..)
    have h2 := dpDs_map (L := L) fun v hv => h v (List.mem_cons_of_mem _ hv)
    show max (dpD (f u)) (dpDs (L.map f)) ≤ B
    omega
theorem ok_int {i : Int} (h1 : -1000000000000 < i) (h2 : i < 1000000000000) : okD (.int i) = true := by
  rw [okD, decide_eq_true h1, decide_eq_true h2]; rfl
/-! texts are compared -/
theorem shaped_str {x : Str} : SeqAt.shaped (PyData.str x) = SeqAt.shaped (PyData.str x) := rfl
end TH
namespace TH
open PySem PySem.Spec PyProof.Rows L2
/-! a shown text can be laid -/
theorem char_ok (c : Char) : decide (c.toNat < 0x110000) = true := by
  rw [decide_eq_true_eq]
  have h := c.valid
  show c.val.toNat < 0x110000
  rcases h with h | h
  · exact Nat.lt_trans h (by decide)
  · exact h.2
theorem ok_of (s : String) : PyData.strOk (Str.ofString s) = true := by
  unfold PyData.strOk
  rw [Str.ofString_eq_toList]
  show ((s.toList.map Char.toNat).toArray).all (fun x => decide (x < 0x110000)) = true
  rw [List.all_toArray, List.all_map, List.all_eq_true]
  exact fun c _ => char_ok c
theorem ok_app {a b : Str} (ha : PyData.strOk a = true) (hb : PyData.strOk b = true) : PyData.strOk (a ++ b) = true := by
  unfold PyData.strOk at ha hb ⊢
  show (a.cps ++ b.cps).all (fun x => decide (x < 0x110000)) = true
  rw [Array.all_append, ha, hb]; rfl
theorem ok_hex (w c : Nat) : (List.replicate (w - ((Nat.toDigits 16 c).map Char.toNat).length) 48 ++ (Nat.toDigits 16 c).map Char.toNat).all (fun x => decide (x < 0x110000)) = true := by
  rw [List.all_append, Bool.and_eq_true]
  refine ⟨?_, ?_⟩
  · rw [List.all_eq_true]
    intro x hx
    rw [List.eq_of_mem_replicate hx]; rfl
  · rw [List.all_map, List.all_eq_true]
    exact fun c _ => char_ok c
theorem ok_char {q c : Nat} (h : c < 0x110000) : (Builtin.Str.reprChar q c).all (fun x => decide (x < 0x110000)) = true := by
  have hc : decide (c < 0x110000) = true := decide_eq_true h
  unfold Builtin.Str.reprChar
  split
  · show (decide ((92 : Nat) < 0x110000) && (decide (c < 0x110000) && true)) = true
    rw [hc]; rfl
  · split
    · rfl
    · split
      · rfl
      · split
        · rfl
        · split
          · show (decide (c < 0x110000) && true) = true
            rw [hc]; rfl
          · split
            · rw [List.all_append, ok_hex]; rfl
            · split
              · rw [List.all_append, ok_hex]; rfl
              · rw [List.all_append, ok_hex]; rfl
theorem ok_fold {q : Nat} : ∀ (l : List Nat) (acc : Array Nat), acc.all (fun x => decide (x < 0x110000)) = true → l.all (fun x => decide (x < 0x110000)) = true → (l.foldl (fun out c => out ++ (Builtin.Str.reprChar q c).toArray) acc).all (fun x => decide (x < 0x110000)) = true
  | [], acc, h, _ => h
  | c :: l, acc, h, hl => by
    rw [List.all_cons, Bool.and_eq_true] at hl
    refine ok_fold l _ ?_ hl.2
    rw [Array.all_append, h, List.all_toArray, ok_char (of_decide_eq_true hl.1)]; rfl
theorem ok_quote (x : Str) : reprQuote x < 0x110000 := by
  unfold reprQuote
  split <;> decide
theorem ok_repr {x : Str} (h : PyData.strOk x = true) : PyData.strOk (reprText x) = true := by
  unfold PyData.strOk at h ⊢
  unfold reprText
  show ((x.cps.foldl (fun out c => out ++ (Builtin.Str.reprChar (reprQuote x) c).toArray) #[reprQuote x]).push (reprQuote x)).all (fun x => decide (x < 0x110000)) = true
  have hq : decide (reprQuote x < 0x110000) = true := decide_eq_true (ok_quote x)
  rw [Array.all_push, hq, Bool.and_true, ← Array.foldl_toList]
  refine ok_fold _ _ ?_ ?_
  · show (#[reprQuote x]).all _ = true
    simp [ok_quote]
  · rw [Array.all_toList]; exact h
theorem ok_from : ∀ (ts : List Str) (k : Nat) (acc : Str), PyData.strOk acc = true → (∀ t ∈ ts, PyData.strOk t = true) → PyData.strOk (textFrom k acc ts) = true
  | [], _, _, h, _ => h
  | t :: ts, k, acc, h, ht => by
    show PyData.strOk (textFrom (k + 1) (acc ++ (if k > 0 then ", " else "" : String) ++ t) ts) = true
    exact ok_from ts _ _ (ok_app (ok_app h (ok_of _)) (ht t (List.mem_cons_self ..))) fun u hu => ht u (List.mem_cons_of_mem _ hu)
theorem ok_join : ∀ (ts : List Str), (∀ t ∈ ts, PyData.strOk t = true) → PyData.strOk (Str.join ", " ts) = true
  | [], _ => by decide +kernel
  | [x], h => h x (List.mem_cons_self ..)
  | x :: y :: r, h => by
    show PyData.strOk (x ++ ", " ++ Str.join ", " (y :: r)) = true
    exact ok_app (ok_app (h x (List.mem_cons_self ..)) (ok_of _)) (ok_join (y :: r) fun t ht => h t (List.mem_cons_of_mem _ ht))
mutual
theorem ok_shown : ∀ {d : D}, okD d = true → PyData.strOk d.py.shown = true
  | .non, _ => ok_of _
  | .bl b, _ => by cases b <;> exact ok_of _
  | .int i, _ => ok_of _
  | .str x, h => ok_repr h
  | .tup xs, h => by
    show PyData.strOk (tupleText (PyData.shownAll (D.pys xs))) = true
    unfold tupleText
    exact ok_app (ok_app (ok_of _) (ok_join _ (oks_shown (xs := xs) h))) (ok_of _)
  | .lst xs, h => by
    show PyData.strOk (listText (PyData.shownAll (D.pys xs))) = true
    unfold listText
    exact ok_app (ok_from _ _ _ (ok_of _) (oks_shown (xs := xs) h)) (ok_of _)
theorem oks_shown : ∀ {xs : List D}, okDs xs = true → ∀ t ∈ PyData.shownAll (D.pys xs), PyData.strOk t = true
  | [], _, t, ht => by cases ht
  | x :: xs, h, t, ht => by
    rw [okDs, Bool.and_eq_true] at h
    have ht : t ∈ x.py.shown :: PyData.shownAll (D.pys xs) := ht
    rcases List.mem_cons.mp ht with e | ht
    · rw [e]; exact ok_shown h.1
    · exact oks_shown h.2 t ht
end
theorem shaped_shown {d : D} (h : okD d = true) : SeqAt.shaped (PyData.str d.py.shown) = true := by
  unfold SeqAt.shaped
  show (PyData.strOk d.py.shown && true) = true
  rw [ok_shown h]; rfl
theorem cD_shown {d e : D} (h : okD d = true) (h2 : okD e = true) : cmpD .NotEq (.str d.py.shown) (.str e.py.shown) = some (!decide (d.py.shown = e.py.shown)) := by
  show (if (D.str d.py.shown).pure && (D.str e.py.shown).pure && SeqAt.shaped (PyData.str d.py.shown) && SeqAt.shaped (PyData.str e.py.shown) then some (!(d.py.shown == e.py.shown)) else none) = _
  rw [shaped_shown h, shaped_shown h2]
  show some (!(d.py.shown == e.py.shown)) = _
  congr 2
theorem cD_shownE {d e : D} (h : okD d = true) (h2 : okD e = true) : cmpD .Eq (.str d.py.shown) (.str e.py.shown) = some (decide (d.py.shown = e.py.shown)) := by
  show (if (D.str d.py.shown).pure && (D.str e.py.shown).pure && SeqAt.shaped (PyData.str d.py.shown) && SeqAt.shaped (PyData.str e.py.shown) then some (d.py.shown == e.py.shown) else none) = _
  rw [shaped_shown h, shaped_shown h2]
  rfl
end TH
/-! A def's promise by a function that says less, but is reckoned faster. -/
namespace TH
open PySem PySem.Spec PyProof.Rows L2
theorem Cal.weak {P : Program} {w : World} {K : PySem.W.Frag} {mg : Str → Option Value} {base : Heap} {kd : FK} {k : Nat} {x : Str} {ps : List Str} {ns : List Nat} {g g' : List D → Fd → Ou D} (h : ∀ xs F, g' xs F = .no ∨ g' xs F = g xs F) (C : Cal P w K mg base kd k x ps ns g) : Cal P w K mg base kd k x ps ns g' := by
  obtain ⟨f, fd, h1, h2, h3, h4, h5⟩ := C.ex
  refine ⟨f, fd, h1, h2, ⟨fun A outer s H args us vs Q E hr hg e0 hb r hsp => h3.run A outer s H args us vs Q E hr hg e0 hb r ?_⟩, h4, h5⟩
  obtain ⟨hl, fa, O, ds, F, hd, rp, hq⟩ := hsp
  refine ⟨hl, fa, O, ds, F, hd, rp, ?_⟩
  rcases h ds F with e | e
  · rw [e] at hq; exact hq.elim
  · rw [e] at hq; exact hq
mutual
def eqD : D → D → Bool
  | .non, .non => true
  | .bl a, .bl b => a == b
  | .int i, .int j => decide (i = j)
  | .str x, .str y => decide (x = y)
  | .tup xs, .tup ys => eqDs xs ys
  | .lst xs, .lst ys => eqDs xs ys
  | _, _ => false
def eqDs : List D → List D → Bool
  | [], [] => true
  | x :: xs, y :: ys => eqD x y && eqDs xs ys
  | _, _ => false
end
mutual
theorem eqD_eq : ∀ {a b : D}, eqD a b = true → a = b
  | .non, b, h => by cases b <;> first | rfl | (simp [eqD] at h)
  | .fd, b, h => by cases b <;> simp [eqD] at h
  | .bl a, b, h => by cases b <;> first | (simp [eqD] at h; done) | (simp only [eqD, beq_iff_eq] at h; rw [h])
  | .int a, b, h => by cases b <;> first | (simp [eqD] at h; done) | (simp only [eqD, decide_eq_true_eq] at h; rw [h])
  | .str a, b, h => by cases b <;> first | (simp [eqD] at h; done) | (simp only [eqD, decide_eq_true_eq] at h; rw [h])
  | .tup xs, b, h => by
    cases b with
    | tup ys => rw [eqDs_eq (xs := xs) (ys := ys) (by simpa [eqD] using h)]
    | _ => simp [eqD] at h
  | .lst xs, b, h => by
    cases b with
    | lst ys => rw [eqDs_eq (xs := xs) (ys := ys) (by simpa [eqD] using h)]
    | _ => simp [eqD] at h
theorem eqDs_eq : ∀ {xs ys : List D}, eqDs xs ys = true → xs = ys
  | [], ys, h => by cases ys <;> first | rfl | simp [eqDs] at h
  | x :: xs, ys, h => by
    cases ys with
    | nil => simp [eqDs] at h
    | cons y ys =>
      simp only [eqDs, Bool.and_eq_true] at h
      rw [eqD_eq h.1, eqDs_eq h.2]
end
/-- repr(x) == repr(y) of data that are alike -/
def sameF : List D → Fd → Ou D := fun xs F =>
  match xs with
  | [.lst a, .lst b] => if eqDs a b && okD (.lst a) && decide (szD (.lst a) ≤ 1000000) && decide (dpD (.lst a) ≤ 50) then .ok (.bl true) F else .no
  | [.tup a, .tup b] => if eqDs a b && okD (.tup a) && decide (szD (.tup a) ≤ 1000000) && decide (dpD (.tup a) ≤ 50) then .ok (.bl true) F else .no
  | _ => .no
def sameI : IS := (.seq (.ret (.cmp .Eq (.bi .repr (.cons (.v 0) .nil)) (.bi .repr (.cons (.v 1) .nil)))) .nil)
theorem same_val {cf : Str → List D → Fd → Ou D} {d : D} {F : Fd} (hr : biD .repr [d] = some (.str d.py.shown)) (ho : okD d = true) : runS cf sameI 2 [d, d] F = .ok (.bl true) F := by
  have e : evE cf (.cmp .Eq (.bi .repr (.cons (.v 0) .nil)) (.bi .repr (.cons (.v 1) .nil))) (ent 2 [d, d]) F = .ok (.bl true) F := by
    show ((Ou.of (biD .repr [d]) F).bind fun a F => (Ou.of (biD .repr [d]) F).bind fun b F => Ou.of ((cmpD .Eq a b).map D.bl) F) = _
    rw [hr]
    show Ou.of ((cmpD .Eq (.str d.py.shown) (.str d.py.shown)).map D.bl) F = _
    rw [cD_shownE ho ho, decide_eq_true rfl]
    rfl
  have e2 : evS cf sameI (ent 2 [d, d]) F = .rt (.bl true) F := by
    show sqS ((evE cf (.cmp .Eq (.bi .repr (.cons (.v 0) .nil)) (.bi .repr (.cons (.v 1) .nil))) (ent 2 [d, d]) F).toS fun d F => .rt d F) (fun ρ F => evS cf .nil ρ F) = _
    rw [e]
    rfl
  unfold runS
  rw [e2]
theorem sameF_ref {cf : Str → List D → Fd → Ou D} (xs : List D) (F : Fd) : sameF xs F = .no ∨ sameF xs F = runS cf sameI 2 xs F := by
  unfold sameF
  split
  · rename_i a b
    split
    · rename_i h
      simp only [Bool.and_eq_true, decide_eq_true_eq] at h
      obtain ⟨⟨⟨h1, h2⟩, h3⟩, h4⟩ := h
      rw [← eqDs_eq h1]
      exact .inr (same_val (bi_reprL h2 h3 h4) h2).symm
    · exact .inl rfl
  · rename_i a b
    split
    · rename_i h
      simp only [Bool.and_eq_true, decide_eq_true_eq] at h
      obtain ⟨⟨⟨h1, h2⟩, h3⟩, h4⟩ := h
      rw [← eqDs_eq h1]
      exact .inr (same_val (bi_reprT h2 h3 h4) h2).symm
    · exact .inl rfl
  · exact .inl rfl
end TH
/-! Evaluation by simp: the operations on data, one rule each. -/
namespace TH
open PySem PySem.Spec PyProof.Rows L2
theorem cD_lt {i j : Int} : cmpD .Lt (.int i) (.int j) = some (decide (i < j)) := rfl
theorem cD_le {i j : Int} : cmpD .LtE (.int i) (.int j) = some (decide (i ≤ j)) := rfl
theorem cD_gt {i j : Int} : cmpD .Gt (.int i) (.int j) = some (decide (j < i)) := rfl
theorem cD_ge {i j : Int} : cmpD .GtE (.int i) (.int j) = some (decide (j ≤ i)) := rfl
theorem shaped_int {i : Int} : SeqAt.shaped (PyData.int i) = true := by
  unfold SeqAt.shaped
  simp [PyData.canLay0, PyData.depth]
theorem cD_eqi {i j : Int} : cmpD .Eq (.int i) (.int j) = some (decide (i = j)) := by
  show (if (D.int i).pure && (D.int j).pure && SeqAt.shaped (PyData.int i) && SeqAt.shaped (PyData.int j) then some (PyData.eqv (.int i) (.int j)) else none) = _
  rw [shaped_int, shaped_int]
  show some (i == j) = some (decide (i = j))
  congr 1
theorem cD_nei {i j : Int} : cmpD .NotEq (.int i) (.int j) = some (!decide (i = j)) := by
  show (if (D.int i).pure && (D.int j).pure && SeqAt.shaped (PyData.int i) && SeqAt.shaped (PyData.int j) then some (!PyData.eqv (.int i) (.int j)) else none) = _
  rw [shaped_int, shaped_int]
  show some (!(i == j)) = some (!decide (i = j))
  congr 1
theorem lay_ints : ∀ ns : List Int, PyData.canLayAll0 (D.pys (ns.map D.int)) = true
  | [] => rfl
  | n :: ns => by
    show (true && PyData.canLayAll0 (D.pys (ns.map D.int))) = true
    rw [lay_ints ns]; rfl
theorem shaped_ints (ns : List Int) : SeqAt.shaped (D.lst (ns.map D.int)).py = true := by
  unfold SeqAt.shaped
  rw [Bool.and_eq_true]
  refine ⟨lay_ints ns, decide_eq_true ?_⟩
  show PyData.depth (.list (D.pys (ns.map D.int))) ≤ 64
  rw [pys_ints]
  have := depth_ints ns
  simp only [PyData.depth]
  omega
/-- xs != [] -/
theorem cD_nil (ns : List Int) : cmpD .NotEq (.lst (ns.map D.int)) (.lst []) = some (!ns.isEmpty) := by
  show (if (D.lst (ns.map D.int)).pure && (D.lst []).pure && SeqAt.shaped (D.lst (ns.map D.int)).py && SeqAt.shaped (D.lst []).py then some (!PyData.eqv (D.lst (ns.map D.int)).py (D.lst []).py) else none) = _
  have h1 : (D.lst (ns.map D.int)).pure = true := pures_ints ns
  have h2 : SeqAt.shaped (D.lst []).py = true := shaped_ints []
  rw [h1, shaped_ints, h2]
  show some (!PyData.eqv (D.lst (ns.map D.int)).py (D.lst []).py) = _
  cases ns with
  | nil => rfl
  | cons n ns => rfl
theorem bD_add {i j : Int} : binD .Add (.int i) (.int j) = some (.int (i + j)) := rfl
theorem bD_sub {i j : Int} : binD .Sub (.int i) (.int j) = some (.int (i - j)) := rfl
theorem bD_mul {i j : Int} : binD .Mult (.int i) (.int j) = if B64 i || B64 j then some (.int (i * j)) else none := rfl
theorem bD_mod {i j : Int} : binD .Mod (.int i) (.int j) = if j ≠ 0 then some (.int (i.fmod j)) else none := rfl
theorem bD_fdiv {i j : Int} : binD .FloorDiv (.int i) (.int j) = if j ≠ 0 ∧ j.natAbs < 1073741824 then some (.int (i.fdiv j)) else none := rfl
theorem bD_pow {i j : Int} : binD .Pow (.int i) (.int j) = if 0 ≤ j ∧ j ≤ 1000000 ∧ i.natAbs < 2 ^ 64 then some (.int (i ^ j.toNat)) else none := rfl
/-- a loop, by what stands at each turn -/
theorem loop_inv {g : Env' → Fd → Rs} {b : D → Env' → Option Env'} (Inv : Nat → Env' → Fd → Prop) : ∀ (xs : List D) (i : Nat) (ρ : Env') (F : Fd), Inv i ρ F → (∀ (j : Nat) (x : D) (ρ : Env') (F : Fd), xs[j]? = some x → Inv (i + j) ρ F → ∃ ρ1 ρ2 F2, b x ρ = some ρ1 ∧ g ρ1 F = .nx ρ2 F2 ∧ Inv (i + j + 1) ρ2 F2) →
    ∃ ρ' F', loopS g b ρ xs F = .nx ρ' F' ∧ Inv (i + xs.length) ρ' F'
  | [], i, ρ, F, h, _ => ⟨ρ, F, rfl, h⟩
  | x :: xs, i, ρ, F, h, st => by
    obtain ⟨ρ1, ρ2, F2, e1, e2, h2⟩ := st 0 x ρ F rfl h
    obtain ⟨ρ', F', e3, h3⟩ := loop_inv Inv xs (i + 1) ρ2 F2 h2 fun j y ρ F ey hy => by
      have z := st (j + 1) y ρ F (by simpa using ey) (by rw [show i + (j + 1) = i + 1 + j by omega]; exact hy)
      rw [show i + (j + 1) + 1 = i + 1 + j + 1 by omega] at z
      exact z
    refine ⟨ρ', F', ?_, by rw [List.length_cons, show i + (xs.length + 1) = i + 1 + xs.length by omega]; exact h3⟩
    unfold loopS
    rw [e1]
    show (match g ρ1 F with | .nx ρ'' F' => loopS g b ρ'' xs F' | .ct ρ'' F' => loopS g b ρ'' xs F' | .br ρ'' F' => .nx ρ'' F' | o => o) = _
    rw [e2]
    exact e3
/-- cuts of a list of ints -/
theorem sl_to {ls : List Int} {v : Int} (h0 : 0 ≤ v) (h1 : v ≤ ls.length) : sliD (.lst (ls.map D.int)) none (some v) = some (.lst ((ls.take v.toNat).map D.int)) := by
  obtain ⟨m, rfl⟩ : ∃ m : Nat, v = m := ⟨v.toNat, by omega⟩
  show some (D.lst (cutD (ls.map D.int) none (some (m : Int)))) = _
  unfold cutD
  rw [HT.sIx_none, HT.sIx_nat, List.drop_zero, Nat.sub_zero, List.length_map, Int.toNat_natCast, List.map_take]
  congr 2
  exact List.take_eq_take_iff.mpr (by rw [List.length_map]; omega)
theorem sl_from {ls : List Int} {v : Int} (h0 : 0 ≤ v) (h1 : v ≤ ls.length) : sliD (.lst (ls.map D.int)) (some v) none = some (.lst ((ls.drop v.toNat).map D.int)) := by
  obtain ⟨m, rfl⟩ : ∃ m : Nat, v = m := ⟨v.toNat, by omega⟩
  show some (D.lst (cutD (ls.map D.int) (some (m : Int)) none)) = _
  unfold cutD
  rw [HT.sIx_none, HT.sIx_nat, List.length_map, Int.toNat_natCast, List.map_drop, show min m ls.length = m by omega]
  congr 2
  exact List.take_of_length_le (by rw [List.length_drop, List.length_map]; exact Nat.le_refl _)
theorem cat_ints {xs ys : List Int} (h : xs.length + ys.length ≤ 1000000) : binD .Add (.lst (xs.map D.int)) (.lst (ys.map D.int)) = some (.lst ((xs ++ ys).map D.int)) := by
  show (catD (xs.map D.int) (ys.map D.int)).map D.lst = _
  unfold catD
  rw [if_pos (by rw [List.length_map, List.length_map, sizeLine_eq]; omega), ← List.map_append]
  rfl
theorem ix_ints {ls : List Int} {v : Int} (h0 : 0 ≤ v) (h1 : v < ls.length) : ∃ x, ls[v.toNat]? = some x ∧ idxD (.lst (ls.map D.int)) (.int v) = some (.int x) := by
  have hj : v.toNat < ls.length := by omega
  refine ⟨ls[v.toNat], List.getElem?_eq_getElem hj, ?_⟩
  show atI (ls.map D.int) v = _
  unfold atI ixN
  rw [List.length_map, if_pos h0, if_pos h1]
  show (ls.map D.int)[v.toNat]? = _
  rw [List.getElem?_map, List.getElem?_eq_getElem hj]
  rfl
/-! ranges, by themselves: under simp the kernel would unfold rngD -/
theorem ev_lst0 {cf : Str → List D → Fd → Ou D} {hi : IE} {ρ : Env'} {F F1 : Fd} {b : Int} {ds : List D} (h : evE cf hi ρ F = .ok (.int b) F1) (er : rngD 0 b = some ds) : evE cf (.lstrng .absent hi) ρ F = .ok (.lst ds) F1 := by
  show ((evE cf hi ρ F).bind fun y F => Ou.of ((intP y).bind fun b => (rngD 0 b).map D.lst) F) = _
  rw [h]
  show Ou.of ((rngD 0 b).map D.lst) F1 = _
  rw [er]
  rfl
theorem it_rng1 {cf : Str → List D → Fd → Ou D} {a : IE} {ρ : Env'} {F F1 : Fd} {b : Int} {ds : List D} (h : evE cf a ρ F = .ok (.int b) F1) (er : rngD 0 b = some ds) : itE cf (.rng (.cons a .nil)) ρ F = .ok ds F1 := by
  have e1 : evL cf false (.cons a .nil) ρ F = .ok [.int b] F1 := by
    show ((evE cf a ρ F).bind fun x F => (evL cf false .nil ρ F).bind fun xs F => .ok (x :: xs) F) = _
    rw [h]
    rfl
  show ((evL cf false (.cons a .nil) ρ F).bind fun xs F => match xs with
    | [.int b] => Ou.of (rngD 0 b) F
    | [.int a, .int b] => Ou.of (rngD a b) F
    | _ => .no) = _
  rw [e1]
  show Ou.of (rngD 0 b) F1 = _
  rw [er]
  rfl
end TH
section
set_option maxHeartbeats 1000000
namespace TX
open PySem PySem.Spec PyProof.Rows L2 TH
def topS (i : Nat) : Stmt := PySem.Challenge.pw_throwshelves_k24_bursts_and_losses_told.main.body.getD i (.Pass ⟨0, 0, 0, 0⟩)
/-- a def of a class of the text -/
def inS (i j : Nat) : Stmt := match topS i with | .ClassDef _ _ _ b _ _ _ _ _ _ _ => b.getD j (.Pass ⟨0, 0, 0, 0⟩) | _ => .Pass ⟨0, 0, 0, 0⟩
abbrev KD (T : List (Addr × Str)) : FK := ⟨.dic .b, T⟩
def hier (c : Str) (d : Str) : Option Bool := if c = "Lost" then (if d = "Barred" then some false else if d = "InvalidPaper" then some false else if d = "Lost" then some true else if d = "NotUsable" then some false else if d = "PaperError" then some false else if d = "RingError" then some true else if d = "ShelfError" then some true else if d = "Torn" then some false else none) else if c = "NotUsable" then (if d = "Barred" then some false else if d = "InvalidPaper" then some false else if d = "Lost" then some false else if d = "NotUsable" then some true else if d = "PaperError" then some false else if d = "RingError" then some true else if d = "ShelfError" then some true else if d = "Torn" then some false else none) else if c = "Torn" then (if d = "Barred" then some false else if d = "InvalidPaper" then some false else if d = "Lost" then some false else if d = "NotUsable" then some false else if d = "PaperError" then some false else if d = "RingError" then some true else if d = "ShelfError" then some true else if d = "Torn" then some true else none) else none
/-! ### _law_heard -/
def N__law_heard : List Str := ["_law_call", "_law_is_own", "error"]
def HS__law_heard : List HS := [.ifr (.and (.isi "InvalidPaper") (.isi "PaperError")) (.tup (.cons (.cst (.str "paper")) (.cons (.fld "word") (.cons (.fld "at") .nil)))), .asg 1 (.and (.isi "ShelfError") (.not (.isi "PaperError"))), .ifr (.and (.loc 1) (.isi "NotUsable")) (.tup (.cons (.cst (.str "use")) (.cons (.fld "word") (.cons (.fld "at") .nil)))), .ifr (.and (.loc 1) (.isi "Lost")) (.tup (.cons (.cst (.str "lost")) (.cons (.fld "within") .nil))), .ifr (.and (.loc 1) (.isi "Barred")) (.tup (.cons (.cst (.str "barred")) (.cons (.fld "bar") .nil))), .ret (.ife (.and (.loc 1) (.isi "Torn")) (.tup (.cons (.cst (.str "torn")) (.cons (.fld "ways") .nil))) (.tup (.cons (.cst (.str "odd")) .nil)))]
def g__law_heard : List D → Fd → Ou D := gHrd "told" hier "RingError" ["at", "ways", "within", "word"] HS__law_heard N__law_heard.length
theorem ck__law_heard : chHB N__law_heard (defScope (topS 68)) 2 HS__law_heard "told" "_law_call" "RingError" (defBody (topS 68)) = true := by decide +kernel
theorem sc__law_heard : FnScope N__law_heard ["_law_call"] (defScope (topS 68)) := ⟨rfl, rfl, rfl, by decide +kernel, rfl, by decide +kernel, by decide +kernel⟩
/-! ### demand -/
def N_demand : List Str := ["holds", "name"]
def I_demand : IS := (.seq (.ife (.not (.v 0)) (.seq (.raise "NotUsable" ["word", "at"] (.cons (.v 1) (.cons (.neg (.c (.int 1))) .nil))) .nil) .nil) .nil)
def nm_demand : Str → Option (List Str × List Nat) := fun x => if x = "NotUsable" then some (["word", "at"], [1000]) else none
def cf_demand : Str → List D → Fd → Ou D := fun x => fun _ _ => .no
def g_demand : List D → Fd → Ou D := runS cf_demand I_demand N_demand.length
theorem ck_demand : chSs N_demand nm_demand I_demand (defScope (topS 10)) (defBody (topS 10)) = true := by decide +kernel
theorem hh_demand : hasH nm_demand (defScope (topS 10)) = false := by decide +kernel
theorem sc_demand : FnScope N_demand ["holds", "name"] (defScope (topS 10)) := ⟨rfl, rfl, rfl, by decide +kernel, rfl, by decide +kernel, by decide +kernel⟩
/-! ### lead_of -/
def N_lead_of : List Str := ["word", "place", "digit"]
def I_lead_of : IS := (.seq (.loop (.tup (.cons (.v 1) (.cons (.v 2) .nil))) (.enum (.v 0)) (.seq (.ife (.cmp .NotEq (.v 2) (.c (.int 0))) (.seq (.ret (.v 1)) .nil) .nil) .nil)) (.seq (.ret (.bi .len (.cons (.v 0) .nil))) .nil))
def nm_lead_of : Str → Option (List Str × List Nat) := fun x => none
def cf_lead_of : Str → List D → Fd → Ou D := fun x => fun _ _ => .no
def g_lead_of : List D → Fd → Ou D := runS cf_lead_of I_lead_of N_lead_of.length
theorem ck_lead_of : chSs N_lead_of nm_lead_of I_lead_of (defScope (topS 12)) (defBody (topS 12)) = true := by decide +kernel
theorem hh_lead_of : hasH nm_lead_of (defScope (topS 12)) = false := by decide +kernel
theorem sc_lead_of : FnScope N_lead_of ["word"] (defScope (topS 12)) := ⟨rfl, rfl, rfl, by decide +kernel, rfl, by decide +kernel, by decide +kernel⟩
/-! ### inverse_of -/
def N_inverse_of : List Str := ["prime", "digit", "other"]
def I_inverse_of : IS := (.seq (.loop (.v 2) (.rng (.cons (.c (.int 1)) (.cons (.v 0) .nil))) (.seq (.ife (.cmp .Eq (.bin .Mod (.bin .Mult (.v 1) (.v 2)) (.v 0)) (.c (.int 1))) (.seq (.ret (.v 2)) .nil) .nil) .nil)) (.seq (.ret (.c .non)) .nil))
def nm_inverse_of : Str → Option (List Str × List Nat) := fun x => none
def cf_inverse_of : Str → List D → Fd → Ou D := fun x => fun _ _ => .no
def g_inverse_of : List D → Fd → Ou D := runS cf_inverse_of I_inverse_of N_inverse_of.length
theorem ck_inverse_of : chSs N_inverse_of nm_inverse_of I_inverse_of (defScope (topS 13)) (defBody (topS 13)) = true := by decide +kernel
theorem hh_inverse_of : hasH nm_inverse_of (defScope (topS 13)) = false := by decide +kernel
theorem sc_inverse_of : FnScope N_inverse_of ["prime", "digit"] (defScope (topS 13)) := ⟨rfl, rfl, rfl, by decide +kernel, rfl, by decide +kernel, by decide +kernel⟩
/-! ### times -/
def N_times : List Str := ["prime", "digit", "word", "one"]
def I_times : IS := (.seq (.ret (.bi .tuple (.cons (.lc (.bin .Mod (.bin .Mult (.v 1) (.v 3)) (.v 0)) (.v 3) (.v 2) .nil [3]) .nil))) .nil)
def nm_times : Str → Option (List Str × List Nat) := fun x => none
def cf_times : Str → List D → Fd → Ou D := fun x => fun _ _ => .no
def g_times : List D → Fd → Ou D := runS cf_times I_times N_times.length
theorem ck_times : chSs N_times nm_times I_times (defScope (topS 14)) (defBody (topS 14)) = true := by decide +kernel
theorem hh_times : hasH nm_times (defScope (topS 14)) = false := by decide +kernel
theorem sc_times : FnScope N_times ["prime", "digit", "word"] (defScope (topS 14)) := ⟨rfl, rfl, rfl, by decide +kernel, rfl, by decide +kernel, by decide +kernel⟩
/-! ### taken_off -/
def N_taken_off : List Str := ["prime", "word", "digit", "row", "one", "other"]
def I_taken_off : IS := (.seq (.ret (.bi .tuple (.cons (.lc (.bin .Mod (.bin .Sub (.v 4) (.bin .Mult (.v 2) (.v 5))) (.v 0)) (.tup (.cons (.v 4) (.cons (.v 5) .nil))) (.zip (.v 1) (.v 3)) .nil [4, 5]) .nil))) .nil)
def nm_taken_off : Str → Option (List Str × List Nat) := fun x => none
def cf_taken_off : Str → List D → Fd → Ou D := fun x => fun _ _ => .no
def g_taken_off : List D → Fd → Ou D := runS cf_taken_off I_taken_off N_taken_off.length
theorem ck_taken_off : chSs N_taken_off nm_taken_off I_taken_off (defScope (topS 15)) (defBody (topS 15)) = true := by decide +kernel
theorem hh_taken_off : hasH nm_taken_off (defScope (topS 15)) = false := by decide +kernel
theorem sc_taken_off : FnScope N_taken_off ["prime", "word", "digit", "row"] (defScope (topS 15)) := ⟨rfl, rfl, rfl, by decide +kernel, rfl, by decide +kernel, by decide +kernel⟩
/-! ### rest_of -/
def N_rest_of : List Str := ["prime", "rows", "word", "row"]
def I_rest_of : IS := (.seq (.loop (.v 3) (.v 1) (.seq (.asg 2 (.call "taken_off" (.cons (.v 0) (.cons (.v 2) (.cons (.ix (.v 2) (.call "lead_of" (.cons (.v 3) .nil) .nil)) (.cons (.v 3) .nil)))) .nil)) .nil)) (.seq (.ret (.v 2)) .nil))
def nm_rest_of : Str → Option (List Str × List Nat) := fun x => if x = "taken_off" then some (["prime", "word", "digit", "row"], [4]) else if x = "lead_of" then some (["word"], [1]) else none
def cf_rest_of : Str → List D → Fd → Ou D := fun x => if x = "taken_off" then g_taken_off else if x = "lead_of" then g_lead_of else fun _ _ => .no
def g_rest_of : List D → Fd → Ou D := runS cf_rest_of I_rest_of N_rest_of.length
theorem ck_rest_of : chSs N_rest_of nm_rest_of I_rest_of (defScope (topS 16)) (defBody (topS 16)) = true := by decide +kernel
theorem hh_rest_of : hasH nm_rest_of (defScope (topS 16)) = false := by decide +kernel
theorem sc_rest_of : FnScope N_rest_of ["prime", "rows", "word"] (defScope (topS 16)) := ⟨rfl, rfl, rfl, by decide +kernel, rfl, by decide +kernel, by decide +kernel⟩
/-! ### rows_with -/
def N_rows_with : List Str := ["prime", "rows", "word", "rest", "at", "row", "cleared", "ahead", "behind", "other"]
def I_rows_with : IS := (.seq (.asg 3 (.call "rest_of" (.cons (.v 0) (.cons (.v 1) (.cons (.v 2) .nil))) .nil)) (.seq (.asg 4 (.call "lead_of" (.cons (.v 3) .nil) .nil)) (.seq (.ife (.cmp .Eq (.v 4) (.bi .len (.cons (.v 3) .nil))) (.seq (.ret (.bi .list (.cons (.v 1) .nil))) .nil) .nil) (.seq (.asg 5 (.call "times" (.cons (.v 0) (.cons (.call "inverse_of" (.cons (.v 0) (.cons (.ix (.v 3) (.v 4)) .nil)) .nil) (.cons (.v 3) .nil))) .nil)) (.seq (.asg 6 (.lc (.call "taken_off" (.cons (.v 0) (.cons (.v 9) (.cons (.ix (.v 9) (.v 4)) (.cons (.v 5) .nil)))) .nil) (.v 9) (.v 1) .nil [9])) (.seq (.asg 7 (.lc (.v 9) (.v 9) (.v 6) (.cmp .Lt (.call "lead_of" (.cons (.v 9) .nil) .nil) (.v 4)) [9])) (.seq (.asg 8 (.lc (.v 9) (.v 9) (.v 6) (.cmp .Gt (.call "lead_of" (.cons (.v 9) .nil) .nil) (.v 4)) [9])) (.seq (.ret (.bin .Add (.bin .Add (.v 7) (.lst (.cons (.v 5) .nil))) (.v 8))) .nil))))))))
def nm_rows_with : Str → Option (List Str × List Nat) := fun x => if x = "rest_of" then some (["prime", "rows", "word"], [3]) else if x = "lead_of" then some (["word"], [1]) else if x = "times" then some (["prime", "digit", "word"], [3]) else if x = "inverse_of" then some (["prime", "digit"], [2]) else if x = "taken_off" then some (["prime", "word", "digit", "row"], [4]) else none
def cf_rows_with : Str → List D → Fd → Ou D := fun x => if x = "rest_of" then g_rest_of else if x = "lead_of" then g_lead_of else if x = "times" then g_times else if x = "inverse_of" then g_inverse_of else if x = "taken_off" then g_taken_off else fun _ _ => .no
def g_rows_with : List D → Fd → Ou D := runS cf_rows_with I_rows_with N_rows_with.length
theorem ck_rows_with : chSs N_rows_with nm_rows_with I_rows_with (defScope (topS 17)) (defBody (topS 17)) = true := by decide +kernel
theorem hh_rows_with : hasH nm_rows_with (defScope (topS 17)) = false := by decide +kernel
theorem sc_rows_with : FnScope N_rows_with ["prime", "rows", "word"] (defScope (topS 17)) := ⟨rfl, rfl, rfl, by decide +kernel, rfl, by decide +kernel, by decide +kernel⟩
/-! ### settled_rows -/
def N_settled_rows : List Str := ["prime", "words", "rows", "word"]
def I_settled_rows : IS := (.seq (.asg 2 (.lst .nil)) (.seq (.loop (.v 3) (.v 1) (.seq (.asg 2 (.call "rows_with" (.cons (.v 0) (.cons (.v 2) (.cons (.v 3) .nil))) .nil)) .nil)) (.seq (.ret (.bi .tuple (.cons (.v 2) .nil))) .nil)))
def nm_settled_rows : Str → Option (List Str × List Nat) := fun x => if x = "rows_with" then some (["prime", "rows", "word"], [3]) else none
def cf_settled_rows : Str → List D → Fd → Ou D := fun x => if x = "rows_with" then g_rows_with else fun _ _ => .no
def g_settled_rows : List D → Fd → Ou D := runS cf_settled_rows I_settled_rows N_settled_rows.length
theorem ck_settled_rows : chSs N_settled_rows nm_settled_rows I_settled_rows (defScope (topS 18)) (defBody (topS 18)) = true := by decide +kernel
theorem hh_settled_rows : hasH nm_settled_rows (defScope (topS 18)) = false := by decide +kernel
theorem sc_settled_rows : FnScope N_settled_rows ["prime", "words"] (defScope (topS 18)) := ⟨rfl, rfl, rfl, by decide +kernel, rfl, by decide +kernel, by decide +kernel⟩
/-! ### solution_of -/
def N_solution_of : List Str := ["prime", "equations", "many", "digits", "row", "at", "_"]
def I_solution_of : IS := (.seq (.own 3 (.lc (.c (.int 0)) (.v 6) (.rng (.cons (.v 2) .nil)) .nil [6])) (.seq (.loop (.v 4) (.call "settled_rows" (.cons (.v 0) (.cons (.v 1) .nil)) .nil) (.seq (.asg 5 (.call "lead_of" (.cons (.v 4) .nil) .nil)) (.seq (.ife (.cmp .Eq (.v 5) (.v 2)) (.seq (.ret (.c .non)) .nil) .nil) (.seq (.seti 3 (.v 5) (.ix (.v 4) (.v 2))) .nil)))) (.seq (.ret (.bi .tuple (.cons (.v 3) .nil))) .nil)))
def nm_solution_of : Str → Option (List Str × List Nat) := fun x => if x = "settled_rows" then some (["prime", "words"], [2]) else if x = "lead_of" then some (["word"], [1]) else none
def cf_solution_of : Str → List D → Fd → Ou D := fun x => if x = "settled_rows" then g_settled_rows else if x = "lead_of" then g_lead_of else fun _ _ => .no
def g_solution_of : List D → Fd → Ou D := runS cf_solution_of I_solution_of N_solution_of.length
theorem ck_solution_of : chSs N_solution_of nm_solution_of I_solution_of (defScope (topS 19)) (defBody (topS 19)) = true := by decide +kernel
theorem hh_solution_of : hasH nm_solution_of (defScope (topS 19)) = false := by decide +kernel
theorem sc_solution_of : FnScope N_solution_of ["prime", "equations", "many"] (defScope (topS 19)) := ⟨rfl, rfl, rfl, by decide +kernel, rfl, by decide +kernel, by decide +kernel⟩
/-! ### is_integer -/
def N_is_integer : List Str := ["thing"]
def I_is_integer : IS := (.seq (.ret (.band (.isi .int (.v 0)) (.not (.isi .bool (.v 0))))) .nil)
def nm_is_integer : Str → Option (List Str × List Nat) := fun x => none
def cf_is_integer : Str → List D → Fd → Ou D := fun x => fun _ _ => .no
def g_is_integer : List D → Fd → Ou D := runS cf_is_integer I_is_integer N_is_integer.length
theorem ck_is_integer : chSs N_is_integer nm_is_integer I_is_integer (defScope (topS 22)) (defBody (topS 22)) = true := by decide +kernel
theorem hh_is_integer : hasH nm_is_integer (defScope (topS 22)) = false := by decide +kernel
theorem sc_is_integer : FnScope N_is_integer ["thing"] (defScope (topS 22)) := ⟨rfl, rfl, rfl, by decide +kernel, rfl, by decide +kernel, by decide +kernel⟩
/-! ### is_number -/
def N_is_number : List Str := ["thing"]
def I_is_number : IS := (.seq (.ret (.band (.call "is_integer" (.cons (.v 0) .nil) .nil) (.cmp .GtE (.v 0) (.c (.int 0))))) .nil)
def nm_is_number : Str → Option (List Str × List Nat) := fun x => if x = "is_integer" then some (["thing"], [1]) else none
def cf_is_number : Str → List D → Fd → Ou D := fun x => if x = "is_integer" then g_is_integer else fun _ _ => .no
def g_is_number : List D → Fd → Ou D := runS cf_is_number I_is_number N_is_number.length
theorem ck_is_number : chSs N_is_number nm_is_number I_is_number (defScope (topS 23)) (defBody (topS 23)) = true := by decide +kernel
theorem hh_is_number : hasH nm_is_number (defScope (topS 23)) = false := by decide +kernel
theorem sc_is_number : FnScope N_is_number ["thing"] (defScope (topS 23)) := ⟨rfl, rfl, rfl, by decide +kernel, rfl, by decide +kernel, by decide +kernel⟩
/-! ### is_prime -/
def N_is_prime : List Str := ["thing"]
def I_is_prime : IS := (.seq (.ret (.band (.call "is_integer" (.cons (.v 0) .nil) .nil) (.inG false (.v 0) "PRIMES" [2, 3, 5, 7, 11, 13]))) .nil)
def nm_is_prime : Str → Option (List Str × List Nat) := fun x => if x = "is_integer" then some (["thing"], [1]) else if x = "PRIMES" then some ([], 1001 :: [2, 3, 5, 7, 11, 13]) else none
def cf_is_prime : Str → List D → Fd → Ou D := fun x => if x = "is_integer" then g_is_integer else fun _ _ => .no
def g_is_prime : List D → Fd → Ou D := runS cf_is_prime I_is_prime N_is_prime.length
theorem ck_is_prime : chSs N_is_prime nm_is_prime I_is_prime (defScope (topS 24)) (defBody (topS 24)) = true := by decide +kernel
theorem hh_is_prime : hasH nm_is_prime (defScope (topS 24)) = false := by decide +kernel
theorem sc_is_prime : FnScope N_is_prime ["thing"] (defScope (topS 24)) := ⟨rfl, rfl, rfl, by decide +kernel, rfl, by decide +kernel, by decide +kernel⟩
/-! ### is_size -/
def N_is_size : List Str := ["thing"]
def I_is_size : IS := (.seq (.ret (.band (.call "is_integer" (.cons (.v 0) .nil) .nil) (.cmp .GtE (.v 0) (.c (.int 1))))) .nil)
def nm_is_size : Str → Option (List Str × List Nat) := fun x => if x = "is_integer" then some (["thing"], [1]) else none
def cf_is_size : Str → List D → Fd → Ou D := fun x => if x = "is_integer" then g_is_integer else fun _ _ => .no
def g_is_size : List D → Fd → Ou D := runS cf_is_size I_is_size N_is_size.length
theorem ck_is_size : chSs N_is_size nm_is_size I_is_size (defScope (topS 25)) (defBody (topS 25)) = true := by decide +kernel
theorem hh_is_size : hasH nm_is_size (defScope (topS 25)) = false := by decide +kernel
theorem sc_is_size : FnScope N_is_size ["thing"] (defScope (topS 25)) := ⟨rfl, rfl, rfl, by decide +kernel, rfl, by decide +kernel, by decide +kernel⟩
/-! ### is_place -/
def N_is_place : List Str := ["size", "thing"]
def I_is_place : IS := (.seq (.ret (.band (.call "is_size" (.cons (.v 0) .nil) .nil) (.band (.call "is_number" (.cons (.v 1) .nil) .nil) (.cmp .Lt (.v 1) (.v 0))))) .nil)
def nm_is_place : Str → Option (List Str × List Nat) := fun x => if x = "is_number" then some (["thing"], [1]) else if x = "is_size" then some (["thing"], [1]) else none
def cf_is_place : Str → List D → Fd → Ou D := fun x => if x = "is_number" then g_is_number else if x = "is_size" then g_is_size else fun _ _ => .no
def g_is_place : List D → Fd → Ou D := runS cf_is_place I_is_place N_is_place.length
theorem ck_is_place : chSs N_is_place nm_is_place I_is_place (defScope (topS 26)) (defBody (topS 26)) = true := by decide +kernel
theorem hh_is_place : hasH nm_is_place (defScope (topS 26)) = false := by decide +kernel
theorem sc_is_place : FnScope N_is_place ["size", "thing"] (defScope (topS 26)) := ⟨rfl, rfl, rfl, by decide +kernel, rfl, by decide +kernel, by decide +kernel⟩
/-! ### is_digit -/
def N_is_digit : List Str := ["prime", "thing"]
def I_is_digit : IS := (.seq (.ret (.band (.call "is_prime" (.cons (.v 0) .nil) .nil) (.band (.call "is_number" (.cons (.v 1) .nil) .nil) (.cmp .Lt (.v 1) (.v 0))))) .nil)
def nm_is_digit : Str → Option (List Str × List Nat) := fun x => if x = "is_number" then some (["thing"], [1]) else if x = "is_prime" then some (["thing"], [1]) else none
def cf_is_digit : Str → List D → Fd → Ou D := fun x => if x = "is_number" then g_is_number else if x = "is_prime" then g_is_prime else fun _ _ => .no
def g_is_digit : List D → Fd → Ou D := runS cf_is_digit I_is_digit N_is_digit.length
theorem ck_is_digit : chSs N_is_digit nm_is_digit I_is_digit (defScope (topS 27)) (defBody (topS 27)) = true := by decide +kernel
theorem hh_is_digit : hasH nm_is_digit (defScope (topS 27)) = false := by decide +kernel
theorem sc_is_digit : FnScope N_is_digit ["prime", "thing"] (defScope (topS 27)) := ⟨rfl, rfl, rfl, by decide +kernel, rfl, by decide +kernel, by decide +kernel⟩
/-! ### is_stretch -/
def N_is_stretch : List Str := ["size", "thing", "start", "length"]
def I_is_stretch : IS := (.seq (.ife (.bor (.not (.isi .tuple (.v 1))) (.cmp .NotEq (.bi .len (.cons (.v 1) .nil)) (.c (.int 2)))) (.seq (.ret (.c (.bl false))) .nil) .nil) (.seq (.unp (.tup (.cons (.v 2) (.cons (.v 3) .nil))) (.v 1)) (.seq (.ret (.band (.call "is_place" (.cons (.v 0) (.cons (.v 2) .nil)) .nil) (.band (.call "is_number" (.cons (.v 3) .nil) .nil) (.cmp .LtE (.v 3) (.v 0))))) .nil)))
def nm_is_stretch : Str → Option (List Str × List Nat) := fun x => if x = "is_number" then some (["thing"], [1]) else if x = "is_place" then some (["size", "thing"], [2]) else none
def cf_is_stretch : Str → List D → Fd → Ou D := fun x => if x = "is_number" then g_is_number else if x = "is_place" then g_is_place else fun _ _ => .no
def g_is_stretch : List D → Fd → Ou D := runS cf_is_stretch I_is_stretch N_is_stretch.length
theorem ck_is_stretch : chSs N_is_stretch nm_is_stretch I_is_stretch (defScope (topS 28)) (defBody (topS 28)) = true := by decide +kernel
theorem hh_is_stretch : hasH nm_is_stretch (defScope (topS 28)) = false := by decide +kernel
theorem sc_is_stretch : FnScope N_is_stretch ["size", "thing"] (defScope (topS 28)) := ⟨rfl, rfl, rfl, by decide +kernel, rfl, by decide +kernel, by decide +kernel⟩
/-! ### balls_of -/
def N_balls_of : List Str := ["pattern"]
def I_balls_of : IS := (.seq (.ret (.bin .FloorDiv (.bi .sum (.cons (.v 0) .nil)) (.bi .len (.cons (.v 0) .nil)))) .nil)
def nm_balls_of : Str → Option (List Str × List Nat) := fun x => none
def cf_balls_of : Str → List D → Fd → Ou D := fun x => fun _ _ => .no
def g_balls_of : List D → Fd → Ou D := runS cf_balls_of I_balls_of N_balls_of.length
theorem ck_balls_of : chSs N_balls_of nm_balls_of I_balls_of (defScope (topS 30)) (defBody (topS 30)) = true := by decide +kernel
theorem hh_balls_of : hasH nm_balls_of (defScope (topS 30)) = false := by decide +kernel
theorem sc_balls_of : FnScope N_balls_of ["pattern"] (defScope (topS 30)) := ⟨rfl, rfl, rfl, by decide +kernel, rfl, by decide +kernel, by decide +kernel⟩
/-! ### landing_of -/
def N_landing_of : List Str := ["pattern", "i"]
def I_landing_of : IS := (.seq (.ret (.bin .Add (.v 1) (.ix (.v 0) (.bin .Mod (.v 1) (.bi .len (.cons (.v 0) .nil)))))) .nil)
def nm_landing_of : Str → Option (List Str × List Nat) := fun x => none
def cf_landing_of : Str → List D → Fd → Ou D := fun x => fun _ _ => .no
def g_landing_of : List D → Fd → Ou D := runS cf_landing_of I_landing_of N_landing_of.length
theorem ck_landing_of : chSs N_landing_of nm_landing_of I_landing_of (defScope (topS 31)) (defBody (topS 31)) = true := by decide +kernel
theorem hh_landing_of : hasH nm_landing_of (defScope (topS 31)) = false := by decide +kernel
theorem sc_landing_of : FnScope N_landing_of ["pattern", "i"] (defScope (topS 31)) := ⟨rfl, rfl, rfl, by decide +kernel, rfl, by decide +kernel, by decide +kernel⟩
/-! ### target_of -/
def N_target_of : List Str := ["pattern", "place"]
def I_target_of : IS := (.seq (.ret (.bin .Mod (.call "landing_of" (.cons (.v 0) (.cons (.v 1) .nil)) .nil) (.bi .len (.cons (.v 0) .nil)))) .nil)
def nm_target_of : Str → Option (List Str × List Nat) := fun x => if x = "landing_of" then some (["pattern", "i"], [2]) else none
def cf_target_of : Str → List D → Fd → Ou D := fun x => if x = "landing_of" then g_landing_of else fun _ _ => .no
def g_target_of : List D → Fd → Ou D := runS cf_target_of I_target_of N_target_of.length
theorem ck_target_of : chSs N_target_of nm_target_of I_target_of (defScope (topS 32)) (defBody (topS 32)) = true := by decide +kernel
theorem hh_target_of : hasH nm_target_of (defScope (topS 32)) = false := by decide +kernel
theorem sc_target_of : FnScope N_target_of ["pattern", "place"] (defScope (topS 32)) := ⟨rfl, rfl, rfl, by decide +kernel, rfl, by decide +kernel, by decide +kernel⟩
/-! ### thrown_from -/
def N_thrown_from : List Str := ["pattern", "place", "targets", "source", "other"]
def I_thrown_from : IS := (.seq (.exp (.call "demand" (.cons (.call "is_place" (.cons (.bi .len (.cons (.v 0) .nil)) (.cons (.v 1) .nil)) .nil) (.cons (.c (.str "place")) .nil)) .nil)) (.seq (.asg 2 (.lc (.call "target_of" (.cons (.v 0) (.cons (.v 4) .nil)) .nil) (.v 4) (.rng (.cons (.bi .len (.cons (.v 0) .nil)) .nil)) .nil [4])) (.seq (.asg 3 (.mix 2 (.v 1))) (.seq (.ret (.tup (.cons (.v 3) (.cons (.ix (.v 0) (.v 3)) .nil)))) .nil))))
def nm_thrown_from : Str → Option (List Str × List Nat) := fun x => if x = "demand" then some (["holds", "name"], [2]) else if x = "is_place" then some (["size", "thing"], [2]) else if x = "target_of" then some (["pattern", "place"], [2]) else none
def cf_thrown_from : Str → List D → Fd → Ou D := fun x => if x = "demand" then g_demand else if x = "is_place" then g_is_place else if x = "target_of" then g_target_of else fun _ _ => .no
def g_thrown_from : List D → Fd → Ou D := runS cf_thrown_from I_thrown_from N_thrown_from.length
theorem ck_thrown_from : chSs N_thrown_from nm_thrown_from I_thrown_from (defScope (topS 33)) (defBody (topS 33)) = true := by decide +kernel
theorem hh_thrown_from : hasH nm_thrown_from (defScope (topS 33)) = false := by decide +kernel
theorem sc_thrown_from : FnScope N_thrown_from ["pattern", "place"] (defScope (topS 33)) := ⟨rfl, rfl, rfl, by decide +kernel, rfl, by decide +kernel, by decide +kernel⟩
/-! ### round_from -/
def N_round_from : List Str := ["pattern", "place", "places", "at"]
def I_round_from : IS := (.seq (.own 2 (.lst (.cons (.v 1) .nil))) (.seq (.asg 3 (.call "target_of" (.cons (.v 0) (.cons (.v 1) .nil)) .nil)) (.seq (.whl 1000000 (.cmp .NotEq (.v 3) (.v 1)) (.seq (.app 2 (.v 3)) (.seq (.asg 3 (.call "target_of" (.cons (.v 0) (.cons (.v 3) .nil)) .nil)) .nil))) (.seq (.ret (.bi .tuple (.cons (.v 2) .nil))) .nil))))
def nm_round_from : Str → Option (List Str × List Nat) := fun x => if x = "target_of" then some (["pattern", "place"], [2]) else none
def cf_round_from : Str → List D → Fd → Ou D := fun x => if x = "target_of" then g_target_of else fun _ _ => .no
def g_round_from : List D → Fd → Ou D := runS cf_round_from I_round_from N_round_from.length
theorem ck_round_from : chSs N_round_from nm_round_from I_round_from (defScope (topS 34)) (defBody (topS 34)) = true := by decide +kernel
theorem hh_round_from : hasH nm_round_from (defScope (topS 34)) = false := by decide +kernel
theorem sc_round_from : FnScope N_round_from ["pattern", "place"] (defScope (topS 34)) := ⟨rfl, rfl, rfl, by decide +kernel, rfl, by decide +kernel, by decide +kernel⟩
/-! ### places_from -/
def N_places_from : List Str := ["size", "start", "many", "k"]
def I_places_from : IS := (.seq (.ret (.bi .tuple (.cons (.lc (.bin .Mod (.bin .Add (.v 1) (.v 3)) (.v 0)) (.v 3) (.rng (.cons (.v 2) .nil)) .nil [3]) .nil))) .nil)
def nm_places_from : Str → Option (List Str × List Nat) := fun x => none
def cf_places_from : Str → List D → Fd → Ou D := fun x => fun _ _ => .no
def g_places_from : List D → Fd → Ou D := runS cf_places_from I_places_from N_places_from.length
theorem ck_places_from : chSs N_places_from nm_places_from I_places_from (defScope (topS 36)) (defBody (topS 36)) = true := by decide +kernel
theorem hh_places_from : hasH nm_places_from (defScope (topS 36)) = false := by decide +kernel
theorem sc_places_from : FnScope N_places_from ["size", "start", "many"] (defScope (topS 36)) := ⟨rfl, rfl, rfl, by decide +kernel, rfl, by decide +kernel, by decide +kernel⟩
/-! ### next_ones -/
def N_next_ones : List Str := ["pattern", "place", "size"]
def I_next_ones : IS := (.seq (.asg 2 (.bi .len (.cons (.v 0) .nil))) (.seq (.exp (.call "demand" (.cons (.call "is_place" (.cons (.v 2) (.cons (.v 1) .nil)) .nil) (.cons (.c (.str "place")) .nil)) .nil)) (.seq (.ret (.call "places_from" (.cons (.v 2) (.cons (.bin .Add (.v 1) (.c (.int 1))) (.cons (.ix (.v 0) (.v 1)) .nil))) .nil)) .nil)))
def nm_next_ones : Str → Option (List Str × List Nat) := fun x => if x = "demand" then some (["holds", "name"], [2]) else if x = "is_place" then some (["size", "thing"], [2]) else if x = "places_from" then some (["size", "start", "many"], [3]) else none
def cf_next_ones : Str → List D → Fd → Ou D := fun x => if x = "demand" then g_demand else if x = "is_place" then g_is_place else if x = "places_from" then g_places_from else fun _ _ => .no
def g_next_ones : List D → Fd → Ou D := runS cf_next_ones I_next_ones N_next_ones.length
theorem ck_next_ones : chSs N_next_ones nm_next_ones I_next_ones (defScope (topS 38)) (defBody (topS 38)) = true := by decide +kernel
theorem hh_next_ones : hasH nm_next_ones (defScope (topS 38)) = false := by decide +kernel
theorem sc_next_ones : FnScope N_next_ones ["pattern", "place"] (defScope (topS 38)) := ⟨rfl, rfl, rfl, by decide +kernel, rfl, by decide +kernel, by decide +kernel⟩
/-! ### ones_before -/
def N_ones_before : List Str := ["pattern", "place", "source", "throw"]
def I_ones_before : IS := (.seq (.unp (.tup (.cons (.v 2) (.cons (.v 3) .nil))) (.call "thrown_from" (.cons (.v 0) (.cons (.v 1) .nil)) .nil)) (.seq (.ret (.call "places_from" (.cons (.bi .len (.cons (.v 0) .nil)) (.cons (.v 2) (.cons (.v 3) .nil))) .nil)) .nil))
def nm_ones_before : Str → Option (List Str × List Nat) := fun x => if x = "thrown_from" then some (["pattern", "place"], [2]) else if x = "places_from" then some (["size", "start", "many"], [3]) else none
def cf_ones_before : Str → List D → Fd → Ou D := fun x => if x = "thrown_from" then g_thrown_from else if x = "places_from" then g_places_from else fun _ _ => .no
def g_ones_before : List D → Fd → Ou D := runS cf_ones_before I_ones_before N_ones_before.length
theorem ck_ones_before : chSs N_ones_before nm_ones_before I_ones_before (defScope (topS 39)) (defBody (topS 39)) = true := by decide +kernel
theorem hh_ones_before : hasH nm_ones_before (defScope (topS 39)) = false := by decide +kernel
theorem sc_ones_before : FnScope N_ones_before ["pattern", "place"] (defScope (topS 39)) := ⟨rfl, rfl, rfl, by decide +kernel, rfl, by decide +kernel, by decide +kernel⟩
/-! ### chain_of -/
def N_chain_of : List Str := ["pattern", "place"]
def I_chain_of : IS := (.seq (.exp (.call "demand" (.cons (.call "is_place" (.cons (.bi .len (.cons (.v 0) .nil)) (.cons (.v 1) .nil)) .nil) (.cons (.c (.str "place")) .nil)) .nil)) (.seq (.ret (.call "round_from" (.cons (.v 0) (.cons (.v 1) .nil)) .nil)) .nil))
def nm_chain_of : Str → Option (List Str × List Nat) := fun x => if x = "demand" then some (["holds", "name"], [2]) else if x = "is_place" then some (["size", "thing"], [2]) else if x = "round_from" then some (["pattern", "place"], [2]) else none
def cf_chain_of : Str → List D → Fd → Ou D := fun x => if x = "demand" then g_demand else if x = "is_place" then g_is_place else if x = "round_from" then g_round_from else fun _ _ => .no
def g_chain_of : List D → Fd → Ou D := runS cf_chain_of I_chain_of N_chain_of.length
theorem ck_chain_of : chSs N_chain_of nm_chain_of I_chain_of (defScope (topS 40)) (defBody (topS 40)) = true := by decide +kernel
theorem hh_chain_of : hasH nm_chain_of (defScope (topS 40)) = false := by decide +kernel
theorem sc_chain_of : FnScope N_chain_of ["pattern", "place"] (defScope (topS 40)) := ⟨rfl, rfl, rfl, by decide +kernel, rfl, by decide +kernel, by decide +kernel⟩
/-! ### column_at -/
def N_column_at : List Str := ["book", "place", "row"]
def I_column_at : IS := (.seq (.ret (.bi .tuple (.cons (.lc (.ix (.v 2) (.v 1)) (.v 2) (.ix (.v 0) (.c (.int 2))) .nil [2]) .nil))) .nil)
def nm_column_at : Str → Option (List Str × List Nat) := fun x => none
def cf_column_at : Str → List D → Fd → Ou D := fun x => fun _ _ => .no
def g_column_at : List D → Fd → Ou D := runS cf_column_at I_column_at N_column_at.length
theorem ck_column_at : chSs N_column_at nm_column_at I_column_at (defScope (topS 42)) (defBody (topS 42)) = true := by decide +kernel
theorem hh_column_at : hasH nm_column_at (defScope (topS 42)) = false := by decide +kernel
theorem sc_column_at : FnScope N_column_at ["book", "place"] (defScope (topS 42)) := ⟨rfl, rfl, rfl, by decide +kernel, rfl, by decide +kernel, by decide +kernel⟩
/-! ### settled_columns -/
def N_settled_columns : List Str := ["book", "places", "place"]
def I_settled_columns : IS := (.seq (.ret (.call "settled_rows" (.cons (.ix (.v 0) (.c (.int 0))) (.cons (.lc (.call "column_at" (.cons (.v 0) (.cons (.v 2) .nil)) .nil) (.v 2) (.v 1) .nil [2]) .nil)) .nil)) .nil)
def nm_settled_columns : Str → Option (List Str × List Nat) := fun x => if x = "settled_rows" then some (["prime", "words"], [2]) else if x = "column_at" then some (["book", "place"], [2]) else none
def cf_settled_columns : Str → List D → Fd → Ou D := fun x => if x = "settled_rows" then g_settled_rows else if x = "column_at" then g_column_at else fun _ _ => .no
def g_settled_columns : List D → Fd → Ou D := runS cf_settled_columns I_settled_columns N_settled_columns.length
theorem ck_settled_columns : chSs N_settled_columns nm_settled_columns I_settled_columns (defScope (topS 43)) (defBody (topS 43)) = true := by decide +kernel
theorem hh_settled_columns : hasH nm_settled_columns (defScope (topS 43)) = false := by decide +kernel
theorem sc_settled_columns : FnScope N_settled_columns ["book", "places"] (defScope (topS 43)) := ⟨rfl, rfl, rfl, by decide +kernel, rfl, by decide +kernel, by decide +kernel⟩
/-! ### rank_in -/
def N_rank_in : List Str := ["pattern", "start", "length", "places", "within", "k", "place"]
def I_rank_in : IS := (.seq (.asg 3 (.call "places_from" (.cons (.bi .len (.cons (.v 0) .nil)) (.cons (.v 1) (.cons (.v 2) .nil))) .nil)) (.seq (.asg 4 (.lc (.v 5) (.tup (.cons (.v 5) (.cons (.v 6) .nil))) (.enum (.v 3)) (.cmp .Lt (.bin .Add (.v 5) (.ix (.v 0) (.v 6))) (.v 2)) [5, 6])) (.seq (.ret (.bin .Sub (.v 2) (.bi .len (.cons (.v 4) .nil)))) .nil)))
def nm_rank_in : Str → Option (List Str × List Nat) := fun x => if x = "places_from" then some (["size", "start", "many"], [3]) else none
def cf_rank_in : Str → List D → Fd → Ou D := fun x => if x = "places_from" then g_places_from else fun _ _ => .no
def g_rank_in : List D → Fd → Ou D := runS cf_rank_in I_rank_in N_rank_in.length
theorem ck_rank_in : chSs N_rank_in nm_rank_in I_rank_in (defScope (topS 45)) (defBody (topS 45)) = true := by decide +kernel
theorem hh_rank_in : hasH nm_rank_in (defScope (topS 45)) = false := by decide +kernel
theorem sc_rank_in : FnScope N_rank_in ["pattern", "start", "length"] (defScope (topS 45)) := ⟨rfl, rfl, rfl, by decide +kernel, rfl, by decide +kernel, by decide +kernel⟩
/-! ### rank_beside -/
def N_rank_beside : List Str := ["pattern", "stretch", "size", "start", "length"]
def I_rank_beside : IS := (.seq (.asg 2 (.bi .len (.cons (.v 0) .nil))) (.seq (.unp (.tup (.cons (.v 3) (.cons (.v 4) .nil))) (.v 1)) (.seq (.ret (.call "rank_in" (.cons (.v 0) (.cons (.bin .Mod (.bin .Add (.v 3) (.v 4)) (.v 2)) (.cons (.bin .Sub (.v 2) (.v 4)) .nil))) .nil)) .nil)))
def nm_rank_beside : Str → Option (List Str × List Nat) := fun x => if x = "rank_in" then some (["pattern", "start", "length"], [3]) else none
def cf_rank_beside : Str → List D → Fd → Ou D := fun x => if x = "rank_in" then g_rank_in else fun _ _ => .no
def g_rank_beside : List D → Fd → Ou D := runS cf_rank_beside I_rank_beside N_rank_beside.length
theorem ck_rank_beside : chSs N_rank_beside nm_rank_beside I_rank_beside (defScope (topS 47)) (defBody (topS 47)) = true := by decide +kernel
theorem hh_rank_beside : hasH nm_rank_beside (defScope (topS 47)) = false := by decide +kernel
theorem sc_rank_beside : FnScope N_rank_beside ["pattern", "stretch"] (defScope (topS 47)) := ⟨rfl, rfl, rfl, by decide +kernel, rfl, by decide +kernel, by decide +kernel⟩
/-! ### open_rank -/
def N_open_rank : List Str := ["pattern", "stretch"]
def I_open_rank : IS := (.seq (.exp (.call "demand" (.cons (.call "is_stretch" (.cons (.bi .len (.cons (.v 0) .nil)) (.cons (.v 1) .nil)) .nil) (.cons (.c (.str "stretch")) .nil)) .nil)) (.seq (.ret (.bin .Sub (.call "balls_of" (.cons (.v 0) .nil) .nil) (.call "rank_beside" (.cons (.v 0) (.cons (.v 1) .nil)) .nil))) .nil))
def nm_open_rank : Str → Option (List Str × List Nat) := fun x => if x = "demand" then some (["holds", "name"], [2]) else if x = "is_stretch" then some (["size", "thing"], [2]) else if x = "balls_of" then some (["pattern"], [1]) else if x = "rank_beside" then some (["pattern", "stretch"], [2]) else none
def cf_open_rank : Str → List D → Fd → Ou D := fun x => if x = "demand" then g_demand else if x = "is_stretch" then g_is_stretch else if x = "balls_of" then g_balls_of else if x = "rank_beside" then g_rank_beside else fun _ _ => .no
def g_open_rank : List D → Fd → Ou D := runS cf_open_rank I_open_rank N_open_rank.length
theorem ck_open_rank : chSs N_open_rank nm_open_rank I_open_rank (defScope (topS 48)) (defBody (topS 48)) = true := by decide +kernel
theorem hh_open_rank : hasH nm_open_rank (defScope (topS 48)) = false := by decide +kernel
theorem sc_open_rank : FnScope N_open_rank ["pattern", "stretch"] (defScope (topS 48)) := ⟨rfl, rfl, rfl, by decide +kernel, rfl, by decide +kernel, by decide +kernel⟩
/-! ### mends_burst -/
def N_mends_burst : List Str := ["pattern", "stretch"]
def I_mends_burst : IS := (.seq (.exp (.call "demand" (.cons (.call "is_stretch" (.cons (.bi .len (.cons (.v 0) .nil)) (.cons (.v 1) .nil)) .nil) (.cons (.c (.str "stretch")) .nil)) .nil)) (.seq (.ret (.cmp .Eq (.call "rank_beside" (.cons (.v 0) (.cons (.v 1) .nil)) .nil) (.call "balls_of" (.cons (.v 0) .nil) .nil))) .nil))
def nm_mends_burst : Str → Option (List Str × List Nat) := fun x => if x = "demand" then some (["holds", "name"], [2]) else if x = "is_stretch" then some (["size", "thing"], [2]) else if x = "rank_beside" then some (["pattern", "stretch"], [2]) else if x = "balls_of" then some (["pattern"], [1]) else none
def cf_mends_burst : Str → List D → Fd → Ou D := fun x => if x = "demand" then g_demand else if x = "is_stretch" then g_is_stretch else if x = "rank_beside" then g_rank_beside else if x = "balls_of" then g_balls_of else fun _ _ => .no
def g_mends_burst : List D → Fd → Ou D := runS cf_mends_burst I_mends_burst N_mends_burst.length
theorem ck_mends_burst : chSs N_mends_burst nm_mends_burst I_mends_burst (defScope (topS 49)) (defBody (topS 49)) = true := by decide +kernel
theorem hh_mends_burst : hasH nm_mends_burst (defScope (topS 49)) = false := by decide +kernel
theorem sc_mends_burst : FnScope N_mends_burst ["pattern", "stretch"] (defScope (topS 49)) := ⟨rfl, rfl, rfl, by decide +kernel, rfl, by decide +kernel, by decide +kernel⟩
/-! ### most_burst -/
def N_most_burst : List Str := ["pattern"]
def I_most_burst : IS := (.seq (.ret (.bin .Sub (.bi .len (.cons (.v 0) .nil)) (.bi .max (.cons (.v 0) .nil)))) .nil)
def nm_most_burst : Str → Option (List Str × List Nat) := fun x => none
def cf_most_burst : Str → List D → Fd → Ou D := fun x => fun _ _ => .no
def g_most_burst : List D → Fd → Ou D := runS cf_most_burst I_most_burst N_most_burst.length
theorem ck_most_burst : chSs N_most_burst nm_most_burst I_most_burst (defScope (topS 50)) (defBody (topS 50)) = true := by decide +kernel
theorem hh_most_burst : hasH nm_most_burst (defScope (topS 50)) = false := by decide +kernel
theorem sc_most_burst : FnScope N_most_burst ["pattern"] (defScope (topS 50)) := ⟨rfl, rfl, rfl, by decide +kernel, rfl, by decide +kernel, by decide +kernel⟩
/-! ### most_window -/
def N_most_window : List Str := ["pattern"]
def I_most_window : IS := (.seq (.ret (.bi .min (.cons (.v 0) .nil))) .nil)
def nm_most_window : Str → Option (List Str × List Nat) := fun x => none
def cf_most_window : Str → List D → Fd → Ou D := fun x => fun _ _ => .no
def g_most_window : List D → Fd → Ou D := runS cf_most_window I_most_window N_most_window.length
theorem ck_most_window : chSs N_most_window nm_most_window I_most_window (defScope (topS 51)) (defBody (topS 51)) = true := by decide +kernel
theorem hh_most_window : hasH nm_most_window (defScope (topS 51)) = false := by decide +kernel
theorem sc_most_window : FnScope N_most_window ["pattern"] (defScope (topS 51)) := ⟨rfl, rfl, rfl, by decide +kernel, rfl, by decide +kernel, by decide +kernel⟩
/-! ### sum_of_rows -/
def N_sum_of_rows : List Str := ["book", "multiples", "prime", "size", "rows", "at", "many", "row"]
def I_sum_of_rows : IS := (.seq (.unp (.tup (.cons (.v 2) (.cons (.v 3) (.cons (.v 4) .nil)))) (.v 0)) (.seq (.ret (.bi .tuple (.cons (.lc (.bin .Mod (.bi .sum (.cons (.lc (.bin .Mult (.v 6) (.ix (.v 7) (.v 5))) (.tup (.cons (.v 6) (.cons (.v 7) .nil))) (.zip (.v 1) (.v 4)) .nil [6, 7]) .nil)) (.v 2)) (.v 5) (.rng (.cons (.v 3) .nil)) .nil [5]) .nil))) .nil))
def nm_sum_of_rows : Str → Option (List Str × List Nat) := fun x => none
def cf_sum_of_rows : Str → List D → Fd → Ou D := fun x => fun _ _ => .no
def g_sum_of_rows : List D → Fd → Ou D := runS cf_sum_of_rows I_sum_of_rows N_sum_of_rows.length
theorem ck_sum_of_rows : chSs N_sum_of_rows nm_sum_of_rows I_sum_of_rows (defScope (topS 53)) (defBody (topS 53)) = true := by decide +kernel
theorem hh_sum_of_rows : hasH nm_sum_of_rows (defScope (topS 53)) = false := by decide +kernel
theorem sc_sum_of_rows : FnScope N_sum_of_rows ["book", "multiples"] (defScope (topS 53)) := ⟨rfl, rfl, rfl, by decide +kernel, rfl, by decide +kernel, by decide +kernel⟩
/-! ### check_at -/
def N_check_at : List Str := ["book", "leads", "place", "digits", "prime", "size", "rows", "lead", "row", "_"]
def I_check_at : IS := (.seq (.unp (.tup (.cons (.v 4) (.cons (.v 5) (.cons (.v 6) .nil)))) (.v 0)) (.seq (.own 3 (.lc (.c (.int 0)) (.v 9) (.rng (.cons (.v 5) .nil)) .nil [9])) (.seq (.seti 3 (.v 2) (.c (.int 1))) (.seq (.loop (.tup (.cons (.v 7) (.cons (.v 8) .nil))) (.zip (.v 1) (.v 6)) (.seq (.seti 3 (.v 7) (.bin .Mod (.neg (.ix (.v 8) (.v 2))) (.v 4))) .nil)) (.seq (.ret (.bi .tuple (.cons (.v 3) .nil))) .nil)))))
def nm_check_at : Str → Option (List Str × List Nat) := fun x => none
def cf_check_at : Str → List D → Fd → Ou D := fun x => fun _ _ => .no
def g_check_at : List D → Fd → Ou D := runS cf_check_at I_check_at N_check_at.length
theorem ck_check_at : chSs N_check_at nm_check_at I_check_at (defScope (topS 56)) (defBody (topS 56)) = true := by decide +kernel
theorem hh_check_at : hasH nm_check_at (defScope (topS 56)) = false := by decide +kernel
theorem sc_check_at : FnScope N_check_at ["book", "leads", "place"] (defScope (topS 56)) := ⟨rfl, rfl, rfl, by decide +kernel, rfl, by decide +kernel, by decide +kernel⟩
/-! ### checks_of -/
def N_checks_of : List Str := ["book", "leads", "words", "prime", "size", "rows", "row", "place"]
def I_checks_of : IS := (.seq (.unp (.tup (.cons (.v 3) (.cons (.v 4) (.cons (.v 5) .nil)))) (.v 0)) (.seq (.asg 1 (.lc (.call "lead_of" (.cons (.v 6) .nil) .nil) (.v 6) (.v 5) .nil [6])) (.seq (.asg 2 (.lc (.call "check_at" (.cons (.v 0) (.cons (.v 1) (.cons (.v 7) .nil))) .nil) (.v 7) (.rng (.cons (.v 4) .nil)) (.cmp .NotIn (.v 7) (.v 1)) [7])) (.seq (.ret (.tup (.cons (.v 3) (.cons (.v 4) (.cons (.call "settled_rows" (.cons (.v 3) (.cons (.v 2) .nil)) .nil) .nil))))) .nil))))
def nm_checks_of : Str → Option (List Str × List Nat) := fun x => if x = "lead_of" then some (["word"], [1]) else if x = "check_at" then some (["book", "leads", "place"], [3]) else if x = "settled_rows" then some (["prime", "words"], [2]) else none
def cf_checks_of : Str → List D → Fd → Ou D := fun x => if x = "lead_of" then g_lead_of else if x = "check_at" then g_check_at else if x = "settled_rows" then g_settled_rows else fun _ _ => .no
def g_checks_of : List D → Fd → Ou D := runS cf_checks_of I_checks_of N_checks_of.length
theorem ck_checks_of : chSs N_checks_of nm_checks_of I_checks_of (defScope (topS 55)) (defBody (topS 55)) = true := by decide +kernel
theorem hh_checks_of : hasH nm_checks_of (defScope (topS 55)) = false := by decide +kernel
theorem sc_checks_of : FnScope N_checks_of ["book"] (defScope (topS 55)) := ⟨rfl, rfl, rfl, by decide +kernel, rfl, by decide +kernel, by decide +kernel⟩
/-! ### are_told -/
def N_are_told : List Str := ["prime", "size", "thing", "ends", "k", "digit"]
def I_are_told : IS := (.seq (.ife (.bor (.not (.isi .tuple (.v 2))) (.cmp .NotEq (.bi .len (.cons (.v 2) .nil)) (.v 1))) (.seq (.ret (.c (.bl false))) .nil) .nil) (.seq (.ife (.not (.bi .all (.cons (.lc (.bor (.cmp .Is (.v 5) (.c .non)) (.call "is_digit" (.cons (.v 0) (.cons (.v 5) .nil)) .nil)) (.v 5) (.v 2) .nil [5]) .nil))) (.seq (.ret (.c (.bl false))) .nil) .nil) (.seq (.asg 3 (.lc (.v 4) (.v 4) (.rng (.cons (.v 1) .nil)) (.band (.cmp .Is (.ix (.v 2) (.v 4)) (.c .non)) (.cmp .IsNot (.ix (.v 2) (.bin .Mod (.bin .Add (.v 4) (.c (.int 1))) (.v 1))) (.c .non))) [4])) (.seq (.ret (.cmp .LtE (.bi .len (.cons (.v 3) .nil)) (.c (.int 1)))) .nil))))
def nm_are_told : Str → Option (List Str × List Nat) := fun x => if x = "is_digit" then some (["prime", "thing"], [2]) else none
def cf_are_told : Str → List D → Fd → Ou D := fun x => if x = "is_digit" then g_is_digit else fun _ _ => .no
def g_are_told : List D → Fd → Ou D := runS cf_are_told I_are_told N_are_told.length
theorem ck_are_told : chSs N_are_told nm_are_told I_are_told (defScope (topS 58)) (defBody (topS 58)) = true := by decide +kernel
theorem hh_are_told : hasH nm_are_told (defScope (topS 58)) = false := by decide +kernel
theorem sc_are_told : FnScope N_are_told ["prime", "size", "thing"] (defScope (topS 58)) := ⟨rfl, rfl, rfl, by decide +kernel, rfl, by decide +kernel, by decide +kernel⟩
/-! ### tearing_ways -/
def N_tearing_ways : List Str := ["book", "told", "digits", "equations", "ways", "prime", "size", "rows", "place", "digit", "row", "_"]
def I_tearing_ways : IS := (.seq (.unp (.tup (.cons (.v 5) (.cons (.v 6) (.cons (.v 7) .nil)))) (.v 0)) (.seq (.own 3 (.lc (.bin .Add (.bi .tuple (.cons (.lc (.ix (.v 10) (.v 8)) (.v 8) (.v 1) .nil [8]) .nil)) (.tup (.cons (.c (.int 0)) .nil))) (.v 10) (.v 7) .nil [10])) (.seq (.app 3 (.bin .Add (.bi .tuple (.cons (.lc (.ix (.v 2) (.v 8)) (.v 8) (.v 1) .nil [8]) .nil)) (.tup (.cons (.c (.int 1)) .nil)))) (.seq (.own 4 (.lc (.c (.int 0)) (.v 11) (.rng (.cons (.v 6) .nil)) .nil [11])) (.seq (.frz 3) (.seq (.loop (.tup (.cons (.v 8) (.cons (.v 9) .nil))) (.zip (.v 1) (.call "solution_of" (.cons (.v 5) (.cons (.v 3) (.cons (.bi .len (.cons (.v 1) .nil)) .nil))) .nil)) (.seq (.seti 4 (.v 8) (.v 9)) .nil)) (.seq (.ret (.bi .tuple (.cons (.v 4) .nil))) .nil)))))))
def nm_tearing_ways : Str → Option (List Str × List Nat) := fun x => if x = "solution_of" then some (["prime", "equations", "many"], [3]) else none
def cf_tearing_ways : Str → List D → Fd → Ou D := fun x => if x = "solution_of" then g_solution_of else fun _ _ => .no
def g_tearing_ways : List D → Fd → Ou D := runS cf_tearing_ways I_tearing_ways N_tearing_ways.length
theorem ck_tearing_ways : chSs N_tearing_ways nm_tearing_ways I_tearing_ways (defScope (topS 60)) (defBody (topS 60)) = true := by decide +kernel
theorem hh_tearing_ways : hasH nm_tearing_ways (defScope (topS 60)) = false := by decide +kernel
theorem sc_tearing_ways : FnScope N_tearing_ways ["book", "told", "digits"] (defScope (topS 60)) := ⟨rfl, rfl, rfl, by decide +kernel, rfl, by decide +kernel, by decide +kernel⟩
/-! ### words_within -/
def N_words_within : List Str := ["book", "told", "units", "closed", "prime", "size", "_", "place", "at"]
def I_words_within : IS := (.seq (.unp (.tup (.cons (.v 4) (.cons (.v 5) (.cons (.v 6) .nil)))) (.v 0)) (.seq (.asg 2 (.lc (.bi .tuple (.cons (.lc (.ife (.cmp .Eq (.v 8) (.v 7)) (.c (.int 1)) (.c (.int 0))) (.v 8) (.rng (.cons (.v 5) .nil)) .nil [8]) .nil)) (.v 7) (.v 1) .nil [7])) (.seq (.asg 3 (.tup (.cons (.v 4) (.cons (.v 5) (.cons (.call "settled_rows" (.cons (.v 4) (.cons (.bin .Add (.bi .list (.cons (.ix (.call "checks_of" (.cons (.v 0) .nil) .nil) (.c (.int 2))) .nil)) (.v 2)) .nil)) .nil) .nil))))) (.seq (.ret (.ix (.call "checks_of" (.cons (.v 3) .nil) .nil) (.c (.int 2)))) .nil))))
def nm_words_within : Str → Option (List Str × List Nat) := fun x => if x = "settled_rows" then some (["prime", "words"], [2]) else if x = "checks_of" then some (["book"], [1]) else none
def cf_words_within : Str → List D → Fd → Ou D := fun x => if x = "settled_rows" then g_settled_rows else if x = "checks_of" then g_checks_of else fun _ _ => .no
def g_words_within : List D → Fd → Ou D := runS cf_words_within I_words_within N_words_within.length
theorem ck_words_within : chSs N_words_within nm_words_within I_words_within (defScope (topS 61)) (defBody (topS 61)) = true := by decide +kernel
theorem hh_words_within : hasH nm_words_within (defScope (topS 61)) = false := by decide +kernel
theorem sc_words_within : FnScope N_words_within ["book", "told"] (defScope (topS 61)) := ⟨rfl, rfl, rfl, by decide +kernel, rfl, by decide +kernel, by decide +kernel⟩
/-! ### filled -/
def N_filled : List Str := ["book", "digits", "told", "equations", "multiples", "prime", "size", "rows", "place"]
def I_filled : IS := (.seq (.unp (.tup (.cons (.v 5) (.cons (.v 6) (.cons (.v 7) .nil)))) (.v 0)) (.seq (.exp (.call "demand" (.cons (.call "are_told" (.cons (.v 5) (.cons (.v 6) (.cons (.v 1) .nil))) .nil) (.cons (.c (.str "digits")) .nil)) .nil)) (.seq (.asg 2 (.lc (.v 8) (.v 8) (.rng (.cons (.v 6) .nil)) (.cmp .IsNot (.ix (.v 1) (.v 8)) (.c .non)) [8])) (.seq (.asg 3 (.lc (.bin .Add (.call "column_at" (.cons (.v 0) (.cons (.v 8) .nil)) .nil) (.tup (.cons (.ix (.v 1) (.v 8)) .nil))) (.v 8) (.v 2) .nil [8])) (.seq (.asg 4 (.call "solution_of" (.cons (.v 5) (.cons (.v 3) (.cons (.bi .len (.cons (.v 7) .nil)) .nil))) .nil)) (.seq (.ife (.cmp .Is (.v 4) (.c .non)) (.seq (.raise "Torn" ["ways"] (.cons (.call "tearing_ways" (.cons (.v 0) (.cons (.v 2) (.cons (.v 1) .nil))) .nil) .nil)) .nil) .nil) (.seq (.ife (.cmp .Lt (.bi .len (.cons (.call "settled_columns" (.cons (.v 0) (.cons (.v 2) .nil)) .nil) .nil)) (.bi .len (.cons (.v 7) .nil))) (.seq (.raise "Lost" ["within"] (.cons (.ix (.call "words_within" (.cons (.v 0) (.cons (.v 2) .nil)) .nil) (.c (.int 0))) .nil)) .nil) .nil) (.seq (.ret (.call "sum_of_rows" (.cons (.v 0) (.cons (.v 4) .nil)) .nil)) .nil))))))))
def nm_filled : Str → Option (List Str × List Nat) := fun x => if x = "demand" then some (["holds", "name"], [2]) else if x = "are_told" then some (["prime", "size", "thing"], [3]) else if x = "column_at" then some (["book", "place"], [2]) else if x = "solution_of" then some (["prime", "equations", "many"], [3]) else if x = "tearing_ways" then some (["book", "told", "digits"], [3]) else if x = "settled_columns" then some (["book", "places"], [2]) else if x = "words_within" then some (["book", "told"], [2]) else if x = "sum_of_rows" then some (["book", "multiples"], [2]) else if x = "Lost" then some (["within"], [1000]) else if x = "Torn" then some (["ways"], [1000]) else none
def cf_filled : Str → List D → Fd → Ou D := fun x => if x = "demand" then g_demand else if x = "are_told" then g_are_told else if x = "column_at" then g_column_at else if x = "solution_of" then g_solution_of else if x = "tearing_ways" then g_tearing_ways else if x = "settled_columns" then g_settled_columns else if x = "words_within" then g_words_within else if x = "sum_of_rows" then g_sum_of_rows else fun _ _ => .no
def g_filled : List D → Fd → Ou D := runS cf_filled I_filled N_filled.length
theorem ck_filled : chSs N_filled nm_filled I_filled (defScope (topS 59)) (defBody (topS 59)) = true := by decide +kernel
theorem hh_filled : hasH nm_filled (defScope (topS 59)) = false := by decide +kernel
theorem sc_filled : FnScope N_filled ["book", "digits"] (defScope (topS 59)) := ⟨rfl, rfl, rfl, by decide +kernel, rfl, by decide +kernel, by decide +kernel⟩
/-! ### open_words -/
def N_open_words : List Str := ["book", "stretch", "told", "prime", "size", "_", "start", "length"]
def I_open_words : IS := (.seq (.unp (.tup (.cons (.v 3) (.cons (.v 4) (.cons (.v 5) .nil)))) (.v 0)) (.seq (.exp (.call "demand" (.cons (.call "is_stretch" (.cons (.v 4) (.cons (.v 1) .nil)) .nil) (.cons (.c (.str "stretch")) .nil)) .nil)) (.seq (.unp (.tup (.cons (.v 6) (.cons (.v 7) .nil))) (.v 1)) (.seq (.asg 2 (.call "places_from" (.cons (.v 4) (.cons (.bin .Mod (.bin .Add (.v 6) (.v 7)) (.v 4)) (.cons (.bin .Sub (.v 4) (.v 7)) .nil))) .nil)) (.seq (.ret (.tup (.cons (.v 3) (.cons (.v 4) (.cons (.call "words_within" (.cons (.v 0) (.cons (.v 2) .nil)) .nil) .nil))))) .nil)))))
def nm_open_words : Str → Option (List Str × List Nat) := fun x => if x = "demand" then some (["holds", "name"], [2]) else if x = "is_stretch" then some (["size", "thing"], [2]) else if x = "places_from" then some (["size", "start", "many"], [3]) else if x = "words_within" then some (["book", "told"], [2]) else none
def cf_open_words : Str → List D → Fd → Ou D := fun x => if x = "demand" then g_demand else if x = "is_stretch" then g_is_stretch else if x = "places_from" then g_places_from else if x = "words_within" then g_words_within else fun _ _ => .no
def g_open_words : List D → Fd → Ou D := runS cf_open_words I_open_words N_open_words.length
theorem ck_open_words : chSs N_open_words nm_open_words I_open_words (defScope (topS 62)) (defBody (topS 62)) = true := by decide +kernel
theorem hh_open_words : hasH nm_open_words (defScope (topS 62)) = false := by decide +kernel
theorem sc_open_words : FnScope N_open_words ["book", "stretch"] (defScope (topS 62)) := ⟨rfl, rfl, rfl, by decide +kernel, rfl, by decide +kernel, by decide +kernel⟩
/-! ### holds_any -/
def N_holds_any : List Str := ["book", "stretch", "start", "length"]
def I_holds_any : IS := (.seq (.exp (.call "demand" (.cons (.call "is_stretch" (.cons (.ix (.v 0) (.c (.int 1))) (.cons (.v 1) .nil)) .nil) (.cons (.c (.str "stretch")) .nil)) .nil)) (.seq (.unp (.tup (.cons (.v 2) (.cons (.v 3) .nil))) (.v 1)) (.seq (.ret (.cmp .Eq (.bi .len (.cons (.call "settled_columns" (.cons (.v 0) (.cons (.call "places_from" (.cons (.ix (.v 0) (.c (.int 1))) (.cons (.v 2) (.cons (.v 3) .nil))) .nil) .nil)) .nil) .nil)) (.v 3))) .nil)))
def nm_holds_any : Str → Option (List Str × List Nat) := fun x => if x = "demand" then some (["holds", "name"], [2]) else if x = "is_stretch" then some (["size", "thing"], [2]) else if x = "settled_columns" then some (["book", "places"], [2]) else if x = "places_from" then some (["size", "start", "many"], [3]) else none
def cf_holds_any : Str → List D → Fd → Ou D := fun x => if x = "demand" then g_demand else if x = "is_stretch" then g_is_stretch else if x = "settled_columns" then g_settled_columns else if x = "places_from" then g_places_from else fun _ _ => .no
def g_holds_any : List D → Fd → Ou D := runS cf_holds_any I_holds_any N_holds_any.length
theorem ck_holds_any : chSs N_holds_any nm_holds_any I_holds_any (defScope (topS 63)) (defBody (topS 63)) = true := by decide +kernel
theorem hh_holds_any : hasH nm_holds_any (defScope (topS 63)) = false := by decide +kernel
theorem sc_holds_any : FnScope N_holds_any ["book", "stretch"] (defScope (topS 63)) := ⟨rfl, rfl, rfl, by decide +kernel, rfl, by decide +kernel, by decide +kernel⟩
/-! ### _law_same -/
def N__law_same : List Str := ["_law_heard_here", "_law_due"]
def I__law_same : IS := (.seq (.ret (.cmp .Eq (.bi .repr (.cons (.v 0) .nil)) (.bi .repr (.cons (.v 1) .nil)))) .nil)
def nm__law_same : Str → Option (List Str × List Nat) := fun x => none
def cf__law_same : Str → List D → Fd → Ou D := fun x => fun _ _ => .no
def g__law_same : List D → Fd → Ou D := runS cf__law_same I__law_same N__law_same.length
theorem ck__law_same : chSs N__law_same nm__law_same I__law_same (defScope (topS 66)) (defBody (topS 66)) = true := by decide +kernel
theorem hh__law_same : hasH nm__law_same (defScope (topS 66)) = false := by decide +kernel
theorem sc__law_same : FnScope N__law_same ["_law_heard_here", "_law_due"] (defScope (topS 66)) := ⟨rfl, rfl, rfl, by decide +kernel, rfl, by decide +kernel, by decide +kernel⟩
/-! ### _law_draw -/
def N__law_draw : List Str := ["_law_feed_here", "_law_many", "_law_near", "_law_cell", "_law_mixed", "_law_digit"]
def I__law_draw : IS := (.seq (.fset (.dic .b) 0 3 (.bin .Add (.fget (.dic .b) 0 3) (.c (.int 1)))) (.seq (.ife (.cmp .Gt (.fget (.dic .b) 0 2) (.c (.int 0))) (.seq (.asg 5 (.bin .Mod (.bi .int (.cons (.fget (.dic .b) 0 2) .nil)) (.v 1))) (.seq (.fset (.dic .b) 0 2 (.bin .FloorDiv (.fget (.dic .b) 0 2) (.v 1))) (.seq (.ret (.v 5)) .nil))) .nil) (.seq (.asg 2 (.fget (.dic .b) 0 1)) (.seq (.fset (.dic .b) 0 1 (.bin .Add (.v 2) (.c (.int 1)))) (.seq (.asg 3 (.ife (.cmp .NotEq (.fget (.dic .b) 0 0) (.lst .nil)) (.ix (.fget (.dic .b) 0 0) (.bin .Mod (.bi .int (.cons (.v 2) .nil)) (.bi .len (.cons (.fget (.dic .b) 0 0) .nil)))) (.c (.int 827213)))) (.seq (.ife (.band (.cmp .GtE (.v 3) (.bin .Pow (.c (.int 10)) (.c (.int 18)))) (.cmp .Lt (.v 2) (.bi .len (.cons (.fget (.dic .b) 0 0) .nil)))) (.seq (.fset (.dic .b) 0 2 (.bin .FloorDiv (.v 3) (.v 1))) (.seq (.ret (.bin .Mod (.bi .int (.cons (.v 3) .nil)) (.v 1))) .nil)) .nil) (.seq (.asg 4 (.bin .Mod (.bi .int (.cons (.bin .Add (.bin .Add (.bin .Mod (.bi .int (.cons (.v 3) .nil)) (.c (.int 1000032847))) (.bin .Mult (.c (.int 364433)) (.fget (.dic .b) 0 3))) (.c (.int 10667))) .nil)) (.c (.int 2147486261)))) (.seq (.asg 4 (.bin .Mod (.bi .int (.cons (.bin .Add (.bin .Add (.bin .Mult (.v 4) (.v 4)) (.bin .Mult (.c (.int 7807811)) (.fget (.dic .b) 0 3))) (.c (.int 11083))) .nil)) (.c (.int 2147486281)))) (.seq (.ret (.bin .Mod (.bi .int (.cons (.bin .FloorDiv (.bin .Mod (.bi .int (.cons (.bin .Add (.bin .Mult (.v 4) (.v 4)) (.bin .Mult (.c (.int 12983)) (.v 4))) .nil)) (.c (.int 2147487013))) (.c (.int 256))) .nil)) (.v 1))) .nil)))))))))
def nm__law_draw : Str → Option (List Str × List Nat) := fun x => none
def cf__law_draw : Str → List D → Fd → Ou D := fun x => fun _ _ => .no
def g__law_draw : List D → Fd → Ou D := runS cf__law_draw I__law_draw N__law_draw.length
theorem ck__law_draw : chSs N__law_draw nm__law_draw I__law_draw (defScope (topS 67)) (defBody (topS 67)) = true := by decide +kernel
theorem hh__law_draw : hasH nm__law_draw (defScope (topS 67)) = false := by decide +kernel
theorem sc__law_draw : FnScope N__law_draw ["_law_feed_here", "_law_many"] (defScope (topS 67)) := ⟨rfl, rfl, rfl, by decide +kernel, rfl, by decide +kernel, by decide +kernel⟩
/-! ### _law_are_bursts_told -/
def N__law_are_bursts_told : List Str := ["_law_told", "_law_due", "_law_throws_now", "_law_level", "_law_none", "_law_full"]
def I__law_are_bursts_told : IS := (.seq (.paru [2, 3, 4, 5] [false, false, false, false] (.cons (.tup (.cons (.c (.int 1)) (.cons (.c (.int 2)) (.cons (.c (.int 2)) (.cons (.c (.int 3)) .nil))))) (.cons (.tup (.cons (.c (.int 2)) (.cons (.c (.int 2)) (.cons (.c (.int 2)) (.cons (.c (.int 2)) .nil))))) (.cons (.tup (.cons (.c (.int 0)) (.cons (.c (.int 0)) (.cons (.c (.int 0)) .nil)))) (.cons (.tup (.cons (.c (.int 3)) (.cons (.c (.int 3)) (.cons (.c (.int 3)) .nil)))) .nil))))) (.seq (.asg 0 (.lst (.cons (.call "mends_burst" (.cons (.v 2) (.cons (.tup (.cons (.c (.int 0)) (.cons (.c (.int 2)) .nil))) .nil)) .nil) (.cons (.call "mends_burst" (.cons (.v 2) (.cons (.tup (.cons (.c (.int 2)) (.cons (.c (.int 2)) .nil))) .nil)) .nil) (.cons (.call "mends_burst" (.cons (.v 2) (.cons (.tup (.cons (.c (.int 0)) (.cons (.c (.int 0)) .nil))) .nil)) .nil) (.cons (.call "mends_burst" (.cons (.v 2) (.cons (.tup (.cons (.c (.int 3)) (.cons (.c (.int 4)) .nil))) .nil)) .nil) (.cons (.callp "mends_burst" .nil (.cons (.tup (.cons (.c (.int 3)) (.cons (.c (.int 2)) .nil))) (.cons (.v 3) .nil)) [1, 0]) .nil))))))) (.seq (.asg 1 (.lst (.cons (.c (.bl true)) (.cons (.c (.bl false)) (.cons (.c (.bl true)) (.cons (.c (.bl false)) (.cons (.c (.bl true)) .nil))))))) (.seq (.asg 0 (.bin .Add (.v 0) (.lst (.cons (.call "mends_burst" (.cons (.v 3) (.cons (.tup (.cons (.c (.int 1)) (.cons (.c (.int 3)) .nil))) .nil)) .nil) (.cons (.call "mends_burst" (.cons (.v 4) (.cons (.tup (.cons (.c (.int 1)) (.cons (.c (.int 3)) .nil))) .nil)) .nil) (.cons (.call "mends_burst" (.cons (.v 5) (.cons (.tup (.cons (.c (.int 2)) (.cons (.c (.int 1)) .nil))) .nil)) .nil) (.cons (.call "mends_burst" (.cons (.tup (.cons (.c (.int 1)) .nil)) (.cons (.tup (.cons (.c (.int 0)) (.cons (.c (.int 1)) .nil))) .nil)) .nil) (.cons (.call "mends_burst" (.cons (.tup (.cons (.c (.int 0)) .nil)) (.cons (.tup (.cons (.c (.int 0)) (.cons (.c (.int 1)) .nil))) .nil)) .nil) (.cons (.call "mends_burst" (.cons (.tup (.cons (.c (.int 0)) (.cons (.c (.int 2)) .nil))) (.cons (.tup (.cons (.c (.int 0)) (.cons (.c (.int 1)) .nil))) .nil)) .nil) .nil))))))))) (.seq (.asg 1 (.bin .Add (.v 1) (.lst (.cons (.c (.bl false)) (.cons (.c (.bl true)) (.cons (.c (.bl false)) (.cons (.c (.bl false)) (.cons (.c (.bl true)) (.cons (.c (.bl true)) .nil))))))))) (.seq (.asg 0 (.bin .Add (.v 0) (.lst (.cons (.call "most_burst" (.cons (.v 2) .nil) .nil) (.cons (.call "most_burst" (.cons (.v 3) .nil) .nil) (.cons (.call "most_burst" (.cons (.v 4) .nil) .nil) (.cons (.call "most_burst" .nil (.cons (.v 5) .nil)) (.cons (.call "most_window" (.cons (.v 2) .nil) .nil) (.cons (.call "most_window" (.cons (.v 3) .nil) .nil) (.cons (.call "most_window" (.cons (.v 4) .nil) .nil) (.cons (.call "most_window" .nil (.cons (.v 5) .nil)) .nil))))))))))) (.seq (.asg 1 (.bin .Add (.v 1) (.lst (.cons (.c (.int 1)) (.cons (.c (.int 2)) (.cons (.c (.int 3)) (.cons (.c (.int 0)) (.cons (.c (.int 1)) (.cons (.c (.int 2)) (.cons (.c (.int 0)) (.cons (.c (.int 3)) .nil))))))))))) (.seq (.asg 0 (.bin .Add (.v 0) (.lst (.cons (.call "open_rank" (.cons (.v 2) (.cons (.tup (.cons (.c (.int 2)) (.cons (.c (.int 2)) .nil))) .nil)) .nil) (.cons (.call "open_rank" (.cons (.v 2) (.cons (.tup (.cons (.c (.int 1)) (.cons (.c (.int 3)) .nil))) .nil)) .nil) (.cons (.call "open_rank" (.cons (.v 2) (.cons (.tup (.cons (.c (.int 3)) (.cons (.c (.int 4)) .nil))) .nil)) .nil) (.cons (.call "open_rank" (.cons (.v 2) (.cons (.tup (.cons (.c (.int 0)) (.cons (.c (.int 0)) .nil))) .nil)) .nil) (.cons (.callp "open_rank" .nil (.cons (.tup (.cons (.c (.int 1)) (.cons (.c (.int 2)) .nil))) (.cons (.tup (.cons (.c (.int 0)) (.cons (.c (.int 1)) (.cons (.c (.int 2)) .nil)))) .nil)) [1, 0]) (.cons (.call "open_rank" (.cons (.v 5) (.cons (.tup (.cons (.c (.int 0)) (.cons (.c (.int 2)) .nil))) .nil)) .nil) .nil))))))))) (.seq (.ret (.call "_law_same" (.cons (.v 0) (.cons (.bin .Add (.v 1) (.lst (.cons (.c (.int 1)) (.cons (.c (.int 1)) (.cons (.c (.int 2)) (.cons (.c (.int 0)) (.cons (.c (.int 1)) (.cons (.c (.int 2)) .nil)))))))) .nil)) .nil)) .nil)))))))))
def nm__law_are_bursts_told : Str → Option (List Str × List Nat) := fun x => if x = "mends_burst" then some (["pattern", "stretch"], [2, 2021]) else if x = "most_window" then some (["pattern"], [0, 1]) else if x = "most_burst" then some (["pattern"], [0, 1]) else if x = "open_rank" then some (["pattern", "stretch"], [2, 2021]) else if x = "_law_same" then some (["_law_heard_here", "_law_due"], [2]) else none
def cf__law_are_bursts_told : Str → List D → Fd → Ou D := fun x => if x = "mends_burst" then g_mends_burst else if x = "most_window" then g_most_window else if x = "most_burst" then g_most_burst else if x = "open_rank" then g_open_rank else if x = "_law_same" then sameF else fun _ _ => .no
def g__law_are_bursts_told : List D → Fd → Ou D := runS cf__law_are_bursts_told I__law_are_bursts_told N__law_are_bursts_told.length
theorem ck__law_are_bursts_told : chSs N__law_are_bursts_told nm__law_are_bursts_told I__law_are_bursts_told (defScope (topS 69)) (defBody (topS 69)) = true := by decide +kernel
theorem hh__law_are_bursts_told : hasH nm__law_are_bursts_told (defScope (topS 69)) = false := by decide +kernel
theorem sc__law_are_bursts_told : FnScope N__law_are_bursts_told [] (defScope (topS 69)) := ⟨rfl, rfl, rfl, by decide +kernel, rfl, by decide +kernel, by decide +kernel⟩
/-! ### _law_are_menders_told -/
def N__law_are_menders_told : List Str := ["_law_throws_now", "_law_told", "_law_due"]
def I__law_are_menders_told : IS := (.seq (.asg 0 (.tup (.cons (.c (.int 1)) (.cons (.c (.int 2)) (.cons (.c (.int 2)) (.cons (.c (.int 3)) .nil)))))) (.seq (.asg 1 (.lst (.cons (.call "next_ones" (.cons (.v 0) (.cons (.c (.int 3)) .nil)) .nil) (.cons (.call "next_ones" (.cons (.v 0) (.cons (.c (.int 0)) .nil)) .nil) (.cons (.call "next_ones" (.cons (.tup (.cons (.c (.int 0)) (.cons (.c (.int 2)) .nil))) (.cons (.c (.int 0)) .nil)) .nil) (.cons (.call "next_ones" (.cons (.tup (.cons (.c (.int 0)) (.cons (.c (.int 2)) .nil))) (.cons (.c (.int 1)) .nil)) .nil) (.cons (.callp "next_ones" .nil (.cons (.c (.int 2)) (.cons (.tup (.cons (.c (.int 2)) (.cons (.c (.int 0)) (.cons (.c (.int 1)) .nil)))) .nil)) [1, 0]) (.cons (.call "next_ones" (.cons (.tup (.cons (.c (.int 1)) .nil)) (.cons (.c (.int 0)) .nil)) .nil) .nil)))))))) (.seq (.asg 2 (.lst (.cons (.tup (.cons (.c (.int 0)) (.cons (.c (.int 1)) (.cons (.c (.int 2)) .nil)))) (.cons (.tup (.cons (.c (.int 1)) .nil)) (.cons (.tup .nil) (.cons (.tup (.cons (.c (.int 0)) (.cons (.c (.int 1)) .nil))) (.cons (.tup (.cons (.c (.int 0)) .nil)) (.cons (.tup (.cons (.c (.int 0)) .nil)) .nil)))))))) (.seq (.asg 1 (.bin .Add (.v 1) (.lst (.cons (.call "ones_before" (.cons (.v 0) (.cons (.c (.int 2)) .nil)) .nil) (.cons (.call "ones_before" (.cons (.v 0) (.cons (.c (.int 1)) .nil)) .nil) (.cons (.call "ones_before" (.cons (.tup (.cons (.c (.int 0)) (.cons (.c (.int 2)) .nil))) (.cons (.c (.int 0)) .nil)) .nil) (.cons (.call "ones_before" (.cons (.tup (.cons (.c (.int 0)) (.cons (.c (.int 2)) .nil))) (.cons (.c (.int 1)) .nil)) .nil) (.cons (.callp "ones_before" .nil (.cons (.c (.int 0)) (.cons (.v 0) .nil)) [1, 0]) (.cons (.call "ones_before" (.cons (.tup (.cons (.c (.int 0)) .nil)) (.cons (.c (.int 0)) .nil)) .nil) .nil))))))))) (.seq (.asg 2 (.bin .Add (.v 2) (.lst (.cons (.tup (.cons (.c (.int 3)) (.cons (.c (.int 0)) (.cons (.c (.int 1)) .nil)))) (.cons (.tup (.cons (.c (.int 0)) .nil)) (.cons (.tup .nil) (.cons (.tup (.cons (.c (.int 1)) (.cons (.c (.int 0)) .nil))) (.cons (.tup (.cons (.c (.int 2)) (.cons (.c (.int 3)) .nil))) (.cons (.tup .nil) .nil))))))))) (.seq (.asg 1 (.bin .Add (.v 1) (.lst (.cons (.call "chain_of" (.cons (.v 0) (.cons (.c (.int 0)) .nil)) .nil) (.cons (.call "chain_of" (.cons (.tup (.cons (.c (.int 0)) (.cons (.c (.int 3)) (.cons (.c (.int 3)) .nil)))) (.cons (.c (.int 1)) .nil)) .nil) (.cons (.callp "chain_of" .nil (.cons (.c (.int 3)) (.cons (.v 0) .nil)) [1, 0]) (.cons (.call "chain_of" (.cons (.tup (.cons (.c (.int 2)) (.cons (.c (.int 2)) (.cons (.c (.int 2)) (.cons (.c (.int 2)) .nil))))) (.cons (.c (.int 1)) .nil)) .nil) (.cons (.call "chain_of" (.cons (.tup (.cons (.c (.int 0)) .nil)) (.cons (.c (.int 0)) .nil)) .nil) .nil)))))))) (.seq (.ret (.call "_law_same" (.cons (.v 1) (.cons (.bin .Add (.v 2) (.lst (.cons (.tup (.cons (.c (.int 0)) (.cons (.c (.int 1)) (.cons (.c (.int 3)) (.cons (.c (.int 2)) .nil))))) (.cons (.tup (.cons (.c (.int 1)) .nil)) (.cons (.tup (.cons (.c (.int 3)) (.cons (.c (.int 2)) (.cons (.c (.int 0)) (.cons (.c (.int 1)) .nil))))) (.cons (.tup (.cons (.c (.int 1)) (.cons (.c (.int 3)) .nil))) (.cons (.tup (.cons (.c (.int 0)) .nil)) .nil))))))) .nil)) .nil)) .nil)))))))
def nm__law_are_menders_told : Str → Option (List Str × List Nat) := fun x => if x = "next_ones" then some (["pattern", "place"], [2, 2021]) else if x = "ones_before" then some (["pattern", "place"], [2, 2021]) else if x = "chain_of" then some (["pattern", "place"], [2, 2021]) else if x = "_law_same" then some (["_law_heard_here", "_law_due"], [2]) else none
def cf__law_are_menders_told : Str → List D → Fd → Ou D := fun x => if x = "next_ones" then g_next_ones else if x = "ones_before" then g_ones_before else if x = "chain_of" then g_chain_of else if x = "_law_same" then sameF else fun _ _ => .no
def g__law_are_menders_told : List D → Fd → Ou D := runS cf__law_are_menders_told I__law_are_menders_told N__law_are_menders_told.length
theorem ck__law_are_menders_told : chSs N__law_are_menders_told nm__law_are_menders_told I__law_are_menders_told (defScope (topS 70)) (defBody (topS 70)) = true := by decide +kernel
theorem hh__law_are_menders_told : hasH nm__law_are_menders_told (defScope (topS 70)) = false := by decide +kernel
theorem sc__law_are_menders_told : FnScope N__law_are_menders_told [] (defScope (topS 70)) := ⟨rfl, rfl, rfl, by decide +kernel, rfl, by decide +kernel, by decide +kernel⟩
/-! ### _law_are_losses_told -/
def N__law_are_losses_told : List Str := ["_law_told", "_law_due", "_law_lines", "_law_twins", "_law_none"]
def I__law_are_losses_told : IS := (.seq (.paru [2, 3, 4] [false, false, false] (.cons (.tup (.cons (.c (.int 7)) (.cons (.c (.int 4)) (.cons (.tup (.cons (.tup (.cons (.c (.int 1)) (.cons (.c (.int 0)) (.cons (.c (.int 6)) (.cons (.c (.int 5)) .nil))))) (.cons (.tup (.cons (.c (.int 0)) (.cons (.c (.int 1)) (.cons (.c (.int 2)) (.cons (.c (.int 3)) .nil))))) .nil))) .nil)))) (.cons (.tup (.cons (.c (.int 2)) (.cons (.c (.int 4)) (.cons (.tup (.cons (.tup (.cons (.c (.int 1)) (.cons (.c (.int 1)) (.cons (.c (.int 0)) (.cons (.c (.int 1)) .nil))))) (.cons (.tup (.cons (.c (.int 0)) (.cons (.c (.int 0)) (.cons (.c (.int 1)) (.cons (.c (.int 1)) .nil))))) .nil))) .nil)))) (.cons (.tup (.cons (.c (.int 3)) (.cons (.c (.int 2)) (.cons (.tup .nil) .nil)))) .nil)))) (.seq (.asg 0 (.lst (.cons (.call "filled" (.cons (.v 3) (.cons (.tup (.cons (.c (.int 1)) (.cons (.c .non) (.cons (.c .non) (.cons (.c (.int 1)) .nil))))) .nil)) .nil) (.cons (.call "filled" (.cons (.v 2) (.cons (.tup (.cons (.c .non) (.cons (.c (.int 0)) (.cons (.c (.int 4)) (.cons (.c .non) .nil))))) .nil)) .nil) (.cons (.call "filled" (.cons (.v 2) (.cons (.tup (.cons (.c (.int 3)) (.cons (.c (.int 0)) (.cons (.c (.int 4)) (.cons (.c (.int 1)) .nil))))) .nil)) .nil) (.cons (.call "filled" (.cons (.v 4) (.cons (.tup (.cons (.c (.int 0)) (.cons (.c (.int 0)) .nil))) .nil)) .nil) (.cons (.callp "filled" .nil (.cons (.tup (.cons (.c .non) (.cons (.c .non) .nil))) (.cons (.v 4) .nil)) [1, 0]) (.cons (.call "filled" (.cons (.tup (.cons (.c (.int 5)) (.cons (.c (.int 1)) (.cons (.tup .nil) .nil)))) (.cons (.tup (.cons (.c .non) .nil)) .nil)) .nil) .nil)))))))) (.seq (.asg 1 (.lst (.cons (.tup (.cons (.c (.int 1)) (.cons (.c (.int 1)) (.cons (.c (.int 0)) (.cons (.c (.int 1)) .nil))))) (.cons (.tup (.cons (.c (.int 3)) (.cons (.c (.int 0)) (.cons (.c (.int 4)) (.cons (.c (.int 1)) .nil))))) (.cons (.tup (.cons (.c (.int 3)) (.cons (.c (.int 0)) (.cons (.c (.int 4)) (.cons (.c (.int 1)) .nil))))) (.cons (.tup (.cons (.c (.int 0)) (.cons (.c (.int 0)) .nil))) (.cons (.tup (.cons (.c (.int 0)) (.cons (.c (.int 0)) .nil))) (.cons (.tup (.cons (.c (.int 0)) .nil)) .nil)))))))) (.seq (.asg 0 (.bin .Add (.v 0) (.lst (.cons (.call "open_words" (.cons (.v 3) (.cons (.tup (.cons (.c (.int 2)) (.cons (.c (.int 2)) .nil))) .nil)) .nil) (.cons (.call "open_words" (.cons (.v 2) (.cons (.tup (.cons (.c (.int 1)) (.cons (.c (.int 2)) .nil))) .nil)) .nil) (.cons (.call "open_words" (.cons (.v 3) (.cons (.tup (.cons (.c (.int 3)) (.cons (.c (.int 4)) .nil))) .nil)) .nil) (.cons (.callp "open_words" .nil (.cons (.tup (.cons (.c (.int 0)) (.cons (.c (.int 0)) .nil))) (.cons (.v 3) .nil)) [1, 0]) (.cons (.call "open_words" (.cons (.v 2) (.cons (.tup (.cons (.c (.int 3)) (.cons (.c (.int 3)) .nil))) .nil)) .nil) (.cons (.call "open_words" (.cons (.v 3) (.cons (.tup (.cons (.c (.int 3)) (.cons (.c (.int 2)) .nil))) .nil)) .nil) .nil))))))))) (.seq (.asg 1 (.bin .Add (.v 1) (.lst (.cons (.tup (.cons (.c (.int 2)) (.cons (.c (.int 4)) (.cons (.tup (.cons (.tup (.cons (.c (.int 0)) (.cons (.c (.int 0)) (.cons (.c (.int 1)) (.cons (.c (.int 1)) .nil))))) .nil)) .nil)))) (.cons (.tup (.cons (.c (.int 7)) (.cons (.c (.int 4)) (.cons (.tup .nil) .nil)))) (.cons (.v 3) (.cons (.tup (.cons (.c (.int 2)) (.cons (.c (.int 4)) (.cons (.tup .nil) .nil)))) (.cons (.tup (.cons (.c (.int 7)) (.cons (.c (.int 4)) (.cons (.tup (.cons (.tup (.cons (.c (.int 1)) (.cons (.c (.int 4)) (.cons (.c (.int 0)) (.cons (.c (.int 3)) .nil))))) .nil)) .nil)))) (.cons (.tup (.cons (.c (.int 2)) (.cons (.c (.int 4)) (.cons (.tup .nil) .nil)))) .nil))))))))) (.seq (.asg 0 (.bin .Add (.v 0) (.lst (.cons (.call "holds_any" (.cons (.v 3) (.cons (.tup (.cons (.c (.int 0)) (.cons (.c (.int 2)) .nil))) .nil)) .nil) (.cons (.call "holds_any" (.cons (.v 3) (.cons (.tup (.cons (.c (.int 1)) (.cons (.c (.int 2)) .nil))) .nil)) .nil) (.cons (.call "holds_any" (.cons (.v 2) (.cons (.tup (.cons (.c (.int 3)) (.cons (.c (.int 2)) .nil))) .nil)) .nil) (.cons (.callp "holds_any" .nil (.cons (.tup (.cons (.c (.int 1)) (.cons (.c (.int 0)) .nil))) (.cons (.v 4) .nil)) [1, 0]) (.cons (.call "holds_any" (.cons (.v 4) (.cons (.tup (.cons (.c (.int 0)) (.cons (.c (.int 1)) .nil))) .nil)) .nil) (.cons (.call "holds_any" (.cons (.v 2) (.cons (.tup (.cons (.c (.int 0)) (.cons (.c (.int 3)) .nil))) .nil)) .nil) .nil))))))))) (.seq (.ret (.call "_law_same" (.cons (.v 0) (.cons (.bin .Add (.v 1) (.lst (.cons (.c (.bl false)) (.cons (.c (.bl true)) (.cons (.c (.bl true)) (.cons (.c (.bl true)) (.cons (.c (.bl false)) (.cons (.c (.bl false)) .nil)))))))) .nil)) .nil)) .nil)))))))
def nm__law_are_losses_told : Str → Option (List Str × List Nat) := fun x => if x = "filled" then some (["book", "digits"], [2, 2021]) else if x = "open_words" then some (["book", "stretch"], [2, 2021]) else if x = "holds_any" then some (["book", "stretch"], [2, 2021]) else if x = "_law_same" then some (["_law_heard_here", "_law_due"], [2]) else none
def cf__law_are_losses_told : Str → List D → Fd → Ou D := fun x => if x = "filled" then g_filled else if x = "open_words" then g_open_words else if x = "holds_any" then g_holds_any else if x = "_law_same" then sameF else fun _ _ => .no
def g__law_are_losses_told : List D → Fd → Ou D := runS cf__law_are_losses_told I__law_are_losses_told N__law_are_losses_told.length
theorem ck__law_are_losses_told : chSs N__law_are_losses_told nm__law_are_losses_told I__law_are_losses_told (defScope (topS 71)) (defBody (topS 71)) = true := by decide +kernel
theorem hh__law_are_losses_told : hasH nm__law_are_losses_told (defScope (topS 71)) = false := by decide +kernel
theorem sc__law_are_losses_told : FnScope N__law_are_losses_told [] (defScope (topS 71)) := ⟨rfl, rfl, rfl, by decide +kernel, rfl, by decide +kernel, by decide +kernel⟩
/-! ### _law_are_torn -/
def N__law_are_torn : List Str := ["_law_told", "_law_lines", "_law_twins"]
def I__law_are_torn : IS := (.seq (.paru [1, 2] [false, false] (.cons (.tup (.cons (.c (.int 7)) (.cons (.c (.int 4)) (.cons (.tup (.cons (.tup (.cons (.c (.int 1)) (.cons (.c (.int 0)) (.cons (.c (.int 6)) (.cons (.c (.int 5)) .nil))))) (.cons (.tup (.cons (.c (.int 0)) (.cons (.c (.int 1)) (.cons (.c (.int 2)) (.cons (.c (.int 3)) .nil))))) .nil))) .nil)))) (.cons (.tup (.cons (.c (.int 2)) (.cons (.c (.int 4)) (.cons (.tup (.cons (.tup (.cons (.c (.int 1)) (.cons (.c (.int 1)) (.cons (.c (.int 0)) (.cons (.c (.int 1)) .nil))))) (.cons (.tup (.cons (.c (.int 0)) (.cons (.c (.int 0)) (.cons (.c (.int 1)) (.cons (.c (.int 1)) .nil))))) .nil))) .nil)))) .nil))) (.seq (.own 0 (.lst (.cons (.heard "_law_heard" (.call "filled" (.cons (.v 2) (.cons (.tup (.cons (.c (.int 1)) (.cons (.c (.int 0)) (.cons (.c (.int 0)) (.cons (.c .non) .nil))))) .nil)) .nil)) .nil))) (.seq (.app 0 (.heard "_law_heard" (.call "filled" (.cons (.v 2) (.cons (.tup (.cons (.c (.int 0)) (.cons (.c (.int 0)) (.cons (.c .non) (.cons (.c .non) .nil))))) .nil)) .nil))) (.seq (.app 0 (.heard "_law_heard" (.call "filled" (.cons (.tup (.cons (.c (.int 2)) (.cons (.c (.int 2)) (.cons (.tup .nil) .nil)))) (.cons (.tup (.cons (.c (.int 1)) (.cons (.c .non) .nil))) .nil)) .nil))) (.seq (.app 0 (.ix (.heard "_law_heard" (.call "filled" (.cons (.tup (.cons (.c (.int 3)) (.cons (.c (.int 1)) (.cons (.tup (.cons (.tup (.cons (.c (.int 1)) .nil)) .nil)) .nil)))) (.cons (.tup (.cons (.c .non) .nil)) .nil)) .nil)) (.c (.int 0)))) (.seq (.app 0 (.ix (.heard "_law_heard" (.callp "filled" .nil (.cons (.tup (.cons (.c .non) (.cons (.c .non) (.cons (.c .non) (.cons (.c (.int 6)) .nil))))) (.cons (.v 1) .nil)) [1, 0])) (.c (.int 0)))) (.seq (.frz 0) (.seq (.ret (.call "_law_same" (.cons (.v 0) (.cons (.lst (.cons (.tup (.cons (.c (.str "torn")) (.cons (.tup (.cons (.c (.int 1)) (.cons (.c (.int 1)) (.cons (.c (.int 0)) (.cons (.c (.int 0)) .nil))))) .nil))) (.cons (.tup (.cons (.c (.str "lost")) (.cons (.tup (.cons (.c (.int 0)) (.cons (.c (.int 0)) (.cons (.c (.int 1)) (.cons (.c (.int 1)) .nil))))) .nil))) (.cons (.tup (.cons (.c (.str "torn")) (.cons (.tup (.cons (.c (.int 1)) (.cons (.c (.int 0)) .nil))) .nil))) (.cons (.c (.str "lost")) (.cons (.c (.str "lost")) .nil)))))) .nil)) .nil)) .nil))))))))
def nm__law_are_torn : Str → Option (List Str × List Nat) := fun x => if x = "filled" then some (["book", "digits"], [2, 2021]) else if x = "_law_same" then some (["_law_heard_here", "_law_due"], [2]) else if x = "_law_heard" then some (["_law_call"], []) else none
def cf__law_are_torn : Str → List D → Fd → Ou D := fun x => if x = "filled" then g_filled else if x = "_law_same" then sameF else if x = "_law_heard" then g__law_heard else fun _ _ => .no
def g__law_are_torn : List D → Fd → Ou D := runS cf__law_are_torn I__law_are_torn N__law_are_torn.length
theorem ck__law_are_torn : chSs N__law_are_torn nm__law_are_torn I__law_are_torn (defScope (topS 72)) (defBody (topS 72)) = true := by decide +kernel
theorem sc__law_are_torn : FnScope N__law_are_torn [] (defScope (topS 72)) := ⟨rfl, rfl, rfl, by decide +kernel, rfl, by decide +kernel, by decide +kernel⟩
/-! ### _law_are_stretches_refused -/
def N__law_are_stretches_refused : List Str := ["_law_odd", "_law_throws_now", "_law_twins", "_law_told"]
def I__law_are_stretches_refused : IS := (.seq (.paru [1, 2, 3] [false, false, true] (.cons (.tup (.cons (.c (.int 1)) (.cons (.c (.int 2)) (.cons (.c (.int 2)) (.cons (.c (.int 3)) .nil))))) (.cons (.tup (.cons (.c (.int 2)) (.cons (.c (.int 4)) (.cons (.tup (.cons (.tup (.cons (.c (.int 1)) (.cons (.c (.int 1)) (.cons (.c (.int 0)) (.cons (.c (.int 1)) .nil))))) (.cons (.tup (.cons (.c (.int 0)) (.cons (.c (.int 0)) (.cons (.c (.int 1)) (.cons (.c (.int 1)) .nil))))) .nil))) .nil)))) (.cons (.lst .nil) .nil)))) (.seq (.loop (.v 0) (.lst (.cons (.c .non) (.cons (.tup .nil) (.cons (.tup (.cons (.c (.int 4)) (.cons (.c (.int 1)) .nil))) (.cons (.tup (.cons (.c (.int 0)) (.cons (.c (.int 5)) .nil))) (.cons (.tup (.cons (.c (.int 0)) (.cons (.neg (.c (.int 1))) .nil))) (.cons (.tup (.cons (.neg (.c (.int 1))) (.cons (.c (.int 1)) .nil))) (.cons (.tup (.cons (.c (.bl true)) (.cons (.c (.int 1)) .nil))) (.cons (.tup (.cons (.c (.int 0)) (.cons (.c (.bl true)) .nil))) (.cons (.lst (.cons (.c (.int 0)) (.cons (.c (.int 1)) .nil))) (.cons (.tup (.cons (.c (.int 0)) (.cons (.c (.int 1)) (.cons (.c (.int 2)) .nil)))) (.cons (.c (.str "01")) (.cons (.c (.int 0)) (.cons (.tup (.cons (.c (.int 0)) (.cons (.c .non) .nil))) (.cons (.tup (.cons (.tup (.cons (.c (.int 0)) .nil)) (.cons (.c (.int 1)) .nil))) (.cons (.tup (.cons (.lst (.cons (.c (.int 0)) .nil)) (.cons (.c (.int 1)) .nil))) .nil)))))))))))))))) (.seq (.app 3 (.heard "_law_heard" (.call "mends_burst" (.cons (.v 1) (.cons (.v 0) .nil)) .nil))) (.seq (.app 3 (.heard "_law_heard" (.call "open_rank" (.cons (.v 1) (.cons (.v 0) .nil)) .nil))) (.seq (.app 3 (.heard "_law_heard" (.call "open_words" (.cons (.v 2) (.cons (.v 0) .nil)) .nil))) (.seq (.app 3 (.heard "_law_heard" (.call "holds_any" (.cons (.v 2) (.cons (.v 0) .nil)) .nil))) .nil))))) (.seq (.frz 3) (.seq (.ret (.call "_law_same" (.cons (.v 3) (.cons (.bin .Mult (.lst (.cons (.tup (.cons (.c (.str "use")) (.cons (.c (.str "stretch")) (.cons (.neg (.c (.int 1))) .nil)))) .nil)) (.c (.int 60))) .nil)) .nil)) .nil))))
def nm__law_are_stretches_refused : Str → Option (List Str × List Nat) := fun x => if x = "mends_burst" then some (["pattern", "stretch"], [2, 2021]) else if x = "open_rank" then some (["pattern", "stretch"], [2, 2021]) else if x = "open_words" then some (["book", "stretch"], [2, 2021]) else if x = "holds_any" then some (["book", "stretch"], [2, 2021]) else if x = "_law_same" then some (["_law_heard_here", "_law_due"], [2]) else if x = "_law_heard" then some (["_law_call"], []) else none
def cf__law_are_stretches_refused : Str → List D → Fd → Ou D := fun x => if x = "mends_burst" then g_mends_burst else if x = "open_rank" then g_open_rank else if x = "open_words" then g_open_words else if x = "holds_any" then g_holds_any else if x = "_law_same" then sameF else if x = "_law_heard" then g__law_heard else fun _ _ => .no
def g__law_are_stretches_refused : List D → Fd → Ou D := runS cf__law_are_stretches_refused I__law_are_stretches_refused N__law_are_stretches_refused.length
theorem ck__law_are_stretches_refused : chSs N__law_are_stretches_refused nm__law_are_stretches_refused I__law_are_stretches_refused (defScope (topS 73)) (defBody (topS 73)) = true := by decide +kernel
theorem sc__law_are_stretches_refused : FnScope N__law_are_stretches_refused [] (defScope (topS 73)) := ⟨rfl, rfl, rfl, by decide +kernel, rfl, by decide +kernel, by decide +kernel⟩
/-! ### _law_are_others_refused -/
def N__law_are_others_refused : List Str := ["_law_odd", "_law_told", "_law_throws_now", "_law_lines"]
def I__law_are_others_refused : IS := (.seq (.paru [2, 3, 1] [false, false, true] (.cons (.tup (.cons (.c (.int 1)) (.cons (.c (.int 2)) (.cons (.c (.int 2)) (.cons (.c (.int 3)) .nil))))) (.cons (.tup (.cons (.c (.int 7)) (.cons (.c (.int 4)) (.cons (.tup (.cons (.tup (.cons (.c (.int 1)) (.cons (.c (.int 0)) (.cons (.c (.int 6)) (.cons (.c (.int 5)) .nil))))) (.cons (.tup (.cons (.c (.int 0)) (.cons (.c (.int 1)) (.cons (.c (.int 2)) (.cons (.c (.int 3)) .nil))))) .nil))) .nil)))) (.cons (.lst .nil) .nil)))) (.seq (.loop (.v 0) (.lst (.cons (.c .non) (.cons (.c (.int 4)) (.cons (.neg (.c (.int 1))) (.cons (.c (.bl true)) (.cons (.c (.bl false)) (.cons (.c (.str "0")) (.cons (.tup (.cons (.c (.int 0)) .nil)) (.cons (.lst (.cons (.c (.int 0)) .nil)) .nil))))))))) (.seq (.app 1 (.heard "_law_heard" (.call "next_ones" (.cons (.v 2) (.cons (.v 0) .nil)) .nil))) (.seq (.app 1 (.heard "_law_heard" (.call "ones_before" (.cons (.v 2) (.cons (.v 0) .nil)) .nil))) (.seq (.app 1 (.heard "_law_heard" (.call "chain_of" (.cons (.v 2) (.cons (.v 0) .nil)) .nil))) .nil)))) (.seq (.frz 1) (.seq (.ife (.not (.call "_law_same" (.cons (.v 1) (.cons (.bin .Mult (.lst (.cons (.tup (.cons (.c (.str "use")) (.cons (.c (.str "place")) (.cons (.neg (.c (.int 1))) .nil)))) .nil)) (.c (.int 24))) .nil)) .nil)) (.seq (.ret (.c (.bl false))) .nil) .nil) (.seq (.own 1 (.lst .nil)) (.seq (.loop (.v 0) (.lst (.cons (.c .non) (.cons (.tup .nil) (.cons (.tup (.cons (.c (.int 0)) (.cons (.c (.int 0)) (.cons (.c (.int 0)) .nil)))) (.cons (.bin .Mult (.tup (.cons (.c (.int 0)) .nil)) (.c (.int 5))) (.cons (.lst (.cons (.c (.int 0)) (.cons (.c (.int 0)) (.cons (.c (.int 0)) (.cons (.c (.int 0)) .nil))))) (.cons (.tup (.cons (.c (.int 0)) (.cons (.c (.int 0)) (.cons (.c (.int 0)) (.cons (.c (.int 7)) .nil))))) (.cons (.tup (.cons (.c (.int 0)) (.cons (.c (.int 0)) (.cons (.c (.int 0)) (.cons (.neg (.c (.int 1))) .nil))))) (.cons (.tup (.cons (.c (.int 0)) (.cons (.c (.int 0)) (.cons (.c (.bl true)) (.cons (.c (.int 0)) .nil))))) (.cons (.tup (.cons (.c (.int 0)) (.cons (.c .non) (.cons (.c (.int 0)) (.cons (.c .non) .nil))))) (.cons (.tup (.cons (.c .non) (.cons (.c (.int 0)) (.cons (.c .non) (.cons (.c (.int 0)) .nil))))) (.cons (.c (.str "0000")) (.cons (.tup (.cons (.c (.int 0)) (.cons (.c (.int 0)) (.cons (.c (.str "0")) (.cons (.c (.int 0)) .nil))))) (.cons (.tup (.cons (.c (.int 0)) (.cons (.c (.int 0)) (.cons (.tup (.cons (.c (.int 0)) .nil)) (.cons (.c (.int 0)) .nil))))) (.cons (.tup (.cons (.c (.bl false)) (.cons (.c .non) (.cons (.c (.int 0)) (.cons (.c (.int 0)) .nil))))) .nil))))))))))))))) (.seq (.app 1 (.heard "_law_heard" (.call "filled" (.cons (.v 3) (.cons (.v 0) .nil)) .nil))) .nil)) (.seq (.frz 1) (.seq (.ret (.call "_law_same" (.cons (.v 1) (.cons (.bin .Mult (.lst (.cons (.tup (.cons (.c (.str "use")) (.cons (.c (.str "digits")) (.cons (.neg (.c (.int 1))) .nil)))) .nil)) (.c (.int 14))) .nil)) .nil)) .nil))))))))
def nm__law_are_others_refused : Str → Option (List Str × List Nat) := fun x => if x = "next_ones" then some (["pattern", "place"], [2, 2021]) else if x = "ones_before" then some (["pattern", "place"], [2, 2021]) else if x = "chain_of" then some (["pattern", "place"], [2, 2021]) else if x = "_law_same" then some (["_law_heard_here", "_law_due"], [2]) else if x = "filled" then some (["book", "digits"], [2, 2021]) else if x = "_law_heard" then some (["_law_call"], []) else none
def cf__law_are_others_refused : Str → List D → Fd → Ou D := fun x => if x = "next_ones" then g_next_ones else if x = "ones_before" then g_ones_before else if x = "chain_of" then g_chain_of else if x = "_law_same" then sameF else if x = "filled" then g_filled else if x = "_law_heard" then g__law_heard else fun _ _ => .no
def g__law_are_others_refused : List D → Fd → Ou D := runS cf__law_are_others_refused I__law_are_others_refused N__law_are_others_refused.length
theorem ck__law_are_others_refused : chSs N__law_are_others_refused nm__law_are_others_refused I__law_are_others_refused (defScope (topS 74)) (defBody (topS 74)) = true := by decide +kernel
theorem sc__law_are_others_refused : FnScope N__law_are_others_refused [] (defScope (topS 74)) := ⟨rfl, rfl, rfl, by decide +kernel, rfl, by decide +kernel, by decide +kernel⟩
/-! ### law -/
def N_law : List Str := ["_law_script", "_law_feed_here"]
def I_law : IS := (.seq (.ife (.cmp .Eq (.call "_law_draw" (.cons (.v 1) (.cons (.c (.int 2)) .nil)) .nil) (.c (.int 0))) (.seq (.ife (.bor (.not (.call "_law_are_bursts_told" .nil .nil)) (.bor (.not (.call "_law_are_menders_told" .nil .nil)) (.not (.call "_law_are_losses_told" .nil .nil)))) (.seq (.ret (.c (.bl false))) .nil) .nil) (.seq (.ret (.band (.call "_law_are_torn" .nil .nil) (.band (.call "_law_are_stretches_refused" .nil .nil) (.call "_law_are_others_refused" .nil .nil)))) .nil)) .nil) (.seq (.ife (.bor (.not (.call "_law_are_others_refused" .nil .nil)) (.bor (.not (.call "_law_are_stretches_refused" .nil .nil)) (.not (.call "_law_are_torn" .nil .nil)))) (.seq (.ret (.c (.bl false))) .nil) .nil) (.seq (.ret (.band (.call "_law_are_losses_told" .nil .nil) (.band (.call "_law_are_menders_told" .nil .nil) (.call "_law_are_bursts_told" .nil .nil)))) .nil)))
def nm_law : Str → Option (List Str × List Nat) := fun x => if x = "_law_draw" then some (["_law_feed_here", "_law_many"], [2]) else if x = "_law_are_losses_told" then some ([], [0]) else if x = "_law_are_menders_told" then some ([], [0]) else if x = "_law_are_bursts_told" then some ([], [0]) else if x = "_law_are_others_refused" then some ([], [0]) else if x = "_law_are_stretches_refused" then some ([], [0]) else if x = "_law_are_torn" then some ([], [0]) else none
def cf_law : Str → List D → Fd → Ou D := fun x => if x = "_law_draw" then g__law_draw else if x = "_law_are_losses_told" then g__law_are_losses_told else if x = "_law_are_menders_told" then g__law_are_menders_told else if x = "_law_are_bursts_told" then g__law_are_bursts_told else if x = "_law_are_others_refused" then g__law_are_others_refused else if x = "_law_are_stretches_refused" then g__law_are_stretches_refused else if x = "_law_are_torn" then g__law_are_torn else fun _ _ => .no
theorem ck_law : chSs N_law nm_law I_law (defScope (topS 75)) (defBody (topS 75)).tail = true := by decide +kernel
theorem hh_law : hasH nm_law (defScope (topS 75)) = false := by decide +kernel
theorem sc_law : FnScope N_law ["_law_script"] (defScope (topS 75)) := ⟨rfl, rfl, rfl, by decide +kernel, rfl, by decide +kernel, by decide +kernel⟩
section
variable {P : Program} {w : World} {K : PySem.W.Frag} {mg : Str → Option Value} {base : Heap} {T : List (Addr × Str)}
theorem cal_demand {f : Addr} {fd : FuncData} (F : L2.Fun K "demand" "demand" (topS 10) f fd) (hm : mg "demand" = some (.ref f)) (blt : ∀ x, x ∈ bNames → mg x = none) (e0 : ExcD P w K mg base 2 "NotUsable" ["word", "at"]) : Cal P w K mg base (KD T) 3 "demand" ["holds", "name"] [2] g_demand := by
  have NM : Nm P w K mg base (KD T) 2 nm_demand cf_demand := by
    refine ⟨fun x ps ns h ne1 ne2 ne3 => ?_, fun x a h => ?_, fun x ns h => ?_, fun c fs h => ?_⟩
    · unfold nm_demand at h
      split at h
      · rename_i e; subst e; cases h; exact absurd List.mem_cons_self ne2
      · skip
        cases h
    · unfold nm_demand at h
      split at h
      · rename_i e; subst e; (exfalso; simp at h)
      · skip
        cases h
    · unfold nm_demand at h
      split at h
      · rename_i e; subst e; (exfalso; simp at h)
      · skip
        cases h
    · unfold nm_demand at h
      split at h
      · rename_i e; subst e; cases h; exact ExcD.mono e0 (by decide)
      · skip
        cases h
  refine cal_of (k := 2) (cf := cf_demand) F hm sc_demand blt (NM.mono (by decide)) (fun h => by rw [hh_demand] at h; cases h) ck_demand (fun kV doc pm an cdv ct n hn us ws h1 h2 => ?_) (fun _ _ _ _ _ _ _ _ _ _ _ h => absurd h (codeO_no (by decide)))
  · simp only [List.mem_cons, List.not_mem_nil, or_false] at hn
    subst hn
    exact (by have z : us.length + ws.length = 2 := h2; have h3 : ws.length = 0 := (by omega); exact match us, h1, ws, h3 with | [a0, a1], _, [], _ => rfl)
theorem cal_lead_of {f : Addr} {fd : FuncData} (F : L2.Fun K "lead_of" "lead_of" (topS 12) f fd) (hm : mg "lead_of" = some (.ref f)) (blt : ∀ x, x ∈ bNames → mg x = none)  : Cal P w K mg base (KD T) 1 "lead_of" ["word"] [1] g_lead_of := by
  have NM : Nm P w K mg base (KD T) 0 nm_lead_of cf_lead_of := by
    refine ⟨fun x ps ns h ne1 ne2 ne3 => ?_, fun x a h => ?_, fun x ns h => ?_, fun c fs h => ?_⟩
    · unfold nm_lead_of at h
      cases h
    · unfold nm_lead_of at h
      cases h
    · unfold nm_lead_of at h
      cases h
    · unfold nm_lead_of at h
      cases h
  refine cal_of (k := 0) (cf := cf_lead_of) F hm sc_lead_of blt (NM.mono (by decide)) (fun h => by rw [hh_lead_of] at h; cases h) ck_lead_of (fun kV doc pm an cdv ct n hn us ws h1 h2 => ?_) (fun _ _ _ _ _ _ _ _ _ _ _ h => absurd h (codeO_no (by decide)))
  · simp only [List.mem_cons, List.not_mem_nil, or_false] at hn
    subst hn
    exact (by have z : us.length + ws.length = 1 := h2; have h3 : ws.length = 0 := (by omega); exact match us, h1, ws, h3 with | [a0], _, [], _ => rfl)
theorem cal_inverse_of {f : Addr} {fd : FuncData} (F : L2.Fun K "inverse_of" "inverse_of" (topS 13) f fd) (hm : mg "inverse_of" = some (.ref f)) (blt : ∀ x, x ∈ bNames → mg x = none)  : Cal P w K mg base (KD T) 1 "inverse_of" ["prime", "digit"] [2] g_inverse_of := by
  have NM : Nm P w K mg base (KD T) 0 nm_inverse_of cf_inverse_of := by
    refine ⟨fun x ps ns h ne1 ne2 ne3 => ?_, fun x a h => ?_, fun x ns h => ?_, fun c fs h => ?_⟩
    · unfold nm_inverse_of at h
      cases h
    · unfold nm_inverse_of at h
      cases h
    · unfold nm_inverse_of at h
      cases h
    · unfold nm_inverse_of at h
      cases h
  refine cal_of (k := 0) (cf := cf_inverse_of) F hm sc_inverse_of blt (NM.mono (by decide)) (fun h => by rw [hh_inverse_of] at h; cases h) ck_inverse_of (fun kV doc pm an cdv ct n hn us ws h1 h2 => ?_) (fun _ _ _ _ _ _ _ _ _ _ _ h => absurd h (codeO_no (by decide)))
  · simp only [List.mem_cons, List.not_mem_nil, or_false] at hn
    subst hn
    exact (by have z : us.length + ws.length = 2 := h2; have h3 : ws.length = 0 := (by omega); exact match us, h1, ws, h3 with | [a0, a1], _, [], _ => rfl)
theorem cal_times {f : Addr} {fd : FuncData} (F : L2.Fun K "times" "times" (topS 14) f fd) (hm : mg "times" = some (.ref f)) (blt : ∀ x, x ∈ bNames → mg x = none)  : Cal P w K mg base (KD T) 1 "times" ["prime", "digit", "word"] [3] g_times := by
  have NM : Nm P w K mg base (KD T) 0 nm_times cf_times := by
    refine ⟨fun x ps ns h ne1 ne2 ne3 => ?_, fun x a h => ?_, fun x ns h => ?_, fun c fs h => ?_⟩
    · unfold nm_times at h
      cases h
    · unfold nm_times at h
      cases h
    · unfold nm_times at h
      cases h
    · unfold nm_times at h
      cases h
  refine cal_of (k := 0) (cf := cf_times) F hm sc_times blt (NM.mono (by decide)) (fun h => by rw [hh_times] at h; cases h) ck_times (fun kV doc pm an cdv ct n hn us ws h1 h2 => ?_) (fun _ _ _ _ _ _ _ _ _ _ _ h => absurd h (codeO_no (by decide)))
  · simp only [List.mem_cons, List.not_mem_nil, or_false] at hn
    subst hn
    exact (by have z : us.length + ws.length = 3 := h2; have h3 : ws.length = 0 := (by omega); exact match us, h1, ws, h3 with | [a0, a1, a2], _, [], _ => rfl)
theorem cal_taken_off {f : Addr} {fd : FuncData} (F : L2.Fun K "taken_off" "taken_off" (topS 15) f fd) (hm : mg "taken_off" = some (.ref f)) (blt : ∀ x, x ∈ bNames → mg x = none)  : Cal P w K mg base (KD T) 1 "taken_off" ["prime", "word", "digit", "row"] [4] g_taken_off := by
  have NM : Nm P w K mg base (KD T) 0 nm_taken_off cf_taken_off := by
    refine ⟨fun x ps ns h ne1 ne2 ne3 => ?_, fun x a h => ?_, fun x ns h => ?_, fun c fs h => ?_⟩
    · unfold nm_taken_off at h
      cases h
    · unfold nm_taken_off at h
      cases h
    · unfold nm_taken_off at h
      cases h
    · unfold nm_taken_off at h
      cases h
  refine cal_of (k := 0) (cf := cf_taken_off) F hm sc_taken_off blt (NM.mono (by decide)) (fun h => by rw [hh_taken_off] at h; cases h) ck_taken_off (fun kV doc pm an cdv ct n hn us ws h1 h2 => ?_) (fun _ _ _ _ _ _ _ _ _ _ _ h => absurd h (codeO_no (by decide)))
  · simp only [List.mem_cons, List.not_mem_nil, or_false] at hn
    subst hn
    exact (by have z : us.length + ws.length = 4 := h2; have h3 : ws.length = 0 := (by omega); exact match us, h1, ws, h3 with | [a0, a1, a2, a3], _, [], _ => rfl)
theorem cal_rest_of {f : Addr} {fd : FuncData} (F : L2.Fun K "rest_of" "rest_of" (topS 16) f fd) (hm : mg "rest_of" = some (.ref f)) (blt : ∀ x, x ∈ bNames → mg x = none) (h0 : Cal P w K mg base (KD T) 1 "taken_off" ["prime", "word", "digit", "row"] [4] g_taken_off) (h1 : Cal P w K mg base (KD T) 1 "lead_of" ["word"] [1] g_lead_of) : Cal P w K mg base (KD T) 2 "rest_of" ["prime", "rows", "word"] [3] g_rest_of := by
  have NM : Nm P w K mg base (KD T) 1 nm_rest_of cf_rest_of := by
    refine ⟨fun x ps ns h ne1 ne2 ne3 => ?_, fun x a h => ?_, fun x ns h => ?_, fun c fs h => ?_⟩
    · unfold nm_rest_of at h
      split at h
      · rename_i e; subst e; cases h; exact Cal0.mono h0 (by decide)
      · skip
        split at h
        · rename_i e; subst e; cases h; exact Cal0.mono h1 (by decide)
        · skip
          cases h
    · unfold nm_rest_of at h
      split at h
      · rename_i e; subst e; (exfalso; simp at h)
      · skip
        split at h
        · rename_i e; subst e; (exfalso; simp at h)
        · skip
          cases h
    · unfold nm_rest_of at h
      split at h
      · rename_i e; subst e; (exfalso; simp at h)
      · skip
        split at h
        · rename_i e; subst e; (exfalso; simp at h)
        · skip
          cases h
    · unfold nm_rest_of at h
      split at h
      · rename_i e; subst e; (exfalso; simp at h)
      · skip
        split at h
        · rename_i e; subst e; (exfalso; simp at h)
        · skip
          cases h
  refine cal_of (k := 1) (cf := cf_rest_of) F hm sc_rest_of blt (NM.mono (by decide)) (fun h => by rw [hh_rest_of] at h; cases h) ck_rest_of (fun kV doc pm an cdv ct n hn us ws h1 h2 => ?_) (fun _ _ _ _ _ _ _ _ _ _ _ h => absurd h (codeO_no (by decide)))
  · simp only [List.mem_cons, List.not_mem_nil, or_false] at hn
    subst hn
    exact (by have z : us.length + ws.length = 3 := h2; have h3 : ws.length = 0 := (by omega); exact match us, h1, ws, h3 with | [a0, a1, a2], _, [], _ => rfl)
theorem cal_rows_with {f : Addr} {fd : FuncData} (F : L2.Fun K "rows_with" "rows_with" (topS 17) f fd) (hm : mg "rows_with" = some (.ref f)) (blt : ∀ x, x ∈ bNames → mg x = none) (h0 : Cal P w K mg base (KD T) 2 "rest_of" ["prime", "rows", "word"] [3] g_rest_of) (h1 : Cal P w K mg base (KD T) 1 "lead_of" ["word"] [1] g_lead_of) (h2 : Cal P w K mg base (KD T) 1 "times" ["prime", "digit", "word"] [3] g_times) (h3 : Cal P w K mg base (KD T) 1 "inverse_of" ["prime", "digit"] [2] g_inverse_of) (h4 : Cal P w K mg base (KD T) 1 "taken_off" ["prime", "word", "digit", "row"] [4] g_taken_off) : Cal P w K mg base (KD T) 3 "rows_with" ["prime", "rows", "word"] [3] g_rows_with := by
  have NM : Nm P w K mg base (KD T) 2 nm_rows_with cf_rows_with := by
    refine ⟨fun x ps ns h ne1 ne2 ne3 => ?_, fun x a h => ?_, fun x ns h => ?_, fun c fs h => ?_⟩
    · unfold nm_rows_with at h
      split at h
      · rename_i e; subst e; cases h; exact Cal0.mono h0 (by decide)
      · skip
        split at h
        · rename_i e; subst e; cases h; exact Cal0.mono h1 (by decide)
        · skip
          split at h
          · rename_i e; subst e; cases h; exact Cal0.mono h2 (by decide)
          · skip
            split at h
            · rename_i e; subst e; cases h; exact Cal0.mono h3 (by decide)
            · skip
              split at h
              · rename_i e; subst e; cases h; exact Cal0.mono h4 (by decide)
              · skip
                cases h
    · unfold nm_rows_with at h
      split at h
      · rename_i e; subst e; (exfalso; simp at h)
      · skip
        split at h
        · rename_i e; subst e; (exfalso; simp at h)
        · skip
          split at h
          · rename_i e; subst e; (exfalso; simp at h)
          · skip
            split at h
            · rename_i e; subst e; (exfalso; simp at h)
            · skip
              split at h
              · rename_i e; subst e; (exfalso; simp at h)
              · skip
                cases h
    · unfold nm_rows_with at h
      split at h
      · rename_i e; subst e; (exfalso; simp at h)
      · skip
        split at h
        · rename_i e; subst e; (exfalso; simp at h)
        · skip
          split at h
          · rename_i e; subst e; (exfalso; simp at h)
          · skip
            split at h
            · rename_i e; subst e; (exfalso; simp at h)
            · skip
              split at h
              · rename_i e; subst e; (exfalso; simp at h)
              · skip
                cases h
    · unfold nm_rows_with at h
      split at h
      · rename_i e; subst e; (exfalso; simp at h)
      · skip
        split at h
        · rename_i e; subst e; (exfalso; simp at h)
        · skip
          split at h
          · rename_i e; subst e; (exfalso; simp at h)
          · skip
            split at h
            · rename_i e; subst e; (exfalso; simp at h)
            · skip
              split at h
              · rename_i e; subst e; (exfalso; simp at h)
              · skip
                cases h
  refine cal_of (k := 2) (cf := cf_rows_with) F hm sc_rows_with blt (NM.mono (by decide)) (fun h => by rw [hh_rows_with] at h; cases h) ck_rows_with (fun kV doc pm an cdv ct n hn us ws h1 h2 => ?_) (fun _ _ _ _ _ _ _ _ _ _ _ h => absurd h (codeO_no (by decide)))
  · simp only [List.mem_cons, List.not_mem_nil, or_false] at hn
    subst hn
    exact (by have z : us.length + ws.length = 3 := h2; have h3 : ws.length = 0 := (by omega); exact match us, h1, ws, h3 with | [a0, a1, a2], _, [], _ => rfl)
theorem cal_settled_rows {f : Addr} {fd : FuncData} (F : L2.Fun K "settled_rows" "settled_rows" (topS 18) f fd) (hm : mg "settled_rows" = some (.ref f)) (blt : ∀ x, x ∈ bNames → mg x = none) (h0 : Cal P w K mg base (KD T) 3 "rows_with" ["prime", "rows", "word"] [3] g_rows_with) : Cal P w K mg base (KD T) 4 "settled_rows" ["prime", "words"] [2] g_settled_rows := by
  have NM : Nm P w K mg base (KD T) 3 nm_settled_rows cf_settled_rows := by
    refine ⟨fun x ps ns h ne1 ne2 ne3 => ?_, fun x a h => ?_, fun x ns h => ?_, fun c fs h => ?_⟩
    · unfold nm_settled_rows at h
      split at h
      · rename_i e; subst e; cases h; exact Cal0.mono h0 (by decide)
      · skip
        cases h
    · unfold nm_settled_rows at h
      split at h
      · rename_i e; subst e; (exfalso; simp at h)
      · skip
        cases h
    · unfold nm_settled_rows at h
      split at h
      · rename_i e; subst e; (exfalso; simp at h)
      · skip
        cases h
    · unfold nm_settled_rows at h
      split at h
      · rename_i e; subst e; (exfalso; simp at h)
      · skip
        cases h
  refine cal_of (k := 3) (cf := cf_settled_rows) F hm sc_settled_rows blt (NM.mono (by decide)) (fun h => by rw [hh_settled_rows] at h; cases h) ck_settled_rows (fun kV doc pm an cdv ct n hn us ws h1 h2 => ?_) (fun _ _ _ _ _ _ _ _ _ _ _ h => absurd h (codeO_no (by decide)))
  · simp only [List.mem_cons, List.not_mem_nil, or_false] at hn
    subst hn
    exact (by have z : us.length + ws.length = 2 := h2; have h3 : ws.length = 0 := (by omega); exact match us, h1, ws, h3 with | [a0, a1], _, [], _ => rfl)
theorem cal_solution_of {f : Addr} {fd : FuncData} (F : L2.Fun K "solution_of" "solution_of" (topS 19) f fd) (hm : mg "solution_of" = some (.ref f)) (blt : ∀ x, x ∈ bNames → mg x = none) (h0 : Cal P w K mg base (KD T) 4 "settled_rows" ["prime", "words"] [2] g_settled_rows) (h1 : Cal P w K mg base (KD T) 1 "lead_of" ["word"] [1] g_lead_of) : Cal P w K mg base (KD T) 5 "solution_of" ["prime", "equations", "many"] [3] g_solution_of := by
  have NM : Nm P w K mg base (KD T) 4 nm_solution_of cf_solution_of := by
    refine ⟨fun x ps ns h ne1 ne2 ne3 => ?_, fun x a h => ?_, fun x ns h => ?_, fun c fs h => ?_⟩
    · unfold nm_solution_of at h
      split at h
      · rename_i e; subst e; cases h; exact Cal0.mono h0 (by decide)
      · skip
        split at h
        · rename_i e; subst e; cases h; exact Cal0.mono h1 (by decide)
        · skip
          cases h
    · unfold nm_solution_of at h
      split at h
      · rename_i e; subst e; (exfalso; simp at h)
      · skip
        split at h
        · rename_i e; subst e; (exfalso; simp at h)
        · skip
          cases h
    · unfold nm_solution_of at h
      split at h
      · rename_i e; subst e; (exfalso; simp at h)
      · skip
        split at h
        · rename_i e; subst e; (exfalso; simp at h)
        · skip
          cases h
    · unfold nm_solution_of at h
      split at h
      · rename_i e; subst e; (exfalso; simp at h)
      · skip
        split at h
        · rename_i e; subst e; (exfalso; simp at h)
        · skip
          cases h
  refine cal_of (k := 4) (cf := cf_solution_of) F hm sc_solution_of blt (NM.mono (by decide)) (fun h => by rw [hh_solution_of] at h; cases h) ck_solution_of (fun kV doc pm an cdv ct n hn us ws h1 h2 => ?_) (fun _ _ _ _ _ _ _ _ _ _ _ h => absurd h (codeO_no (by decide)))
  · simp only [List.mem_cons, List.not_mem_nil, or_false] at hn
    subst hn
    exact (by have z : us.length + ws.length = 3 := h2; have h3 : ws.length = 0 := (by omega); exact match us, h1, ws, h3 with | [a0, a1, a2], _, [], _ => rfl)
theorem cal_is_integer {f : Addr} {fd : FuncData} (F : L2.Fun K "is_integer" "is_integer" (topS 22) f fd) (hm : mg "is_integer" = some (.ref f)) (blt : ∀ x, x ∈ bNames → mg x = none)  : Cal P w K mg base (KD T) 1 "is_integer" ["thing"] [1] g_is_integer := by
  have NM : Nm P w K mg base (KD T) 0 nm_is_integer cf_is_integer := by
    refine ⟨fun x ps ns h ne1 ne2 ne3 => ?_, fun x a h => ?_, fun x ns h => ?_, fun c fs h => ?_⟩
    · unfold nm_is_integer at h
      cases h
    · unfold nm_is_integer at h
      cases h
    · unfold nm_is_integer at h
      cases h
    · unfold nm_is_integer at h
      cases h
  refine cal_of (k := 0) (cf := cf_is_integer) F hm sc_is_integer blt (NM.mono (by decide)) (fun h => by rw [hh_is_integer] at h; cases h) ck_is_integer (fun kV doc pm an cdv ct n hn us ws h1 h2 => ?_) (fun _ _ _ _ _ _ _ _ _ _ _ h => absurd h (codeO_no (by decide)))
  · simp only [List.mem_cons, List.not_mem_nil, or_false] at hn
    subst hn
    exact (by have z : us.length + ws.length = 1 := h2; have h3 : ws.length = 0 := (by omega); exact match us, h1, ws, h3 with | [a0], _, [], _ => rfl)
theorem cal_is_number {f : Addr} {fd : FuncData} (F : L2.Fun K "is_number" "is_number" (topS 23) f fd) (hm : mg "is_number" = some (.ref f)) (blt : ∀ x, x ∈ bNames → mg x = none) (h0 : Cal P w K mg base (KD T) 1 "is_integer" ["thing"] [1] g_is_integer) : Cal P w K mg base (KD T) 2 "is_number" ["thing"] [1] g_is_number := by
  have NM : Nm P w K mg base (KD T) 1 nm_is_number cf_is_number := by
    refine ⟨fun x ps ns h ne1 ne2 ne3 => ?_, fun x a h => ?_, fun x ns h => ?_, fun c fs h => ?_⟩
    · unfold nm_is_number at h
      split at h
      · rename_i e; subst e; cases h; exact Cal0.mono h0 (by decide)
      · skip
        cases h
    · unfold nm_is_number at h
      split at h
      · rename_i e; subst e; (exfalso; simp at h)
      · skip
        cases h
    · unfold nm_is_number at h
      split at h
      · rename_i e; subst e; (exfalso; simp at h)
      · skip
        cases h
    · unfold nm_is_number at h
      split at h
      · rename_i e; subst e; (exfalso; simp at h)
      · skip
        cases h
  refine cal_of (k := 1) (cf := cf_is_number) F hm sc_is_number blt (NM.mono (by decide)) (fun h => by rw [hh_is_number] at h; cases h) ck_is_number (fun kV doc pm an cdv ct n hn us ws h1 h2 => ?_) (fun _ _ _ _ _ _ _ _ _ _ _ h => absurd h (codeO_no (by decide)))
  · simp only [List.mem_cons, List.not_mem_nil, or_false] at hn
    subst hn
    exact (by have z : us.length + ws.length = 1 := h2; have h3 : ws.length = 0 := (by omega); exact match us, h1, ws, h3 with | [a0], _, [], _ => rfl)
theorem cal_is_prime {f : Addr} {fd : FuncData} (F : L2.Fun K "is_prime" "is_prime" (topS 24) f fd) (hm : mg "is_prime" = some (.ref f)) (blt : ∀ x, x ∈ bNames → mg x = none) (h0 : Cal P w K mg base (KD T) 1 "is_integer" ["thing"] [1] g_is_integer) (u0 : ∃ p, mg "PRIMES" = some (.ref p) ∧ ∀ H, SqT K H p (([2, 3, 5, 7, 11, 13] : List Nat).map fun n => V.int (n : Nat))) : Cal P w K mg base (KD T) 2 "is_prime" ["thing"] [1] g_is_prime := by
  have NM : Nm P w K mg base (KD T) 1 nm_is_prime cf_is_prime := by
    refine ⟨fun x ps ns h ne1 ne2 ne3 => ?_, fun x a h => ?_, fun x ns h => ?_, fun c fs h => ?_⟩
    · unfold nm_is_prime at h
      split at h
      · rename_i e; subst e; cases h; exact Cal0.mono h0 (by decide)
      · skip
        split at h
        · rename_i e; subst e; cases h; exact absurd List.mem_cons_self ne3
        · skip
          cases h
    · unfold nm_is_prime at h
      split at h
      · rename_i e; subst e; (exfalso; simp at h)
      · skip
        split at h
        · rename_i e; subst e; (exfalso; simp at h)
        · skip
          cases h
    · unfold nm_is_prime at h
      split at h
      · rename_i e; subst e; (exfalso; simp at h)
      · skip
        split at h
        · rename_i e; subst e; cases h; exact u0
        · skip
          cases h
    · unfold nm_is_prime at h
      split at h
      · rename_i e; subst e; (exfalso; simp at h)
      · skip
        split at h
        · rename_i e; subst e; (exfalso; simp at h)
        · skip
          cases h
  refine cal_of (k := 1) (cf := cf_is_prime) F hm sc_is_prime blt (NM.mono (by decide)) (fun h => by rw [hh_is_prime] at h; cases h) ck_is_prime (fun kV doc pm an cdv ct n hn us ws h1 h2 => ?_) (fun _ _ _ _ _ _ _ _ _ _ _ h => absurd h (codeO_no (by decide)))
  · simp only [List.mem_cons, List.not_mem_nil, or_false] at hn
    subst hn
    exact (by have z : us.length + ws.length = 1 := h2; have h3 : ws.length = 0 := (by omega); exact match us, h1, ws, h3 with | [a0], _, [], _ => rfl)
theorem cal_is_size {f : Addr} {fd : FuncData} (F : L2.Fun K "is_size" "is_size" (topS 25) f fd) (hm : mg "is_size" = some (.ref f)) (blt : ∀ x, x ∈ bNames → mg x = none) (h0 : Cal P w K mg base (KD T) 1 "is_integer" ["thing"] [1] g_is_integer) : Cal P w K mg base (KD T) 2 "is_size" ["thing"] [1] g_is_size := by
  have NM : Nm P w K mg base (KD T) 1 nm_is_size cf_is_size := by
    refine ⟨fun x ps ns h ne1 ne2 ne3 => ?_, fun x a h => ?_, fun x ns h => ?_, fun c fs h => ?_⟩
    · unfold nm_is_size at h
      split at h
      · rename_i e; subst e; cases h; exact Cal0.mono h0 (by decide)
      · skip
        cases h
    · unfold nm_is_size at h
      split at h
      · rename_i e; subst e; (exfalso; simp at h)
      · skip
        cases h
    · unfold nm_is_size at h
      split at h
      · rename_i e; subst e; (exfalso; simp at h)
      · skip
        cases h
    · unfold nm_is_size at h
      split at h
      · rename_i e; subst e; (exfalso; simp at h)
      · skip
        cases h
  refine cal_of (k := 1) (cf := cf_is_size) F hm sc_is_size blt (NM.mono (by decide)) (fun h => by rw [hh_is_size] at h; cases h) ck_is_size (fun kV doc pm an cdv ct n hn us ws h1 h2 => ?_) (fun _ _ _ _ _ _ _ _ _ _ _ h => absurd h (codeO_no (by decide)))
  · simp only [List.mem_cons, List.not_mem_nil, or_false] at hn
    subst hn
    exact (by have z : us.length + ws.length = 1 := h2; have h3 : ws.length = 0 := (by omega); exact match us, h1, ws, h3 with | [a0], _, [], _ => rfl)
theorem cal_is_place {f : Addr} {fd : FuncData} (F : L2.Fun K "is_place" "is_place" (topS 26) f fd) (hm : mg "is_place" = some (.ref f)) (blt : ∀ x, x ∈ bNames → mg x = none) (h0 : Cal P w K mg base (KD T) 2 "is_number" ["thing"] [1] g_is_number) (h1 : Cal P w K mg base (KD T) 2 "is_size" ["thing"] [1] g_is_size) : Cal P w K mg base (KD T) 3 "is_place" ["size", "thing"] [2] g_is_place := by
  have NM : Nm P w K mg base (KD T) 2 nm_is_place cf_is_place := by
    refine ⟨fun x ps ns h ne1 ne2 ne3 => ?_, fun x a h => ?_, fun x ns h => ?_, fun c fs h => ?_⟩
    · unfold nm_is_place at h
      split at h
      · rename_i e; subst e; cases h; exact Cal0.mono h0 (by decide)
      · skip
        split at h
        · rename_i e; subst e; cases h; exact Cal0.mono h1 (by decide)
        · skip
          cases h
    · unfold nm_is_place at h
      split at h
      · rename_i e; subst e; (exfalso; simp at h)
      · skip
        split at h
        · rename_i e; subst e; (exfalso; simp at h)
        · skip
          cases h
    · unfold nm_is_place at h
      split at h
      · rename_i e; subst e; (exfalso; simp at h)
      · skip
        split at h
        · rename_i e; subst e; (exfalso; simp at h)
        · skip
          cases h
    · unfold nm_is_place at h
      split at h
      · rename_i e; subst e; (exfalso; simp at h)
      · skip
        split at h
        · rename_i e; subst e; (exfalso; simp at h)
        · skip
          cases h
  refine cal_of (k := 2) (cf := cf_is_place) F hm sc_is_place blt (NM.mono (by decide)) (fun h => by rw [hh_is_place] at h; cases h) ck_is_place (fun kV doc pm an cdv ct n hn us ws h1 h2 => ?_) (fun _ _ _ _ _ _ _ _ _ _ _ h => absurd h (codeO_no (by decide)))
  · simp only [List.mem_cons, List.not_mem_nil, or_false] at hn
    subst hn
    exact (by have z : us.length + ws.length = 2 := h2; have h3 : ws.length = 0 := (by omega); exact match us, h1, ws, h3 with | [a0, a1], _, [], _ => rfl)
theorem cal_is_digit {f : Addr} {fd : FuncData} (F : L2.Fun K "is_digit" "is_digit" (topS 27) f fd) (hm : mg "is_digit" = some (.ref f)) (blt : ∀ x, x ∈ bNames → mg x = none) (h0 : Cal P w K mg base (KD T) 2 "is_number" ["thing"] [1] g_is_number) (h1 : Cal P w K mg base (KD T) 2 "is_prime" ["thing"] [1] g_is_prime) : Cal P w K mg base (KD T) 3 "is_digit" ["prime", "thing"] [2] g_is_digit := by
  have NM : Nm P w K mg base (KD T) 2 nm_is_digit cf_is_digit := by
    refine ⟨fun x ps ns h ne1 ne2 ne3 => ?_, fun x a h => ?_, fun x ns h => ?_, fun c fs h => ?_⟩
    · unfold nm_is_digit at h
      split at h
      · rename_i e; subst e; cases h; exact Cal0.mono h0 (by decide)
      · skip
        split at h
        · rename_i e; subst e; cases h; exact Cal0.mono h1 (by decide)
        · skip
          cases h
    · unfold nm_is_digit at h
      split at h
      · rename_i e; subst e; (exfalso; simp at h)
      · skip
        split at h
        · rename_i e; subst e; (exfalso; simp at h)
        · skip
          cases h
    · unfold nm_is_digit at h
      split at h
      · rename_i e; subst e; (exfalso; simp at h)
      · skip
        split at h
        · rename_i e; subst e; (exfalso; simp at h)
        · skip
          cases h
    · unfold nm_is_digit at h
      split at h
      · rename_i e; subst e; (exfalso; simp at h)
      · skip
        split at h
        · rename_i e; subst e; (exfalso; simp at h)
        · skip
          cases h
  refine cal_of (k := 2) (cf := cf_is_digit) F hm sc_is_digit blt (NM.mono (by decide)) (fun h => by rw [hh_is_digit] at h; cases h) ck_is_digit (fun kV doc pm an cdv ct n hn us ws h1 h2 => ?_) (fun _ _ _ _ _ _ _ _ _ _ _ h => absurd h (codeO_no (by decide)))
  · simp only [List.mem_cons, List.not_mem_nil, or_false] at hn
    subst hn
    exact (by have z : us.length + ws.length = 2 := h2; have h3 : ws.length = 0 := (by omega); exact match us, h1, ws, h3 with | [a0, a1], _, [], _ => rfl)
theorem cal_is_stretch {f : Addr} {fd : FuncData} (F : L2.Fun K "is_stretch" "is_stretch" (topS 28) f fd) (hm : mg "is_stretch" = some (.ref f)) (blt : ∀ x, x ∈ bNames → mg x = none) (h0 : Cal P w K mg base (KD T) 2 "is_number" ["thing"] [1] g_is_number) (h1 : Cal P w K mg base (KD T) 3 "is_place" ["size", "thing"] [2] g_is_place) : Cal P w K mg base (KD T) 4 "is_stretch" ["size", "thing"] [2] g_is_stretch := by
  have NM : Nm P w K mg base (KD T) 3 nm_is_stretch cf_is_stretch := by
    refine ⟨fun x ps ns h ne1 ne2 ne3 => ?_, fun x a h => ?_, fun x ns h => ?_, fun c fs h => ?_⟩
    · unfold nm_is_stretch at h
      split at h
      · rename_i e; subst e; cases h; exact Cal0.mono h0 (by decide)
      · skip
        split at h
        · rename_i e; subst e; cases h; exact Cal0.mono h1 (by decide)
        · skip
          cases h
    · unfold nm_is_stretch at h
      split at h
      · rename_i e; subst e; (exfalso; simp at h)
      · skip
        split at h
        · rename_i e; subst e; (exfalso; simp at h)
        · skip
          cases h
    · unfold nm_is_stretch at h
      split at h
      · rename_i e; subst e; (exfalso; simp at h)
      · skip
        split at h
        · rename_i e; subst e; (exfalso; simp at h)
        · skip
          cases h
    · unfold nm_is_stretch at h
      split at h
      · rename_i e; subst e; (exfalso; simp at h)
      · skip
        split at h
        · rename_i e; subst e; (exfalso; simp at h)
        · skip
          cases h
  refine cal_of (k := 3) (cf := cf_is_stretch) F hm sc_is_stretch blt (NM.mono (by decide)) (fun h => by rw [hh_is_stretch] at h; cases h) ck_is_stretch (fun kV doc pm an cdv ct n hn us ws h1 h2 => ?_) (fun _ _ _ _ _ _ _ _ _ _ _ h => absurd h (codeO_no (by decide)))
  · simp only [List.mem_cons, List.not_mem_nil, or_false] at hn
    subst hn
    exact (by have z : us.length + ws.length = 2 := h2; have h3 : ws.length = 0 := (by omega); exact match us, h1, ws, h3 with | [a0, a1], _, [], _ => rfl)
theorem cal_balls_of {f : Addr} {fd : FuncData} (F : L2.Fun K "balls_of" "balls_of" (topS 30) f fd) (hm : mg "balls_of" = some (.ref f)) (blt : ∀ x, x ∈ bNames → mg x = none)  : Cal P w K mg base (KD T) 1 "balls_of" ["pattern"] [1] g_balls_of := by
  have NM : Nm P w K mg base (KD T) 0 nm_balls_of cf_balls_of := by
    refine ⟨fun x ps ns h ne1 ne2 ne3 => ?_, fun x a h => ?_, fun x ns h => ?_, fun c fs h => ?_⟩
    · unfold nm_balls_of at h
      cases h
    · unfold nm_balls_of at h
      cases h
    · unfold nm_balls_of at h
      cases h
    · unfold nm_balls_of at h
      cases h
  refine cal_of (k := 0) (cf := cf_balls_of) F hm sc_balls_of blt (NM.mono (by decide)) (fun h => by rw [hh_balls_of] at h; cases h) ck_balls_of (fun kV doc pm an cdv ct n hn us ws h1 h2 => ?_) (fun _ _ _ _ _ _ _ _ _ _ _ h => absurd h (codeO_no (by decide)))
  · simp only [List.mem_cons, List.not_mem_nil, or_false] at hn
    subst hn
    exact (by have z : us.length + ws.length = 1 := h2; have h3 : ws.length = 0 := (by omega); exact match us, h1, ws, h3 with | [a0], _, [], _ => rfl)
theorem cal_landing_of {f : Addr} {fd : FuncData} (F : L2.Fun K "landing_of" "landing_of" (topS 31) f fd) (hm : mg "landing_of" = some (.ref f)) (blt : ∀ x, x ∈ bNames → mg x = none)  : Cal P w K mg base (KD T) 1 "landing_of" ["pattern", "i"] [2] g_landing_of := by
  have NM : Nm P w K mg base (KD T) 0 nm_landing_of cf_landing_of := by
    refine ⟨fun x ps ns h ne1 ne2 ne3 => ?_, fun x a h => ?_, fun x ns h => ?_, fun c fs h => ?_⟩
    · unfold nm_landing_of at h
      cases h
    · unfold nm_landing_of at h
      cases h
    · unfold nm_landing_of at h
      cases h
    · unfold nm_landing_of at h
      cases h
  refine cal_of (k := 0) (cf := cf_landing_of) F hm sc_landing_of blt (NM.mono (by decide)) (fun h => by rw [hh_landing_of] at h; cases h) ck_landing_of (fun kV doc pm an cdv ct n hn us ws h1 h2 => ?_) (fun _ _ _ _ _ _ _ _ _ _ _ h => absurd h (codeO_no (by decide)))
  · simp only [List.mem_cons, List.not_mem_nil, or_false] at hn
    subst hn
    exact (by have z : us.length + ws.length = 2 := h2; have h3 : ws.length = 0 := (by omega); exact match us, h1, ws, h3 with | [a0, a1], _, [], _ => rfl)
theorem cal_target_of {f : Addr} {fd : FuncData} (F : L2.Fun K "target_of" "target_of" (topS 32) f fd) (hm : mg "target_of" = some (.ref f)) (blt : ∀ x, x ∈ bNames → mg x = none) (h0 : Cal P w K mg base (KD T) 1 "landing_of" ["pattern", "i"] [2] g_landing_of) : Cal P w K mg base (KD T) 2 "target_of" ["pattern", "place"] [2] g_target_of := by
  have NM : Nm P w K mg base (KD T) 1 nm_target_of cf_target_of := by
    refine ⟨fun x ps ns h ne1 ne2 ne3 => ?_, fun x a h => ?_, fun x ns h => ?_, fun c fs h => ?_⟩
    · unfold nm_target_of at h
      split at h
      · rename_i e; subst e; cases h; exact Cal0.mono h0 (by decide)
      · skip
        cases h
    · unfold nm_target_of at h
      split at h
      · rename_i e; subst e; (exfalso; simp at h)
      · skip
        cases h
    · unfold nm_target_of at h
      split at h
      · rename_i e; subst e; (exfalso; simp at h)
      · skip
        cases h
    · unfold nm_target_of at h
      split at h
      · rename_i e; subst e; (exfalso; simp at h)
      · skip
        cases h
  refine cal_of (k := 1) (cf := cf_target_of) F hm sc_target_of blt (NM.mono (by decide)) (fun h => by rw [hh_target_of] at h; cases h) ck_target_of (fun kV doc pm an cdv ct n hn us ws h1 h2 => ?_) (fun _ _ _ _ _ _ _ _ _ _ _ h => absurd h (codeO_no (by decide)))
  · simp only [List.mem_cons, List.not_mem_nil, or_false] at hn
    subst hn
    exact (by have z : us.length + ws.length = 2 := h2; have h3 : ws.length = 0 := (by omega); exact match us, h1, ws, h3 with | [a0, a1], _, [], _ => rfl)
theorem cal_thrown_from {f : Addr} {fd : FuncData} (F : L2.Fun K "thrown_from" "thrown_from" (topS 33) f fd) (hm : mg "thrown_from" = some (.ref f)) (blt : ∀ x, x ∈ bNames → mg x = none) (h0 : Cal P w K mg base (KD T) 3 "demand" ["holds", "name"] [2] g_demand) (h1 : Cal P w K mg base (KD T) 3 "is_place" ["size", "thing"] [2] g_is_place) (h2 : Cal P w K mg base (KD T) 2 "target_of" ["pattern", "place"] [2] g_target_of) : Cal P w K mg base (KD T) 4 "thrown_from" ["pattern", "place"] [2] g_thrown_from := by
  have NM : Nm P w K mg base (KD T) 3 nm_thrown_from cf_thrown_from := by
    refine ⟨fun x ps ns h ne1 ne2 ne3 => ?_, fun x a h => ?_, fun x ns h => ?_, fun c fs h => ?_⟩
    · unfold nm_thrown_from at h
      split at h
      · rename_i e; subst e; cases h; exact Cal0.mono h0 (by decide)
      · skip
        split at h
        · rename_i e; subst e; cases h; exact Cal0.mono h1 (by decide)
        · skip
          split at h
          · rename_i e; subst e; cases h; exact Cal0.mono h2 (by decide)
          · skip
            cases h
    · unfold nm_thrown_from at h
      split at h
      · rename_i e; subst e; (exfalso; simp at h)
      · skip
        split at h
        · rename_i e; subst e; (exfalso; simp at h)
        · skip
          split at h
          · rename_i e; subst e; (exfalso; simp at h)
          · skip
            cases h
    · unfold nm_thrown_from at h
      split at h
      · rename_i e; subst e; (exfalso; simp at h)
      · skip
        split at h
        · rename_i e; subst e; (exfalso; simp at h)
        · skip
          split at h
          · rename_i e; subst e; (exfalso; simp at h)
          · skip
            cases h
    · unfold nm_thrown_from at h
      split at h
      · rename_i e; subst e; (exfalso; simp at h)
      · skip
        split at h
        · rename_i e; subst e; (exfalso; simp at h)
        · skip
          split at h
          · rename_i e; subst e; (exfalso; simp at h)
          · skip
            cases h
  refine cal_of (k := 3) (cf := cf_thrown_from) F hm sc_thrown_from blt (NM.mono (by decide)) (fun h => by rw [hh_thrown_from] at h; cases h) ck_thrown_from (fun kV doc pm an cdv ct n hn us ws h1 h2 => ?_) (fun _ _ _ _ _ _ _ _ _ _ _ h => absurd h (codeO_no (by decide)))
  · simp only [List.mem_cons, List.not_mem_nil, or_false] at hn
    subst hn
    exact (by have z : us.length + ws.length = 2 := h2; have h3 : ws.length = 0 := (by omega); exact match us, h1, ws, h3 with | [a0, a1], _, [], _ => rfl)
theorem cal_round_from {f : Addr} {fd : FuncData} (F : L2.Fun K "round_from" "round_from" (topS 34) f fd) (hm : mg "round_from" = some (.ref f)) (blt : ∀ x, x ∈ bNames → mg x = none) (h0 : Cal P w K mg base (KD T) 2 "target_of" ["pattern", "place"] [2] g_target_of) : Cal P w K mg base (KD T) 3 "round_from" ["pattern", "place"] [2] g_round_from := by
  have NM : Nm P w K mg base (KD T) 2 nm_round_from cf_round_from := by
    refine ⟨fun x ps ns h ne1 ne2 ne3 => ?_, fun x a h => ?_, fun x ns h => ?_, fun c fs h => ?_⟩
    · unfold nm_round_from at h
      split at h
      · rename_i e; subst e; cases h; exact Cal0.mono h0 (by decide)
      · skip
        cases h
    · unfold nm_round_from at h
      split at h
      · rename_i e; subst e; (exfalso; simp at h)
      · skip
        cases h
    · unfold nm_round_from at h
      split at h
      · rename_i e; subst e; (exfalso; simp at h)
      · skip
        cases h
    · unfold nm_round_from at h
      split at h
      · rename_i e; subst e; (exfalso; simp at h)
      · skip
        cases h
  refine cal_of (k := 2) (cf := cf_round_from) F hm sc_round_from blt (NM.mono (by decide)) (fun h => by rw [hh_round_from] at h; cases h) ck_round_from (fun kV doc pm an cdv ct n hn us ws h1 h2 => ?_) (fun _ _ _ _ _ _ _ _ _ _ _ h => absurd h (codeO_no (by decide)))
  · simp only [List.mem_cons, List.not_mem_nil, or_false] at hn
    subst hn
    exact (by have z : us.length + ws.length = 2 := h2; have h3 : ws.length = 0 := (by omega); exact match us, h1, ws, h3 with | [a0, a1], _, [], _ => rfl)
theorem cal_places_from {f : Addr} {fd : FuncData} (F : L2.Fun K "places_from" "places_from" (topS 36) f fd) (hm : mg "places_from" = some (.ref f)) (blt : ∀ x, x ∈ bNames → mg x = none)  : Cal P w K mg base (KD T) 1 "places_from" ["size", "start", "many"] [3] g_places_from := by
  have NM : Nm P w K mg base (KD T) 0 nm_places_from cf_places_from := by
    refine ⟨fun x ps ns h ne1 ne2 ne3 => ?_, fun x a h => ?_, fun x ns h => ?_, fun c fs h => ?_⟩
    · unfold nm_places_from at h
      cases h
    · unfold nm_places_from at h
      cases h
    · unfold nm_places_from at h
      cases h
    · unfold nm_places_from at h
      cases h
  refine cal_of (k := 0) (cf := cf_places_from) F hm sc_places_from blt (NM.mono (by decide)) (fun h => by rw [hh_places_from] at h; cases h) ck_places_from (fun kV doc pm an cdv ct n hn us ws h1 h2 => ?_) (fun _ _ _ _ _ _ _ _ _ _ _ h => absurd h (codeO_no (by decide)))
  · simp only [List.mem_cons, List.not_mem_nil, or_false] at hn
    subst hn
    exact (by have z : us.length + ws.length = 3 := h2; have h3 : ws.length = 0 := (by omega); exact match us, h1, ws, h3 with | [a0, a1, a2], _, [], _ => rfl)
theorem cal_next_ones {f : Addr} {fd : FuncData} (F : L2.Fun K "next_ones" "next_ones" (topS 38) f fd) (hm : mg "next_ones" = some (.ref f)) (blt : ∀ x, x ∈ bNames → mg x = none) (h0 : Cal P w K mg base (KD T) 3 "demand" ["holds", "name"] [2] g_demand) (h1 : Cal P w K mg base (KD T) 3 "is_place" ["size", "thing"] [2] g_is_place) (h2 : Cal P w K mg base (KD T) 1 "places_from" ["size", "start", "many"] [3] g_places_from) : Cal P w K mg base (KD T) 4 "next_ones" ["pattern", "place"] [2, 2021] g_next_ones := by
  have NM : Nm P w K mg base (KD T) 3 nm_next_ones cf_next_ones := by
    refine ⟨fun x ps ns h ne1 ne2 ne3 => ?_, fun x a h => ?_, fun x ns h => ?_, fun c fs h => ?_⟩
    · unfold nm_next_ones at h
      split at h
      · rename_i e; subst e; cases h; exact Cal0.mono h0 (by decide)
      · skip
        split at h
        · rename_i e; subst e; cases h; exact Cal0.mono h1 (by decide)
        · skip
          split at h
          · rename_i e; subst e; cases h; exact Cal0.mono h2 (by decide)
          · skip
            cases h
    · unfold nm_next_ones at h
      split at h
      · rename_i e; subst e; (exfalso; simp at h)
      · skip
        split at h
        · rename_i e; subst e; (exfalso; simp at h)
        · skip
          split at h
          · rename_i e; subst e; (exfalso; simp at h)
          · skip
            cases h
    · unfold nm_next_ones at h
      split at h
      · rename_i e; subst e; (exfalso; simp at h)
      · skip
        split at h
        · rename_i e; subst e; (exfalso; simp at h)
        · skip
          split at h
          · rename_i e; subst e; (exfalso; simp at h)
          · skip
            cases h
    · unfold nm_next_ones at h
      split at h
      · rename_i e; subst e; (exfalso; simp at h)
      · skip
        split at h
        · rename_i e; subst e; (exfalso; simp at h)
        · skip
          split at h
          · rename_i e; subst e; (exfalso; simp at h)
          · skip
            cases h
  refine cal_of (k := 3) (cf := cf_next_ones) F hm sc_next_ones blt (NM.mono (by decide)) (fun h => by rw [hh_next_ones] at h; cases h) ck_next_ones (fun kV doc pm an cdv ct n hn us ws h1 h2 => ?_) (fun kV doc pm an cdv ct n ord h1 h2 h9 hn us ws hu hw => ?_)
  · simp only [List.mem_cons, List.not_mem_nil, or_false] at hn
    rcases hn with rfl | rfl
    · exact (by have z : us.length + ws.length = 2 := h2; have h3 : ws.length = 0 := (by omega); exact match us, h1, ws, h3 with | [a0, a1], _, [], _ => rfl)
    · exfalso; have z : us.length + ws.length = 2 := h2; omega
  · have h1 : n + ord.length = 2 := h1
    simp only [List.mem_cons, List.not_mem_nil, or_false] at hn
    rcases hn with hn | hn
    · exfalso; unfold codeO at hn; omega
    · match ord, h1, h2, hn, hw with
      | [], h1, h2, hn, hw => simp only [codeO, List.foldl_cons, List.foldl_nil, List.length_cons, List.length_nil] at hn h1 h2;  omega
      | [x0], h1, h2, hn, hw => simp only [codeO, List.foldl_cons, List.foldl_nil, List.length_cons, List.length_nil] at hn h1 h2; have g0 := h2 x0 (by simp); omega
      | [x0, x1], h1, h2, hn, hw => simp only [codeO, List.foldl_cons, List.foldl_nil, List.length_cons, List.length_nil] at hn h1 h2; have g0 := h2 x0 (by simp); have g1 := h2 x1 (by simp); have z : n = 0 ∧ x0 = 1 ∧ x1 = 0 := (by omega); obtain ⟨rfl, rfl, rfl⟩ := z; exact match us, hu, ws, hw with | [], _, [b0, b1], _ => rfl
      | _ :: _ :: _ :: _, h1, h2, hn, hw => simp only [List.length_cons] at h1; omega
theorem cal_ones_before {f : Addr} {fd : FuncData} (F : L2.Fun K "ones_before" "ones_before" (topS 39) f fd) (hm : mg "ones_before" = some (.ref f)) (blt : ∀ x, x ∈ bNames → mg x = none) (h0 : Cal P w K mg base (KD T) 4 "thrown_from" ["pattern", "place"] [2] g_thrown_from) (h1 : Cal P w K mg base (KD T) 1 "places_from" ["size", "start", "many"] [3] g_places_from) : Cal P w K mg base (KD T) 5 "ones_before" ["pattern", "place"] [2, 2021] g_ones_before := by
  have NM : Nm P w K mg base (KD T) 4 nm_ones_before cf_ones_before := by
    refine ⟨fun x ps ns h ne1 ne2 ne3 => ?_, fun x a h => ?_, fun x ns h => ?_, fun c fs h => ?_⟩
    · unfold nm_ones_before at h
      split at h
      · rename_i e; subst e; cases h; exact Cal0.mono h0 (by decide)
      · skip
        split at h
        · rename_i e; subst e; cases h; exact Cal0.mono h1 (by decide)
        · skip
          cases h
    · unfold nm_ones_before at h
      split at h
      · rename_i e; subst e; (exfalso; simp at h)
      · skip
        split at h
        · rename_i e; subst e; (exfalso; simp at h)
        · skip
          cases h
    · unfold nm_ones_before at h
      split at h
      · rename_i e; subst e; (exfalso; simp at h)
      · skip
        split at h
        · rename_i e; subst e; (exfalso; simp at h)
        · skip
          cases h
    · unfold nm_ones_before at h
      split at h
      · rename_i e; subst e; (exfalso; simp at h)
      · skip
        split at h
        · rename_i e; subst e; (exfalso; simp at h)
        · skip
          cases h
  refine cal_of (k := 4) (cf := cf_ones_before) F hm sc_ones_before blt (NM.mono (by decide)) (fun h => by rw [hh_ones_before] at h; cases h) ck_ones_before (fun kV doc pm an cdv ct n hn us ws h1 h2 => ?_) (fun kV doc pm an cdv ct n ord h1 h2 h9 hn us ws hu hw => ?_)
  · simp only [List.mem_cons, List.not_mem_nil, or_false] at hn
    rcases hn with rfl | rfl
    · exact (by have z : us.length + ws.length = 2 := h2; have h3 : ws.length = 0 := (by omega); exact match us, h1, ws, h3 with | [a0, a1], _, [], _ => rfl)
    · exfalso; have z : us.length + ws.length = 2 := h2; omega
  · have h1 : n + ord.length = 2 := h1
    simp only [List.mem_cons, List.not_mem_nil, or_false] at hn
    rcases hn with hn | hn
    · exfalso; unfold codeO at hn; omega
    · match ord, h1, h2, hn, hw with
      | [], h1, h2, hn, hw => simp only [codeO, List.foldl_cons, List.foldl_nil, List.length_cons, List.length_nil] at hn h1 h2;  omega
      | [x0], h1, h2, hn, hw => simp only [codeO, List.foldl_cons, List.foldl_nil, List.length_cons, List.length_nil] at hn h1 h2; have g0 := h2 x0 (by simp); omega
      | [x0, x1], h1, h2, hn, hw => simp only [codeO, List.foldl_cons, List.foldl_nil, List.length_cons, List.length_nil] at hn h1 h2; have g0 := h2 x0 (by simp); have g1 := h2 x1 (by simp); have z : n = 0 ∧ x0 = 1 ∧ x1 = 0 := (by omega); obtain ⟨rfl, rfl, rfl⟩ := z; exact match us, hu, ws, hw with | [], _, [b0, b1], _ => rfl
      | _ :: _ :: _ :: _, h1, h2, hn, hw => simp only [List.length_cons] at h1; omega
theorem cal_chain_of {f : Addr} {fd : FuncData} (F : L2.Fun K "chain_of" "chain_of" (topS 40) f fd) (hm : mg "chain_of" = some (.ref f)) (blt : ∀ x, x ∈ bNames → mg x = none) (h0 : Cal P w K mg base (KD T) 3 "demand" ["holds", "name"] [2] g_demand) (h1 : Cal P w K mg base (KD T) 3 "is_place" ["size", "thing"] [2] g_is_place) (h2 : Cal P w K mg base (KD T) 3 "round_from" ["pattern", "place"] [2] g_round_from) : Cal P w K mg base (KD T) 4 "chain_of" ["pattern", "place"] [2, 2021] g_chain_of := by
  have NM : Nm P w K mg base (KD T) 3 nm_chain_of cf_chain_of := by
    refine ⟨fun x ps ns h ne1 ne2 ne3 => ?_, fun x a h => ?_, fun x ns h => ?_, fun c fs h => ?_⟩
    · unfold nm_chain_of at h
      split at h
      · rename_i e; subst e; cases h; exact Cal0.mono h0 (by decide)
      · skip
        split at h
        · rename_i e; subst e; cases h; exact Cal0.mono h1 (by decide)
        · skip
          split at h
          · rename_i e; subst e; cases h; exact Cal0.mono h2 (by decide)
          · skip
            cases h
    · unfold nm_chain_of at h
      split at h
      · rename_i e; subst e; (exfalso; simp at h)
      · skip
        split at h
        · rename_i e; subst e; (exfalso; simp at h)
        · skip
          split at h
          · rename_i e; subst e; (exfalso; simp at h)
          · skip
            cases h
    · unfold nm_chain_of at h
      split at h
      · rename_i e; subst e; (exfalso; simp at h)
      · skip
        split at h
        · rename_i e; subst e; (exfalso; simp at h)
        · skip
          split at h
          · rename_i e; subst e; (exfalso; simp at h)
          · skip
            cases h
    · unfold nm_chain_of at h
      split at h
      · rename_i e; subst e; (exfalso; simp at h)
      · skip
        split at h
        · rename_i e; subst e; (exfalso; simp at h)
        · skip
          split at h
          · rename_i e; subst e; (exfalso; simp at h)
          · skip
            cases h
  refine cal_of (k := 3) (cf := cf_chain_of) F hm sc_chain_of blt (NM.mono (by decide)) (fun h => by rw [hh_chain_of] at h; cases h) ck_chain_of (fun kV doc pm an cdv ct n hn us ws h1 h2 => ?_) (fun kV doc pm an cdv ct n ord h1 h2 h9 hn us ws hu hw => ?_)
  · simp only [List.mem_cons, List.not_mem_nil, or_false] at hn
    rcases hn with rfl | rfl
    · exact (by have z : us.length + ws.length = 2 := h2; have h3 : ws.length = 0 := (by omega); exact match us, h1, ws, h3 with | [a0, a1], _, [], _ => rfl)
    · exfalso; have z : us.length + ws.length = 2 := h2; omega
  · have h1 : n + ord.length = 2 := h1
    simp only [List.mem_cons, List.not_mem_nil, or_false] at hn
    rcases hn with hn | hn
    · exfalso; unfold codeO at hn; omega
    · match ord, h1, h2, hn, hw with
      | [], h1, h2, hn, hw => simp only [codeO, List.foldl_cons, List.foldl_nil, List.length_cons, List.length_nil] at hn h1 h2;  omega
      | [x0], h1, h2, hn, hw => simp only [codeO, List.foldl_cons, List.foldl_nil, List.length_cons, List.length_nil] at hn h1 h2; have g0 := h2 x0 (by simp); omega
      | [x0, x1], h1, h2, hn, hw => simp only [codeO, List.foldl_cons, List.foldl_nil, List.length_cons, List.length_nil] at hn h1 h2; have g0 := h2 x0 (by simp); have g1 := h2 x1 (by simp); have z : n = 0 ∧ x0 = 1 ∧ x1 = 0 := (by omega); obtain ⟨rfl, rfl, rfl⟩ := z; exact match us, hu, ws, hw with | [], _, [b0, b1], _ => rfl
      | _ :: _ :: _ :: _, h1, h2, hn, hw => simp only [List.length_cons] at h1; omega
theorem cal_column_at {f : Addr} {fd : FuncData} (F : L2.Fun K "column_at" "column_at" (topS 42) f fd) (hm : mg "column_at" = some (.ref f)) (blt : ∀ x, x ∈ bNames → mg x = none)  : Cal P w K mg base (KD T) 1 "column_at" ["book", "place"] [2] g_column_at := by
  have NM : Nm P w K mg base (KD T) 0 nm_column_at cf_column_at := by
    refine ⟨fun x ps ns h ne1 ne2 ne3 => ?_, fun x a h => ?_, fun x ns h => ?_, fun c fs h => ?_⟩
    · unfold nm_column_at at h
      cases h
    · unfold nm_column_at at h
      cases h
    · unfold nm_column_at at h
      cases h
    · unfold nm_column_at at h
      cases h
  refine cal_of (k := 0) (cf := cf_column_at) F hm sc_column_at blt (NM.mono (by decide)) (fun h => by rw [hh_column_at] at h; cases h) ck_column_at (fun kV doc pm an cdv ct n hn us ws h1 h2 => ?_) (fun _ _ _ _ _ _ _ _ _ _ _ h => absurd h (codeO_no (by decide)))
  · simp only [List.mem_cons, List.not_mem_nil, or_false] at hn
    subst hn
    exact (by have z : us.length + ws.length = 2 := h2; have h3 : ws.length = 0 := (by omega); exact match us, h1, ws, h3 with | [a0, a1], _, [], _ => rfl)
theorem cal_settled_columns {f : Addr} {fd : FuncData} (F : L2.Fun K "settled_columns" "settled_columns" (topS 43) f fd) (hm : mg "settled_columns" = some (.ref f)) (blt : ∀ x, x ∈ bNames → mg x = none) (h0 : Cal P w K mg base (KD T) 4 "settled_rows" ["prime", "words"] [2] g_settled_rows) (h1 : Cal P w K mg base (KD T) 1 "column_at" ["book", "place"] [2] g_column_at) : Cal P w K mg base (KD T) 5 "settled_columns" ["book", "places"] [2] g_settled_columns := by
  have NM : Nm P w K mg base (KD T) 4 nm_settled_columns cf_settled_columns := by
    refine ⟨fun x ps ns h ne1 ne2 ne3 => ?_, fun x a h => ?_, fun x ns h => ?_, fun c fs h => ?_⟩
    · unfold nm_settled_columns at h
      split at h
      · rename_i e; subst e; cases h; exact Cal0.mono h0 (by decide)
      · skip
        split at h
        · rename_i e; subst e; cases h; exact Cal0.mono h1 (by decide)
        · skip
          cases h
    · unfold nm_settled_columns at h
      split at h
      · rename_i e; subst e; (exfalso; simp at h)
      · skip
        split at h
        · rename_i e; subst e; (exfalso; simp at h)
        · skip
          cases h
    · unfold nm_settled_columns at h
      split at h
      · rename_i e; subst e; (exfalso; simp at h)
      · skip
        split at h
        · rename_i e; subst e; (exfalso; simp at h)
        · skip
          cases h
    · unfold nm_settled_columns at h
      split at h
      · rename_i e; subst e; (exfalso; simp at h)
      · skip
        split at h
        · rename_i e; subst e; (exfalso; simp at h)
        · skip
          cases h
  refine cal_of (k := 4) (cf := cf_settled_columns) F hm sc_settled_columns blt (NM.mono (by decide)) (fun h => by rw [hh_settled_columns] at h; cases h) ck_settled_columns (fun kV doc pm an cdv ct n hn us ws h1 h2 => ?_) (fun _ _ _ _ _ _ _ _ _ _ _ h => absurd h (codeO_no (by decide)))
  · simp only [List.mem_cons, List.not_mem_nil, or_false] at hn
    subst hn
    exact (by have z : us.length + ws.length = 2 := h2; have h3 : ws.length = 0 := (by omega); exact match us, h1, ws, h3 with | [a0, a1], _, [], _ => rfl)
theorem cal_rank_in {f : Addr} {fd : FuncData} (F : L2.Fun K "rank_in" "rank_in" (topS 45) f fd) (hm : mg "rank_in" = some (.ref f)) (blt : ∀ x, x ∈ bNames → mg x = none) (h0 : Cal P w K mg base (KD T) 1 "places_from" ["size", "start", "many"] [3] g_places_from) : Cal P w K mg base (KD T) 2 "rank_in" ["pattern", "start", "length"] [3] g_rank_in := by
  have NM : Nm P w K mg base (KD T) 1 nm_rank_in cf_rank_in := by
    refine ⟨fun x ps ns h ne1 ne2 ne3 => ?_, fun x a h => ?_, fun x ns h => ?_, fun c fs h => ?_⟩
    · unfold nm_rank_in at h
      split at h
      · rename_i e; subst e; cases h; exact Cal0.mono h0 (by decide)
      · skip
        cases h
    · unfold nm_rank_in at h
      split at h
      · rename_i e; subst e; (exfalso; simp at h)
      · skip
        cases h
    · unfold nm_rank_in at h
      split at h
      · rename_i e; subst e; (exfalso; simp at h)
      · skip
        cases h
    · unfold nm_rank_in at h
      split at h
      · rename_i e; subst e; (exfalso; simp at h)
      · skip
        cases h
  refine cal_of (k := 1) (cf := cf_rank_in) F hm sc_rank_in blt (NM.mono (by decide)) (fun h => by rw [hh_rank_in] at h; cases h) ck_rank_in (fun kV doc pm an cdv ct n hn us ws h1 h2 => ?_) (fun _ _ _ _ _ _ _ _ _ _ _ h => absurd h (codeO_no (by decide)))
  · simp only [List.mem_cons, List.not_mem_nil, or_false] at hn
    subst hn
    exact (by have z : us.length + ws.length = 3 := h2; have h3 : ws.length = 0 := (by omega); exact match us, h1, ws, h3 with | [a0, a1, a2], _, [], _ => rfl)
theorem cal_rank_beside {f : Addr} {fd : FuncData} (F : L2.Fun K "rank_beside" "rank_beside" (topS 47) f fd) (hm : mg "rank_beside" = some (.ref f)) (blt : ∀ x, x ∈ bNames → mg x = none) (h0 : Cal P w K mg base (KD T) 2 "rank_in" ["pattern", "start", "length"] [3] g_rank_in) : Cal P w K mg base (KD T) 3 "rank_beside" ["pattern", "stretch"] [2] g_rank_beside := by
  have NM : Nm P w K mg base (KD T) 2 nm_rank_beside cf_rank_beside := by
    refine ⟨fun x ps ns h ne1 ne2 ne3 => ?_, fun x a h => ?_, fun x ns h => ?_, fun c fs h => ?_⟩
    · unfold nm_rank_beside at h
      split at h
      · rename_i e; subst e; cases h; exact Cal0.mono h0 (by decide)
      · skip
        cases h
    · unfold nm_rank_beside at h
      split at h
      · rename_i e; subst e; (exfalso; simp at h)
      · skip
        cases h
    · unfold nm_rank_beside at h
      split at h
      · rename_i e; subst e; (exfalso; simp at h)
      · skip
        cases h
    · unfold nm_rank_beside at h
      split at h
      · rename_i e; subst e; (exfalso; simp at h)
      · skip
        cases h
  refine cal_of (k := 2) (cf := cf_rank_beside) F hm sc_rank_beside blt (NM.mono (by decide)) (fun h => by rw [hh_rank_beside] at h; cases h) ck_rank_beside (fun kV doc pm an cdv ct n hn us ws h1 h2 => ?_) (fun _ _ _ _ _ _ _ _ _ _ _ h => absurd h (codeO_no (by decide)))
  · simp only [List.mem_cons, List.not_mem_nil, or_false] at hn
    subst hn
    exact (by have z : us.length + ws.length = 2 := h2; have h3 : ws.length = 0 := (by omega); exact match us, h1, ws, h3 with | [a0, a1], _, [], _ => rfl)
theorem cal_open_rank {f : Addr} {fd : FuncData} (F : L2.Fun K "open_rank" "open_rank" (topS 48) f fd) (hm : mg "open_rank" = some (.ref f)) (blt : ∀ x, x ∈ bNames → mg x = none) (h0 : Cal P w K mg base (KD T) 3 "demand" ["holds", "name"] [2] g_demand) (h1 : Cal P w K mg base (KD T) 4 "is_stretch" ["size", "thing"] [2] g_is_stretch) (h2 : Cal P w K mg base (KD T) 1 "balls_of" ["pattern"] [1] g_balls_of) (h3 : Cal P w K mg base (KD T) 3 "rank_beside" ["pattern", "stretch"] [2] g_rank_beside) : Cal P w K mg base (KD T) 5 "open_rank" ["pattern", "stretch"] [2, 2021] g_open_rank := by
  have NM : Nm P w K mg base (KD T) 4 nm_open_rank cf_open_rank := by
    refine ⟨fun x ps ns h ne1 ne2 ne3 => ?_, fun x a h => ?_, fun x ns h => ?_, fun c fs h => ?_⟩
    · unfold nm_open_rank at h
      split at h
      · rename_i e; subst e; cases h; exact Cal0.mono h0 (by decide)
      · skip
        split at h
        · rename_i e; subst e; cases h; exact Cal0.mono h1 (by decide)
        · skip
          split at h
          · rename_i e; subst e; cases h; exact Cal0.mono h2 (by decide)
          · skip
            split at h
            · rename_i e; subst e; cases h; exact Cal0.mono h3 (by decide)
            · skip
              cases h
    · unfold nm_open_rank at h
      split at h
      · rename_i e; subst e; (exfalso; simp at h)
      · skip
        split at h
        · rename_i e; subst e; (exfalso; simp at h)
        · skip
          split at h
          · rename_i e; subst e; (exfalso; simp at h)
          · skip
            split at h
            · rename_i e; subst e; (exfalso; simp at h)
            · skip
              cases h
    · unfold nm_open_rank at h
      split at h
      · rename_i e; subst e; (exfalso; simp at h)
      · skip
        split at h
        · rename_i e; subst e; (exfalso; simp at h)
        · skip
          split at h
          · rename_i e; subst e; (exfalso; simp at h)
          · skip
            split at h
            · rename_i e; subst e; (exfalso; simp at h)
            · skip
              cases h
    · unfold nm_open_rank at h
      split at h
      · rename_i e; subst e; (exfalso; simp at h)
      · skip
        split at h
        · rename_i e; subst e; (exfalso; simp at h)
        · skip
          split at h
          · rename_i e; subst e; (exfalso; simp at h)
          · skip
            split at h
            · rename_i e; subst e; (exfalso; simp at h)
            · skip
              cases h
  refine cal_of (k := 4) (cf := cf_open_rank) F hm sc_open_rank blt (NM.mono (by decide)) (fun h => by rw [hh_open_rank] at h; cases h) ck_open_rank (fun kV doc pm an cdv ct n hn us ws h1 h2 => ?_) (fun kV doc pm an cdv ct n ord h1 h2 h9 hn us ws hu hw => ?_)
  · simp only [List.mem_cons, List.not_mem_nil, or_false] at hn
    rcases hn with rfl | rfl
    · exact (by have z : us.length + ws.length = 2 := h2; have h3 : ws.length = 0 := (by omega); exact match us, h1, ws, h3 with | [a0, a1], _, [], _ => rfl)
    · exfalso; have z : us.length + ws.length = 2 := h2; omega
  · have h1 : n + ord.length = 2 := h1
    simp only [List.mem_cons, List.not_mem_nil, or_false] at hn
    rcases hn with hn | hn
    · exfalso; unfold codeO at hn; omega
    · match ord, h1, h2, hn, hw with
      | [], h1, h2, hn, hw => simp only [codeO, List.foldl_cons, List.foldl_nil, List.length_cons, List.length_nil] at hn h1 h2;  omega
      | [x0], h1, h2, hn, hw => simp only [codeO, List.foldl_cons, List.foldl_nil, List.length_cons, List.length_nil] at hn h1 h2; have g0 := h2 x0 (by simp); omega
      | [x0, x1], h1, h2, hn, hw => simp only [codeO, List.foldl_cons, List.foldl_nil, List.length_cons, List.length_nil] at hn h1 h2; have g0 := h2 x0 (by simp); have g1 := h2 x1 (by simp); have z : n = 0 ∧ x0 = 1 ∧ x1 = 0 := (by omega); obtain ⟨rfl, rfl, rfl⟩ := z; exact match us, hu, ws, hw with | [], _, [b0, b1], _ => rfl
      | _ :: _ :: _ :: _, h1, h2, hn, hw => simp only [List.length_cons] at h1; omega
theorem cal_mends_burst {f : Addr} {fd : FuncData} (F : L2.Fun K "mends_burst" "mends_burst" (topS 49) f fd) (hm : mg "mends_burst" = some (.ref f)) (blt : ∀ x, x ∈ bNames → mg x = none) (h0 : Cal P w K mg base (KD T) 3 "demand" ["holds", "name"] [2] g_demand) (h1 : Cal P w K mg base (KD T) 4 "is_stretch" ["size", "thing"] [2] g_is_stretch) (h2 : Cal P w K mg base (KD T) 3 "rank_beside" ["pattern", "stretch"] [2] g_rank_beside) (h3 : Cal P w K mg base (KD T) 1 "balls_of" ["pattern"] [1] g_balls_of) : Cal P w K mg base (KD T) 5 "mends_burst" ["pattern", "stretch"] [2, 2021] g_mends_burst := by
  have NM : Nm P w K mg base (KD T) 4 nm_mends_burst cf_mends_burst := by
    refine ⟨fun x ps ns h ne1 ne2 ne3 => ?_, fun x a h => ?_, fun x ns h => ?_, fun c fs h => ?_⟩
    · unfold nm_mends_burst at h
      split at h
      · rename_i e; subst e; cases h; exact Cal0.mono h0 (by decide)
      · skip
        split at h
        · rename_i e; subst e; cases h; exact Cal0.mono h1 (by decide)
        · skip
          split at h
          · rename_i e; subst e; cases h; exact Cal0.mono h2 (by decide)
          · skip
            split at h
            · rename_i e; subst e; cases h; exact Cal0.mono h3 (by decide)
            · skip
              cases h
    · unfold nm_mends_burst at h
      split at h
      · rename_i e; subst e; (exfalso; simp at h)
      · skip
        split at h
        · rename_i e; subst e; (exfalso; simp at h)
        · skip
          split at h
          · rename_i e; subst e; (exfalso; simp at h)
          · skip
            split at h
            · rename_i e; subst e; (exfalso; simp at h)
            · skip
              cases h
    · unfold nm_mends_burst at h
      split at h
      · rename_i e; subst e; (exfalso; simp at h)
      · skip
        split at h
        · rename_i e; subst e; (exfalso; simp at h)
        · skip
          split at h
          · rename_i e; subst e; (exfalso; simp at h)
          · skip
            split at h
            · rename_i e; subst e; (exfalso; simp at h)
            · skip
              cases h
    · unfold nm_mends_burst at h
      split at h
      · rename_i e; subst e; (exfalso; simp at h)
      · skip
        split at h
        · rename_i e; subst e; (exfalso; simp at h)
        · skip
          split at h
          · rename_i e; subst e; (exfalso; simp at h)
          · skip
            split at h
            · rename_i e; subst e; (exfalso; simp at h)
            · skip
              cases h
  refine cal_of (k := 4) (cf := cf_mends_burst) F hm sc_mends_burst blt (NM.mono (by decide)) (fun h => by rw [hh_mends_burst] at h; cases h) ck_mends_burst (fun kV doc pm an cdv ct n hn us ws h1 h2 => ?_) (fun kV doc pm an cdv ct n ord h1 h2 h9 hn us ws hu hw => ?_)
  · simp only [List.mem_cons, List.not_mem_nil, or_false] at hn
    rcases hn with rfl | rfl
    · exact (by have z : us.length + ws.length = 2 := h2; have h3 : ws.length = 0 := (by omega); exact match us, h1, ws, h3 with | [a0, a1], _, [], _ => rfl)
    · exfalso; have z : us.length + ws.length = 2 := h2; omega
  · have h1 : n + ord.length = 2 := h1
    simp only [List.mem_cons, List.not_mem_nil, or_false] at hn
    rcases hn with hn | hn
    · exfalso; unfold codeO at hn; omega
    · match ord, h1, h2, hn, hw with
      | [], h1, h2, hn, hw => simp only [codeO, List.foldl_cons, List.foldl_nil, List.length_cons, List.length_nil] at hn h1 h2;  omega
      | [x0], h1, h2, hn, hw => simp only [codeO, List.foldl_cons, List.foldl_nil, List.length_cons, List.length_nil] at hn h1 h2; have g0 := h2 x0 (by simp); omega
      | [x0, x1], h1, h2, hn, hw => simp only [codeO, List.foldl_cons, List.foldl_nil, List.length_cons, List.length_nil] at hn h1 h2; have g0 := h2 x0 (by simp); have g1 := h2 x1 (by simp); have z : n = 0 ∧ x0 = 1 ∧ x1 = 0 := (by omega); obtain ⟨rfl, rfl, rfl⟩ := z; exact match us, hu, ws, hw with | [], _, [b0, b1], _ => rfl
      | _ :: _ :: _ :: _, h1, h2, hn, hw => simp only [List.length_cons] at h1; omega
theorem cal_most_burst {f : Addr} {fd : FuncData} (F : L2.Fun K "most_burst" "most_burst" (topS 50) f fd) (hm : mg "most_burst" = some (.ref f)) (blt : ∀ x, x ∈ bNames → mg x = none)  : Cal P w K mg base (KD T) 1 "most_burst" ["pattern"] [0, 1] g_most_burst := by
  have NM : Nm P w K mg base (KD T) 0 nm_most_burst cf_most_burst := by
    refine ⟨fun x ps ns h ne1 ne2 ne3 => ?_, fun x a h => ?_, fun x ns h => ?_, fun c fs h => ?_⟩
    · unfold nm_most_burst at h
      cases h
    · unfold nm_most_burst at h
      cases h
    · unfold nm_most_burst at h
      cases h
    · unfold nm_most_burst at h
      cases h
  refine cal_of (k := 0) (cf := cf_most_burst) F hm sc_most_burst blt (NM.mono (by decide)) (fun h => by rw [hh_most_burst] at h; cases h) ck_most_burst (fun kV doc pm an cdv ct n hn us ws h1 h2 => ?_) (fun _ _ _ _ _ _ _ _ _ _ _ h => absurd h (codeO_no (by decide)))
  · simp only [List.mem_cons, List.not_mem_nil, or_false] at hn
    rcases hn with rfl | rfl
    · exact (by have z : us.length + ws.length = 1 := h2; have h3 : ws.length = 1 := (by omega); exact match us, h1, ws, h3 with | [], _, [b0], _ => rfl)
    · exact (by have z : us.length + ws.length = 1 := h2; have h3 : ws.length = 0 := (by omega); exact match us, h1, ws, h3 with | [a0], _, [], _ => rfl)
theorem cal_most_window {f : Addr} {fd : FuncData} (F : L2.Fun K "most_window" "most_window" (topS 51) f fd) (hm : mg "most_window" = some (.ref f)) (blt : ∀ x, x ∈ bNames → mg x = none)  : Cal P w K mg base (KD T) 1 "most_window" ["pattern"] [0, 1] g_most_window := by
  have NM : Nm P w K mg base (KD T) 0 nm_most_window cf_most_window := by
    refine ⟨fun x ps ns h ne1 ne2 ne3 => ?_, fun x a h => ?_, fun x ns h => ?_, fun c fs h => ?_⟩
    · unfold nm_most_window at h
      cases h
    · unfold nm_most_window at h
      cases h
    · unfold nm_most_window at h
      cases h
    · unfold nm_most_window at h
      cases h
  refine cal_of (k := 0) (cf := cf_most_window) F hm sc_most_window blt (NM.mono (by decide)) (fun h => by rw [hh_most_window] at h; cases h) ck_most_window (fun kV doc pm an cdv ct n hn us ws h1 h2 => ?_) (fun _ _ _ _ _ _ _ _ _ _ _ h => absurd h (codeO_no (by decide)))
  · simp only [List.mem_cons, List.not_mem_nil, or_false] at hn
    rcases hn with rfl | rfl
    · exact (by have z : us.length + ws.length = 1 := h2; have h3 : ws.length = 1 := (by omega); exact match us, h1, ws, h3 with | [], _, [b0], _ => rfl)
    · exact (by have z : us.length + ws.length = 1 := h2; have h3 : ws.length = 0 := (by omega); exact match us, h1, ws, h3 with | [a0], _, [], _ => rfl)
theorem cal_sum_of_rows {f : Addr} {fd : FuncData} (F : L2.Fun K "sum_of_rows" "sum_of_rows" (topS 53) f fd) (hm : mg "sum_of_rows" = some (.ref f)) (blt : ∀ x, x ∈ bNames → mg x = none)  : Cal P w K mg base (KD T) 1 "sum_of_rows" ["book", "multiples"] [2] g_sum_of_rows := by
  have NM : Nm P w K mg base (KD T) 0 nm_sum_of_rows cf_sum_of_rows := by
    refine ⟨fun x ps ns h ne1 ne2 ne3 => ?_, fun x a h => ?_, fun x ns h => ?_, fun c fs h => ?_⟩
    · unfold nm_sum_of_rows at h
      cases h
    · unfold nm_sum_of_rows at h
      cases h
    · unfold nm_sum_of_rows at h
      cases h
    · unfold nm_sum_of_rows at h
      cases h
  refine cal_of (k := 0) (cf := cf_sum_of_rows) F hm sc_sum_of_rows blt (NM.mono (by decide)) (fun h => by rw [hh_sum_of_rows] at h; cases h) ck_sum_of_rows (fun kV doc pm an cdv ct n hn us ws h1 h2 => ?_) (fun _ _ _ _ _ _ _ _ _ _ _ h => absurd h (codeO_no (by decide)))
  · simp only [List.mem_cons, List.not_mem_nil, or_false] at hn
    subst hn
    exact (by have z : us.length + ws.length = 2 := h2; have h3 : ws.length = 0 := (by omega); exact match us, h1, ws, h3 with | [a0, a1], _, [], _ => rfl)
theorem cal_check_at {f : Addr} {fd : FuncData} (F : L2.Fun K "check_at" "check_at" (topS 56) f fd) (hm : mg "check_at" = some (.ref f)) (blt : ∀ x, x ∈ bNames → mg x = none)  : Cal P w K mg base (KD T) 1 "check_at" ["book", "leads", "place"] [3] g_check_at := by
  have NM : Nm P w K mg base (KD T) 0 nm_check_at cf_check_at := by
    refine ⟨fun x ps ns h ne1 ne2 ne3 => ?_, fun x a h => ?_, fun x ns h => ?_, fun c fs h => ?_⟩
    · unfold nm_check_at at h
      cases h
    · unfold nm_check_at at h
      cases h
    · unfold nm_check_at at h
      cases h
    · unfold nm_check_at at h
      cases h
  refine cal_of (k := 0) (cf := cf_check_at) F hm sc_check_at blt (NM.mono (by decide)) (fun h => by rw [hh_check_at] at h; cases h) ck_check_at (fun kV doc pm an cdv ct n hn us ws h1 h2 => ?_) (fun _ _ _ _ _ _ _ _ _ _ _ h => absurd h (codeO_no (by decide)))
  · simp only [List.mem_cons, List.not_mem_nil, or_false] at hn
    subst hn
    exact (by have z : us.length + ws.length = 3 := h2; have h3 : ws.length = 0 := (by omega); exact match us, h1, ws, h3 with | [a0, a1, a2], _, [], _ => rfl)
theorem cal_checks_of {f : Addr} {fd : FuncData} (F : L2.Fun K "checks_of" "checks_of" (topS 55) f fd) (hm : mg "checks_of" = some (.ref f)) (blt : ∀ x, x ∈ bNames → mg x = none) (h0 : Cal P w K mg base (KD T) 1 "lead_of" ["word"] [1] g_lead_of) (h1 : Cal P w K mg base (KD T) 1 "check_at" ["book", "leads", "place"] [3] g_check_at) (h2 : Cal P w K mg base (KD T) 4 "settled_rows" ["prime", "words"] [2] g_settled_rows) : Cal P w K mg base (KD T) 5 "checks_of" ["book"] [1] g_checks_of := by
  have NM : Nm P w K mg base (KD T) 4 nm_checks_of cf_checks_of := by
    refine ⟨fun x ps ns h ne1 ne2 ne3 => ?_, fun x a h => ?_, fun x ns h => ?_, fun c fs h => ?_⟩
    · unfold nm_checks_of at h
      split at h
      · rename_i e; subst e; cases h; exact Cal0.mono h0 (by decide)
      · skip
        split at h
        · rename_i e; subst e; cases h; exact Cal0.mono h1 (by decide)
        · skip
          split at h
          · rename_i e; subst e; cases h; exact Cal0.mono h2 (by decide)
          · skip
            cases h
    · unfold nm_checks_of at h
      split at h
      · rename_i e; subst e; (exfalso; simp at h)
      · skip
        split at h
        · rename_i e; subst e; (exfalso; simp at h)
        · skip
          split at h
          · rename_i e; subst e; (exfalso; simp at h)
          · skip
            cases h
    · unfold nm_checks_of at h
      split at h
      · rename_i e; subst e; (exfalso; simp at h)
      · skip
        split at h
        · rename_i e; subst e; (exfalso; simp at h)
        · skip
          split at h
          · rename_i e; subst e; (exfalso; simp at h)
          · skip
            cases h
    · unfold nm_checks_of at h
      split at h
      · rename_i e; subst e; (exfalso; simp at h)
      · skip
        split at h
        · rename_i e; subst e; (exfalso; simp at h)
        · skip
          split at h
          · rename_i e; subst e; (exfalso; simp at h)
          · skip
            cases h
  refine cal_of (k := 4) (cf := cf_checks_of) F hm sc_checks_of blt (NM.mono (by decide)) (fun h => by rw [hh_checks_of] at h; cases h) ck_checks_of (fun kV doc pm an cdv ct n hn us ws h1 h2 => ?_) (fun _ _ _ _ _ _ _ _ _ _ _ h => absurd h (codeO_no (by decide)))
  · simp only [List.mem_cons, List.not_mem_nil, or_false] at hn
    subst hn
    exact (by have z : us.length + ws.length = 1 := h2; have h3 : ws.length = 0 := (by omega); exact match us, h1, ws, h3 with | [a0], _, [], _ => rfl)
theorem cal_are_told {f : Addr} {fd : FuncData} (F : L2.Fun K "are_told" "are_told" (topS 58) f fd) (hm : mg "are_told" = some (.ref f)) (blt : ∀ x, x ∈ bNames → mg x = none) (h0 : Cal P w K mg base (KD T) 3 "is_digit" ["prime", "thing"] [2] g_is_digit) : Cal P w K mg base (KD T) 4 "are_told" ["prime", "size", "thing"] [3] g_are_told := by
  have NM : Nm P w K mg base (KD T) 3 nm_are_told cf_are_told := by
    refine ⟨fun x ps ns h ne1 ne2 ne3 => ?_, fun x a h => ?_, fun x ns h => ?_, fun c fs h => ?_⟩
    · unfold nm_are_told at h
      split at h
      · rename_i e; subst e; cases h; exact Cal0.mono h0 (by decide)
      · skip
        cases h
    · unfold nm_are_told at h
      split at h
      · rename_i e; subst e; (exfalso; simp at h)
      · skip
        cases h
    · unfold nm_are_told at h
      split at h
      · rename_i e; subst e; (exfalso; simp at h)
      · skip
        cases h
    · unfold nm_are_told at h
      split at h
      · rename_i e; subst e; (exfalso; simp at h)
      · skip
        cases h
  refine cal_of (k := 3) (cf := cf_are_told) F hm sc_are_told blt (NM.mono (by decide)) (fun h => by rw [hh_are_told] at h; cases h) ck_are_told (fun kV doc pm an cdv ct n hn us ws h1 h2 => ?_) (fun _ _ _ _ _ _ _ _ _ _ _ h => absurd h (codeO_no (by decide)))
  · simp only [List.mem_cons, List.not_mem_nil, or_false] at hn
    subst hn
    exact (by have z : us.length + ws.length = 3 := h2; have h3 : ws.length = 0 := (by omega); exact match us, h1, ws, h3 with | [a0, a1, a2], _, [], _ => rfl)
theorem cal_tearing_ways {f : Addr} {fd : FuncData} (F : L2.Fun K "tearing_ways" "tearing_ways" (topS 60) f fd) (hm : mg "tearing_ways" = some (.ref f)) (blt : ∀ x, x ∈ bNames → mg x = none) (h0 : Cal P w K mg base (KD T) 5 "solution_of" ["prime", "equations", "many"] [3] g_solution_of) : Cal P w K mg base (KD T) 6 "tearing_ways" ["book", "told", "digits"] [3] g_tearing_ways := by
  have NM : Nm P w K mg base (KD T) 5 nm_tearing_ways cf_tearing_ways := by
    refine ⟨fun x ps ns h ne1 ne2 ne3 => ?_, fun x a h => ?_, fun x ns h => ?_, fun c fs h => ?_⟩
    · unfold nm_tearing_ways at h
      split at h
      · rename_i e; subst e; cases h; exact Cal0.mono h0 (by decide)
      · skip
        cases h
    · unfold nm_tearing_ways at h
      split at h
      · rename_i e; subst e; (exfalso; simp at h)
      · skip
        cases h
    · unfold nm_tearing_ways at h
      split at h
      · rename_i e; subst e; (exfalso; simp at h)
      · skip
        cases h
    · unfold nm_tearing_ways at h
      split at h
      · rename_i e; subst e; (exfalso; simp at h)
      · skip
        cases h
  refine cal_of (k := 5) (cf := cf_tearing_ways) F hm sc_tearing_ways blt (NM.mono (by decide)) (fun h => by rw [hh_tearing_ways] at h; cases h) ck_tearing_ways (fun kV doc pm an cdv ct n hn us ws h1 h2 => ?_) (fun _ _ _ _ _ _ _ _ _ _ _ h => absurd h (codeO_no (by decide)))
  · simp only [List.mem_cons, List.not_mem_nil, or_false] at hn
    subst hn
    exact (by have z : us.length + ws.length = 3 := h2; have h3 : ws.length = 0 := (by omega); exact match us, h1, ws, h3 with | [a0, a1, a2], _, [], _ => rfl)
theorem cal_words_within {f : Addr} {fd : FuncData} (F : L2.Fun K "words_within" "words_within" (topS 61) f fd) (hm : mg "words_within" = some (.ref f)) (blt : ∀ x, x ∈ bNames → mg x = none) (h0 : Cal P w K mg base (KD T) 4 "settled_rows" ["prime", "words"] [2] g_settled_rows) (h1 : Cal P w K mg base (KD T) 5 "checks_of" ["book"] [1] g_checks_of) : Cal P w K mg base (KD T) 6 "words_within" ["book", "told"] [2] g_words_within := by
  have NM : Nm P w K mg base (KD T) 5 nm_words_within cf_words_within := by
    refine ⟨fun x ps ns h ne1 ne2 ne3 => ?_, fun x a h => ?_, fun x ns h => ?_, fun c fs h => ?_⟩
    · unfold nm_words_within at h
      split at h
      · rename_i e; subst e; cases h; exact Cal0.mono h0 (by decide)
      · skip
        split at h
        · rename_i e; subst e; cases h; exact Cal0.mono h1 (by decide)
        · skip
          cases h
    · unfold nm_words_within at h
      split at h
      · rename_i e; subst e; (exfalso; simp at h)
      · skip
        split at h
        · rename_i e; subst e; (exfalso; simp at h)
        · skip
          cases h
    · unfold nm_words_within at h
      split at h
      · rename_i e; subst e; (exfalso; simp at h)
      · skip
        split at h
        · rename_i e; subst e; (exfalso; simp at h)
        · skip
          cases h
    · unfold nm_words_within at h
      split at h
      · rename_i e; subst e; (exfalso; simp at h)
      · skip
        split at h
        · rename_i e; subst e; (exfalso; simp at h)
        · skip
          cases h
  refine cal_of (k := 5) (cf := cf_words_within) F hm sc_words_within blt (NM.mono (by decide)) (fun h => by rw [hh_words_within] at h; cases h) ck_words_within (fun kV doc pm an cdv ct n hn us ws h1 h2 => ?_) (fun _ _ _ _ _ _ _ _ _ _ _ h => absurd h (codeO_no (by decide)))
  · simp only [List.mem_cons, List.not_mem_nil, or_false] at hn
    subst hn
    exact (by have z : us.length + ws.length = 2 := h2; have h3 : ws.length = 0 := (by omega); exact match us, h1, ws, h3 with | [a0, a1], _, [], _ => rfl)
theorem cal_filled {f : Addr} {fd : FuncData} (F : L2.Fun K "filled" "filled" (topS 59) f fd) (hm : mg "filled" = some (.ref f)) (blt : ∀ x, x ∈ bNames → mg x = none) (h0 : Cal P w K mg base (KD T) 3 "demand" ["holds", "name"] [2] g_demand) (h1 : Cal P w K mg base (KD T) 4 "are_told" ["prime", "size", "thing"] [3] g_are_told) (h2 : Cal P w K mg base (KD T) 1 "column_at" ["book", "place"] [2] g_column_at) (h3 : Cal P w K mg base (KD T) 5 "solution_of" ["prime", "equations", "many"] [3] g_solution_of) (h4 : Cal P w K mg base (KD T) 6 "tearing_ways" ["book", "told", "digits"] [3] g_tearing_ways) (h5 : Cal P w K mg base (KD T) 5 "settled_columns" ["book", "places"] [2] g_settled_columns) (h6 : Cal P w K mg base (KD T) 6 "words_within" ["book", "told"] [2] g_words_within) (h7 : Cal P w K mg base (KD T) 1 "sum_of_rows" ["book", "multiples"] [2] g_sum_of_rows) (e0 : ExcD P w K mg base 2 "Lost" ["within"]) (e1 : ExcD P w K mg base 2 "Torn" ["ways"]) : Cal P w K mg base (KD T) 7 "filled" ["book", "digits"] [2, 2021] g_filled := by
  have NM : Nm P w K mg base (KD T) 6 nm_filled cf_filled := by
    refine ⟨fun x ps ns h ne1 ne2 ne3 => ?_, fun x a h => ?_, fun x ns h => ?_, fun c fs h => ?_⟩
    · unfold nm_filled at h
      split at h
      · rename_i e; subst e; cases h; exact Cal0.mono h0 (by decide)
      · skip
        split at h
        · rename_i e; subst e; cases h; exact Cal0.mono h1 (by decide)
        · skip
          split at h
          · rename_i e; subst e; cases h; exact Cal0.mono h2 (by decide)
          · skip
            split at h
            · rename_i e; subst e; cases h; exact Cal0.mono h3 (by decide)
            · skip
              split at h
              · rename_i e; subst e; cases h; exact Cal0.mono h4 (by decide)
              · skip
                split at h
                · rename_i e; subst e; cases h; exact Cal0.mono h5 (by decide)
                · skip
                  split at h
                  · rename_i e; subst e; cases h; exact Cal0.mono h6 (by decide)
                  · skip
                    split at h
                    · rename_i e; subst e; cases h; exact Cal0.mono h7 (by decide)
                    · skip
                      split at h
                      · rename_i e; subst e; cases h; exact absurd List.mem_cons_self ne2
                      · skip
                        split at h
                        · rename_i e; subst e; cases h; exact absurd List.mem_cons_self ne2
                        · skip
                          cases h
    · unfold nm_filled at h
      split at h
      · rename_i e; subst e; (exfalso; simp at h)
      · skip
        split at h
        · rename_i e; subst e; (exfalso; simp at h)
        · skip
          split at h
          · rename_i e; subst e; (exfalso; simp at h)
          · skip
            split at h
            · rename_i e; subst e; (exfalso; simp at h)
            · skip
              split at h
              · rename_i e; subst e; (exfalso; simp at h)
              · skip
                split at h
                · rename_i e; subst e; (exfalso; simp at h)
                · skip
                  split at h
                  · rename_i e; subst e; (exfalso; simp at h)
                  · skip
                    split at h
                    · rename_i e; subst e; (exfalso; simp at h)
                    · skip
                      split at h
                      · rename_i e; subst e; (exfalso; simp at h)
                      · skip
                        split at h
                        · rename_i e; subst e; (exfalso; simp at h)
                        · skip
                          cases h
    · unfold nm_filled at h
      split at h
      · rename_i e; subst e; (exfalso; simp at h)
      · skip
        split at h
        · rename_i e; subst e; (exfalso; simp at h)
        · skip
          split at h
          · rename_i e; subst e; (exfalso; simp at h)
          · skip
            split at h
            · rename_i e; subst e; (exfalso; simp at h)
            · skip
              split at h
              · rename_i e; subst e; (exfalso; simp at h)
              · skip
                split at h
                · rename_i e; subst e; (exfalso; simp at h)
                · skip
                  split at h
                  · rename_i e; subst e; (exfalso; simp at h)
                  · skip
                    split at h
                    · rename_i e; subst e; (exfalso; simp at h)
                    · skip
                      split at h
                      · rename_i e; subst e; (exfalso; simp at h)
                      · skip
                        split at h
                        · rename_i e; subst e; (exfalso; simp at h)
                        · skip
                          cases h
    · unfold nm_filled at h
      split at h
      · rename_i e; subst e; (exfalso; simp at h)
      · skip
        split at h
        · rename_i e; subst e; (exfalso; simp at h)
        · skip
          split at h
          · rename_i e; subst e; (exfalso; simp at h)
          · skip
            split at h
            · rename_i e; subst e; (exfalso; simp at h)
            · skip
              split at h
              · rename_i e; subst e; (exfalso; simp at h)
              · skip
                split at h
                · rename_i e; subst e; (exfalso; simp at h)
                · skip
                  split at h
                  · rename_i e; subst e; (exfalso; simp at h)
                  · skip
                    split at h
                    · rename_i e; subst e; (exfalso; simp at h)
                    · skip
                      split at h
                      · rename_i e; subst e; cases h; exact ExcD.mono e0 (by decide)
                      · skip
                        split at h
                        · rename_i e; subst e; cases h; exact ExcD.mono e1 (by decide)
                        · skip
                          cases h
  refine cal_of (k := 6) (cf := cf_filled) F hm sc_filled blt (NM.mono (by decide)) (fun h => by rw [hh_filled] at h; cases h) ck_filled (fun kV doc pm an cdv ct n hn us ws h1 h2 => ?_) (fun kV doc pm an cdv ct n ord h1 h2 h9 hn us ws hu hw => ?_)
  · simp only [List.mem_cons, List.not_mem_nil, or_false] at hn
    rcases hn with rfl | rfl
    · exact (by have z : us.length + ws.length = 2 := h2; have h3 : ws.length = 0 := (by omega); exact match us, h1, ws, h3 with | [a0, a1], _, [], _ => rfl)
    · exfalso; have z : us.length + ws.length = 2 := h2; omega
  · have h1 : n + ord.length = 2 := h1
    simp only [List.mem_cons, List.not_mem_nil, or_false] at hn
    rcases hn with hn | hn
    · exfalso; unfold codeO at hn; omega
    · match ord, h1, h2, hn, hw with
      | [], h1, h2, hn, hw => simp only [codeO, List.foldl_cons, List.foldl_nil, List.length_cons, List.length_nil] at hn h1 h2;  omega
      | [x0], h1, h2, hn, hw => simp only [codeO, List.foldl_cons, List.foldl_nil, List.length_cons, List.length_nil] at hn h1 h2; have g0 := h2 x0 (by simp); omega
      | [x0, x1], h1, h2, hn, hw => simp only [codeO, List.foldl_cons, List.foldl_nil, List.length_cons, List.length_nil] at hn h1 h2; have g0 := h2 x0 (by simp); have g1 := h2 x1 (by simp); have z : n = 0 ∧ x0 = 1 ∧ x1 = 0 := (by omega); obtain ⟨rfl, rfl, rfl⟩ := z; exact match us, hu, ws, hw with | [], _, [b0, b1], _ => rfl
      | _ :: _ :: _ :: _, h1, h2, hn, hw => simp only [List.length_cons] at h1; omega
theorem cal_open_words {f : Addr} {fd : FuncData} (F : L2.Fun K "open_words" "open_words" (topS 62) f fd) (hm : mg "open_words" = some (.ref f)) (blt : ∀ x, x ∈ bNames → mg x = none) (h0 : Cal P w K mg base (KD T) 3 "demand" ["holds", "name"] [2] g_demand) (h1 : Cal P w K mg base (KD T) 4 "is_stretch" ["size", "thing"] [2] g_is_stretch) (h2 : Cal P w K mg base (KD T) 1 "places_from" ["size", "start", "many"] [3] g_places_from) (h3 : Cal P w K mg base (KD T) 6 "words_within" ["book", "told"] [2] g_words_within) : Cal P w K mg base (KD T) 7 "open_words" ["book", "stretch"] [2, 2021] g_open_words := by
  have NM : Nm P w K mg base (KD T) 6 nm_open_words cf_open_words := by
    refine ⟨fun x ps ns h ne1 ne2 ne3 => ?_, fun x a h => ?_, fun x ns h => ?_, fun c fs h => ?_⟩
    · unfold nm_open_words at h
      split at h
      · rename_i e; subst e; cases h; exact Cal0.mono h0 (by decide)
      · skip
        split at h
        · rename_i e; subst e; cases h; exact Cal0.mono h1 (by decide)
        · skip
          split at h
          · rename_i e; subst e; cases h; exact Cal0.mono h2 (by decide)
          · skip
            split at h
            · rename_i e; subst e; cases h; exact Cal0.mono h3 (by decide)
            · skip
              cases h
    · unfold nm_open_words at h
      split at h
      · rename_i e; subst e; (exfalso; simp at h)
      · skip
        split at h
        · rename_i e; subst e; (exfalso; simp at h)
        · skip
          split at h
          · rename_i e; subst e; (exfalso; simp at h)
          · skip
            split at h
            · rename_i e; subst e; (exfalso; simp at h)
            · skip
              cases h
    · unfold nm_open_words at h
      split at h
      · rename_i e; subst e; (exfalso; simp at h)
      · skip
        split at h
        · rename_i e; subst e; (exfalso; simp at h)
        · skip
          split at h
          · rename_i e; subst e; (exfalso; simp at h)
          · skip
            split at h
            · rename_i e; subst e; (exfalso; simp at h)
            · skip
              cases h
    · unfold nm_open_words at h
      split at h
      · rename_i e; subst e; (exfalso; simp at h)
      · skip
        split at h
        · rename_i e; subst e; (exfalso; simp at h)
        · skip
          split at h
          · rename_i e; subst e; (exfalso; simp at h)
          · skip
            split at h
            · rename_i e; subst e; (exfalso; simp at h)
            · skip
              cases h
  refine cal_of (k := 6) (cf := cf_open_words) F hm sc_open_words blt (NM.mono (by decide)) (fun h => by rw [hh_open_words] at h; cases h) ck_open_words (fun kV doc pm an cdv ct n hn us ws h1 h2 => ?_) (fun kV doc pm an cdv ct n ord h1 h2 h9 hn us ws hu hw => ?_)
  · simp only [List.mem_cons, List.not_mem_nil, or_false] at hn
    rcases hn with rfl | rfl
    · exact (by have z : us.length + ws.length = 2 := h2; have h3 : ws.length = 0 := (by omega); exact match us, h1, ws, h3 with | [a0, a1], _, [], _ => rfl)
    · exfalso; have z : us.length + ws.length = 2 := h2; omega
  · have h1 : n + ord.length = 2 := h1
    simp only [List.mem_cons, List.not_mem_nil, or_false] at hn
    rcases hn with hn | hn
    · exfalso; unfold codeO at hn; omega
    · match ord, h1, h2, hn, hw with
      | [], h1, h2, hn, hw => simp only [codeO, List.foldl_cons, List.foldl_nil, List.length_cons, List.length_nil] at hn h1 h2;  omega
      | [x0], h1, h2, hn, hw => simp only [codeO, List.foldl_cons, List.foldl_nil, List.length_cons, List.length_nil] at hn h1 h2; have g0 := h2 x0 (by simp); omega
      | [x0, x1], h1, h2, hn, hw => simp only [codeO, List.foldl_cons, List.foldl_nil, List.length_cons, List.length_nil] at hn h1 h2; have g0 := h2 x0 (by simp); have g1 := h2 x1 (by simp); have z : n = 0 ∧ x0 = 1 ∧ x1 = 0 := (by omega); obtain ⟨rfl, rfl, rfl⟩ := z; exact match us, hu, ws, hw with | [], _, [b0, b1], _ => rfl
      | _ :: _ :: _ :: _, h1, h2, hn, hw => simp only [List.length_cons] at h1; omega
theorem cal_holds_any {f : Addr} {fd : FuncData} (F : L2.Fun K "holds_any" "holds_any" (topS 63) f fd) (hm : mg "holds_any" = some (.ref f)) (blt : ∀ x, x ∈ bNames → mg x = none) (h0 : Cal P w K mg base (KD T) 3 "demand" ["holds", "name"] [2] g_demand) (h1 : Cal P w K mg base (KD T) 4 "is_stretch" ["size", "thing"] [2] g_is_stretch) (h2 : Cal P w K mg base (KD T) 5 "settled_columns" ["book", "places"] [2] g_settled_columns) (h3 : Cal P w K mg base (KD T) 1 "places_from" ["size", "start", "many"] [3] g_places_from) : Cal P w K mg base (KD T) 6 "holds_any" ["book", "stretch"] [2, 2021] g_holds_any := by
  have NM : Nm P w K mg base (KD T) 5 nm_holds_any cf_holds_any := by
    refine ⟨fun x ps ns h ne1 ne2 ne3 => ?_, fun x a h => ?_, fun x ns h => ?_, fun c fs h => ?_⟩
    · unfold nm_holds_any at h
      split at h
      · rename_i e; subst e; cases h; exact Cal0.mono h0 (by decide)
      · skip
        split at h
        · rename_i e; subst e; cases h; exact Cal0.mono h1 (by decide)
        · skip
          split at h
          · rename_i e; subst e; cases h; exact Cal0.mono h2 (by decide)
          · skip
            split at h
            · rename_i e; subst e; cases h; exact Cal0.mono h3 (by decide)
            · skip
              cases h
    · unfold nm_holds_any at h
      split at h
      · rename_i e; subst e; (exfalso; simp at h)
      · skip
        split at h
        · rename_i e; subst e; (exfalso; simp at h)
        · skip
          split at h
          · rename_i e; subst e; (exfalso; simp at h)
          · skip
            split at h
            · rename_i e; subst e; (exfalso; simp at h)
            · skip
              cases h
    · unfold nm_holds_any at h
      split at h
      · rename_i e; subst e; (exfalso; simp at h)
      · skip
        split at h
        · rename_i e; subst e; (exfalso; simp at h)
        · skip
          split at h
          · rename_i e; subst e; (exfalso; simp at h)
          · skip
            split at h
            · rename_i e; subst e; (exfalso; simp at h)
            · skip
              cases h
    · unfold nm_holds_any at h
      split at h
      · rename_i e; subst e; (exfalso; simp at h)
      · skip
        split at h
        · rename_i e; subst e; (exfalso; simp at h)
        · skip
          split at h
          · rename_i e; subst e; (exfalso; simp at h)
          · skip
            split at h
            · rename_i e; subst e; (exfalso; simp at h)
            · skip
              cases h
  refine cal_of (k := 5) (cf := cf_holds_any) F hm sc_holds_any blt (NM.mono (by decide)) (fun h => by rw [hh_holds_any] at h; cases h) ck_holds_any (fun kV doc pm an cdv ct n hn us ws h1 h2 => ?_) (fun kV doc pm an cdv ct n ord h1 h2 h9 hn us ws hu hw => ?_)
  · simp only [List.mem_cons, List.not_mem_nil, or_false] at hn
    rcases hn with rfl | rfl
    · exact (by have z : us.length + ws.length = 2 := h2; have h3 : ws.length = 0 := (by omega); exact match us, h1, ws, h3 with | [a0, a1], _, [], _ => rfl)
    · exfalso; have z : us.length + ws.length = 2 := h2; omega
  · have h1 : n + ord.length = 2 := h1
    simp only [List.mem_cons, List.not_mem_nil, or_false] at hn
    rcases hn with hn | hn
    · exfalso; unfold codeO at hn; omega
    · match ord, h1, h2, hn, hw with
      | [], h1, h2, hn, hw => simp only [codeO, List.foldl_cons, List.foldl_nil, List.length_cons, List.length_nil] at hn h1 h2;  omega
      | [x0], h1, h2, hn, hw => simp only [codeO, List.foldl_cons, List.foldl_nil, List.length_cons, List.length_nil] at hn h1 h2; have g0 := h2 x0 (by simp); omega
      | [x0, x1], h1, h2, hn, hw => simp only [codeO, List.foldl_cons, List.foldl_nil, List.length_cons, List.length_nil] at hn h1 h2; have g0 := h2 x0 (by simp); have g1 := h2 x1 (by simp); have z : n = 0 ∧ x0 = 1 ∧ x1 = 0 := (by omega); obtain ⟨rfl, rfl, rfl⟩ := z; exact match us, hu, ws, hw with | [], _, [b0, b1], _ => rfl
      | _ :: _ :: _ :: _, h1, h2, hn, hw => simp only [List.length_cons] at h1; omega
theorem cal__law_same {f : Addr} {fd : FuncData} (F : L2.Fun K "_law_same" "_law_same" (topS 66) f fd) (hm : mg "_law_same" = some (.ref f)) (blt : ∀ x, x ∈ bNames → mg x = none)  : Cal P w K mg base (KD T) 1 "_law_same" ["_law_heard_here", "_law_due"] [2] g__law_same := by
  have NM : Nm P w K mg base (KD T) 0 nm__law_same cf__law_same := by
    refine ⟨fun x ps ns h ne1 ne2 ne3 => ?_, fun x a h => ?_, fun x ns h => ?_, fun c fs h => ?_⟩
    · unfold nm__law_same at h
      cases h
    · unfold nm__law_same at h
      cases h
    · unfold nm__law_same at h
      cases h
    · unfold nm__law_same at h
      cases h
  refine cal_of (k := 0) (cf := cf__law_same) F hm sc__law_same blt (NM.mono (by decide)) (fun h => by rw [hh__law_same] at h; cases h) ck__law_same (fun kV doc pm an cdv ct n hn us ws h1 h2 => ?_) (fun _ _ _ _ _ _ _ _ _ _ _ h => absurd h (codeO_no (by decide)))
  · simp only [List.mem_cons, List.not_mem_nil, or_false] at hn
    subst hn
    exact (by have z : us.length + ws.length = 2 := h2; have h3 : ws.length = 0 := (by omega); exact match us, h1, ws, h3 with | [a0, a1], _, [], _ => rfl)
theorem cal__law_draw {f : Addr} {fd : FuncData} (F : L2.Fun K "_law_draw" "_law_draw" (topS 67) f fd) (hm : mg "_law_draw" = some (.ref f)) (blt : ∀ x, x ∈ bNames → mg x = none)  : Cal P w K mg base (KD T) 1 "_law_draw" ["_law_feed_here", "_law_many"] [2] g__law_draw := by
  have NM : Nm P w K mg base (KD T) 0 nm__law_draw cf__law_draw := by
    refine ⟨fun x ps ns h ne1 ne2 ne3 => ?_, fun x a h => ?_, fun x ns h => ?_, fun c fs h => ?_⟩
    · unfold nm__law_draw at h
      cases h
    · unfold nm__law_draw at h
      cases h
    · unfold nm__law_draw at h
      cases h
    · unfold nm__law_draw at h
      cases h
  refine cal_of (k := 0) (cf := cf__law_draw) F hm sc__law_draw blt (NM.mono (by decide)) (fun h => by rw [hh__law_draw] at h; cases h) ck__law_draw (fun kV doc pm an cdv ct n hn us ws h1 h2 => ?_) (fun _ _ _ _ _ _ _ _ _ _ _ h => absurd h (codeO_no (by decide)))
  · simp only [List.mem_cons, List.not_mem_nil, or_false] at hn
    subst hn
    exact (by have z : us.length + ws.length = 2 := h2; have h3 : ws.length = 0 := (by omega); exact match us, h1, ws, h3 with | [a0, a1], _, [], _ => rfl)
theorem cal__law_are_bursts_told {f : Addr} {fd : FuncData} (F : L2.Fun K "_law_are_bursts_told" "_law_are_bursts_told" (topS 69) f fd) (hm : mg "_law_are_bursts_told" = some (.ref f)) (blt : ∀ x, x ∈ bNames → mg x = none) (h0 : Cal P w K mg base (KD T) 5 "mends_burst" ["pattern", "stretch"] [2, 2021] g_mends_burst) (h1 : Cal P w K mg base (KD T) 1 "most_window" ["pattern"] [0, 1] g_most_window) (h2 : Cal P w K mg base (KD T) 1 "most_burst" ["pattern"] [0, 1] g_most_burst) (h3 : Cal P w K mg base (KD T) 5 "open_rank" ["pattern", "stretch"] [2, 2021] g_open_rank) (h4 : Cal P w K mg base (KD T) 1 "_law_same" ["_law_heard_here", "_law_due"] [2] sameF) : Cal P w K mg base (KD T) 6 "_law_are_bursts_told" [] [0] g__law_are_bursts_told := by
  have NM : Nm P w K mg base (KD T) 5 nm__law_are_bursts_told cf__law_are_bursts_told := by
    refine ⟨fun x ps ns h ne1 ne2 ne3 => ?_, fun x a h => ?_, fun x ns h => ?_, fun c fs h => ?_⟩
    · unfold nm__law_are_bursts_told at h
      split at h
      · rename_i e; subst e; cases h; exact Cal0.mono h0 (by decide)
      · skip
        split at h
        · rename_i e; subst e; cases h; exact Cal0.mono h1 (by decide)
        · skip
          split at h
          · rename_i e; subst e; cases h; exact Cal0.mono h2 (by decide)
          · skip
            split at h
            · rename_i e; subst e; cases h; exact Cal0.mono h3 (by decide)
            · skip
              split at h
              · rename_i e; subst e; cases h; exact Cal0.mono h4 (by decide)
              · skip
                cases h
    · unfold nm__law_are_bursts_told at h
      split at h
      · rename_i e; subst e; (exfalso; simp at h)
      · skip
        split at h
        · rename_i e; subst e; (exfalso; simp at h)
        · skip
          split at h
          · rename_i e; subst e; (exfalso; simp at h)
          · skip
            split at h
            · rename_i e; subst e; (exfalso; simp at h)
            · skip
              split at h
              · rename_i e; subst e; (exfalso; simp at h)
              · skip
                cases h
    · unfold nm__law_are_bursts_told at h
      split at h
      · rename_i e; subst e; (exfalso; simp at h)
      · skip
        split at h
        · rename_i e; subst e; (exfalso; simp at h)
        · skip
          split at h
          · rename_i e; subst e; (exfalso; simp at h)
          · skip
            split at h
            · rename_i e; subst e; (exfalso; simp at h)
            · skip
              split at h
              · rename_i e; subst e; (exfalso; simp at h)
              · skip
                cases h
    · unfold nm__law_are_bursts_told at h
      split at h
      · rename_i e; subst e; (exfalso; simp at h)
      · skip
        split at h
        · rename_i e; subst e; (exfalso; simp at h)
        · skip
          split at h
          · rename_i e; subst e; (exfalso; simp at h)
          · skip
            split at h
            · rename_i e; subst e; (exfalso; simp at h)
            · skip
              split at h
              · rename_i e; subst e; (exfalso; simp at h)
              · skip
                cases h
  refine cal_of (k := 5) (cf := cf__law_are_bursts_told) F hm sc__law_are_bursts_told blt (NM.mono (by decide)) (fun h => by rw [hh__law_are_bursts_told] at h; cases h) ck__law_are_bursts_told (fun kV doc pm an cdv ct n hn us ws h1 h2 => ?_) (fun _ _ _ _ _ _ _ _ _ _ _ h => absurd h (codeO_no (by decide)))
  · simp only [List.mem_cons, List.not_mem_nil, or_false] at hn
    subst hn
    exact (by have z : us.length + ws.length = 0 := h2; have h3 : ws.length = 0 := (by omega); exact match us, h1, ws, h3 with | [], _, [], _ => rfl)
theorem cal__law_are_menders_told {f : Addr} {fd : FuncData} (F : L2.Fun K "_law_are_menders_told" "_law_are_menders_told" (topS 70) f fd) (hm : mg "_law_are_menders_told" = some (.ref f)) (blt : ∀ x, x ∈ bNames → mg x = none) (h0 : Cal P w K mg base (KD T) 4 "next_ones" ["pattern", "place"] [2, 2021] g_next_ones) (h1 : Cal P w K mg base (KD T) 5 "ones_before" ["pattern", "place"] [2, 2021] g_ones_before) (h2 : Cal P w K mg base (KD T) 4 "chain_of" ["pattern", "place"] [2, 2021] g_chain_of) (h3 : Cal P w K mg base (KD T) 1 "_law_same" ["_law_heard_here", "_law_due"] [2] sameF) : Cal P w K mg base (KD T) 6 "_law_are_menders_told" [] [0] g__law_are_menders_told := by
  have NM : Nm P w K mg base (KD T) 5 nm__law_are_menders_told cf__law_are_menders_told := by
    refine ⟨fun x ps ns h ne1 ne2 ne3 => ?_, fun x a h => ?_, fun x ns h => ?_, fun c fs h => ?_⟩
    · unfold nm__law_are_menders_told at h
      split at h
      · rename_i e; subst e; cases h; exact Cal0.mono h0 (by decide)
      · skip
        split at h
        · rename_i e; subst e; cases h; exact Cal0.mono h1 (by decide)
        · skip
          split at h
          · rename_i e; subst e; cases h; exact Cal0.mono h2 (by decide)
          · skip
            split at h
            · rename_i e; subst e; cases h; exact Cal0.mono h3 (by decide)
            · skip
              cases h
    · unfold nm__law_are_menders_told at h
      split at h
      · rename_i e; subst e; (exfalso; simp at h)
      · skip
        split at h
        · rename_i e; subst e; (exfalso; simp at h)
        · skip
          split at h
          · rename_i e; subst e; (exfalso; simp at h)
          · skip
            split at h
            · rename_i e; subst e; (exfalso; simp at h)
            · skip
              cases h
    · unfold nm__law_are_menders_told at h
      split at h
      · rename_i e; subst e; (exfalso; simp at h)
      · skip
        split at h
        · rename_i e; subst e; (exfalso; simp at h)
        · skip
          split at h
          · rename_i e; subst e; (exfalso; simp at h)
          · skip
            split at h
            · rename_i e; subst e; (exfalso; simp at h)
            · skip
              cases h
    · unfold nm__law_are_menders_told at h
      split at h
      · rename_i e; subst e; (exfalso; simp at h)
      · skip
        split at h
        · rename_i e; subst e; (exfalso; simp at h)
        · skip
          split at h
          · rename_i e; subst e; (exfalso; simp at h)
          · skip
            split at h
            · rename_i e; subst e; (exfalso; simp at h)
            · skip
              cases h
  refine cal_of (k := 5) (cf := cf__law_are_menders_told) F hm sc__law_are_menders_told blt (NM.mono (by decide)) (fun h => by rw [hh__law_are_menders_told] at h; cases h) ck__law_are_menders_told (fun kV doc pm an cdv ct n hn us ws h1 h2 => ?_) (fun _ _ _ _ _ _ _ _ _ _ _ h => absurd h (codeO_no (by decide)))
  · simp only [List.mem_cons, List.not_mem_nil, or_false] at hn
    subst hn
    exact (by have z : us.length + ws.length = 0 := h2; have h3 : ws.length = 0 := (by omega); exact match us, h1, ws, h3 with | [], _, [], _ => rfl)
theorem cal__law_are_losses_told {f : Addr} {fd : FuncData} (F : L2.Fun K "_law_are_losses_told" "_law_are_losses_told" (topS 71) f fd) (hm : mg "_law_are_losses_told" = some (.ref f)) (blt : ∀ x, x ∈ bNames → mg x = none) (h0 : Cal P w K mg base (KD T) 7 "filled" ["book", "digits"] [2, 2021] g_filled) (h1 : Cal P w K mg base (KD T) 7 "open_words" ["book", "stretch"] [2, 2021] g_open_words) (h2 : Cal P w K mg base (KD T) 6 "holds_any" ["book", "stretch"] [2, 2021] g_holds_any) (h3 : Cal P w K mg base (KD T) 1 "_law_same" ["_law_heard_here", "_law_due"] [2] sameF) : Cal P w K mg base (KD T) 8 "_law_are_losses_told" [] [0] g__law_are_losses_told := by
  have NM : Nm P w K mg base (KD T) 7 nm__law_are_losses_told cf__law_are_losses_told := by
    refine ⟨fun x ps ns h ne1 ne2 ne3 => ?_, fun x a h => ?_, fun x ns h => ?_, fun c fs h => ?_⟩
    · unfold nm__law_are_losses_told at h
      split at h
      · rename_i e; subst e; cases h; exact Cal0.mono h0 (by decide)
      · skip
        split at h
        · rename_i e; subst e; cases h; exact Cal0.mono h1 (by decide)
        · skip
          split at h
          · rename_i e; subst e; cases h; exact Cal0.mono h2 (by decide)
          · skip
            split at h
            · rename_i e; subst e; cases h; exact Cal0.mono h3 (by decide)
            · skip
              cases h
    · unfold nm__law_are_losses_told at h
      split at h
      · rename_i e; subst e; (exfalso; simp at h)
      · skip
        split at h
        · rename_i e; subst e; (exfalso; simp at h)
        · skip
          split at h
          · rename_i e; subst e; (exfalso; simp at h)
          · skip
            split at h
            · rename_i e; subst e; (exfalso; simp at h)
            · skip
              cases h
    · unfold nm__law_are_losses_told at h
      split at h
      · rename_i e; subst e; (exfalso; simp at h)
      · skip
        split at h
        · rename_i e; subst e; (exfalso; simp at h)
        · skip
          split at h
          · rename_i e; subst e; (exfalso; simp at h)
          · skip
            split at h
            · rename_i e; subst e; (exfalso; simp at h)
            · skip
              cases h
    · unfold nm__law_are_losses_told at h
      split at h
      · rename_i e; subst e; (exfalso; simp at h)
      · skip
        split at h
        · rename_i e; subst e; (exfalso; simp at h)
        · skip
          split at h
          · rename_i e; subst e; (exfalso; simp at h)
          · skip
            split at h
            · rename_i e; subst e; (exfalso; simp at h)
            · skip
              cases h
  refine cal_of (k := 7) (cf := cf__law_are_losses_told) F hm sc__law_are_losses_told blt (NM.mono (by decide)) (fun h => by rw [hh__law_are_losses_told] at h; cases h) ck__law_are_losses_told (fun kV doc pm an cdv ct n hn us ws h1 h2 => ?_) (fun _ _ _ _ _ _ _ _ _ _ _ h => absurd h (codeO_no (by decide)))
  · simp only [List.mem_cons, List.not_mem_nil, or_false] at hn
    subst hn
    exact (by have z : us.length + ws.length = 0 := h2; have h3 : ws.length = 0 := (by omega); exact match us, h1, ws, h3 with | [], _, [], _ => rfl)
theorem cal__law_are_torn {f : Addr} {fd : FuncData} (F : L2.Fun K "_law_are_torn" "_law_are_torn" (topS 72) f fd) (hm : mg "_law_are_torn" = some (.ref f)) (blt : ∀ x, x ∈ bNames → mg x = none) (h0 : Cal P w K mg base (KD T) 7 "filled" ["book", "digits"] [2, 2021] g_filled) (h1 : Cal P w K mg base (KD T) 1 "_law_same" ["_law_heard_here", "_law_due"] [2] sameF) (y0 : HrdD P w K mg base (KD T) "_law_heard" "_law_call" g__law_heard) (tab : ∀ (oc : Value) (od : Option Addr) (kV doc pm : Value) (an : Option Addr) (cdv ct : Value) (osl : Array (Option Value)), K.lookup f = some ⟨oc, od, .func (PySem.W.fnOf "_law_are_torn" "_law_are_torn" (defArgs (topS 72)) (defBody (topS 72)) (defScope (topS 72)) .none kV doc pm an cdv ct), osl⟩ → TabC base mg (KD T) "_law_are_torn" cdv) : Cal P w K mg base (KD T) 10 "_law_are_torn" [] [0] g__law_are_torn := by
  have NM : Nm P w K mg base (KD T) 7 nm__law_are_torn cf__law_are_torn := by
    refine ⟨fun x ps ns h ne1 ne2 ne3 => ?_, fun x a h => ?_, fun x ns h => ?_, fun c fs h => ?_⟩
    · unfold nm__law_are_torn at h
      split at h
      · rename_i e; subst e; cases h; exact Cal0.mono h0 (by decide)
      · skip
        split at h
        · rename_i e; subst e; cases h; exact Cal0.mono h1 (by decide)
        · skip
          split at h
          · rename_i e; subst e; cases h; exact absurd rfl ne1
          · skip
            cases h
    · unfold nm__law_are_torn at h
      split at h
      · rename_i e; subst e; (exfalso; simp at h)
      · skip
        split at h
        · rename_i e; subst e; (exfalso; simp at h)
        · skip
          split at h
          · rename_i e; subst e; cases h; exact y0
          · skip
            cases h
    · unfold nm__law_are_torn at h
      split at h
      · rename_i e; subst e; (exfalso; simp at h)
      · skip
        split at h
        · rename_i e; subst e; (exfalso; simp at h)
        · skip
          split at h
          · rename_i e; subst e; (exfalso; simp at h)
          · skip
            cases h
    · unfold nm__law_are_torn at h
      split at h
      · rename_i e; subst e; (exfalso; simp at h)
      · skip
        split at h
        · rename_i e; subst e; (exfalso; simp at h)
        · skip
          split at h
          · rename_i e; subst e; (exfalso; simp at h)
          · skip
            cases h
  refine cal_of (k := 9) (cf := cf__law_are_torn) F hm sc__law_are_torn blt (NM.mono (by decide)) (fun _ => ⟨tab, 7, by decide, NM⟩) ck__law_are_torn (fun kV doc pm an cdv ct n hn us ws h1 h2 => ?_) (fun _ _ _ _ _ _ _ _ _ _ _ h => absurd h (codeO_no (by decide)))
  · simp only [List.mem_cons, List.not_mem_nil, or_false] at hn
    subst hn
    exact (by have z : us.length + ws.length = 0 := h2; have h3 : ws.length = 0 := (by omega); exact match us, h1, ws, h3 with | [], _, [], _ => rfl)
theorem cal__law_are_stretches_refused {f : Addr} {fd : FuncData} (F : L2.Fun K "_law_are_stretches_refused" "_law_are_stretches_refused" (topS 73) f fd) (hm : mg "_law_are_stretches_refused" = some (.ref f)) (blt : ∀ x, x ∈ bNames → mg x = none) (h0 : Cal P w K mg base (KD T) 5 "mends_burst" ["pattern", "stretch"] [2, 2021] g_mends_burst) (h1 : Cal P w K mg base (KD T) 5 "open_rank" ["pattern", "stretch"] [2, 2021] g_open_rank) (h2 : Cal P w K mg base (KD T) 7 "open_words" ["book", "stretch"] [2, 2021] g_open_words) (h3 : Cal P w K mg base (KD T) 6 "holds_any" ["book", "stretch"] [2, 2021] g_holds_any) (h4 : Cal P w K mg base (KD T) 1 "_law_same" ["_law_heard_here", "_law_due"] [2] sameF) (y0 : HrdD P w K mg base (KD T) "_law_heard" "_law_call" g__law_heard) (tab : ∀ (oc : Value) (od : Option Addr) (kV doc pm : Value) (an : Option Addr) (cdv ct : Value) (osl : Array (Option Value)), K.lookup f = some ⟨oc, od, .func (PySem.W.fnOf "_law_are_stretches_refused" "_law_are_stretches_refused" (defArgs (topS 73)) (defBody (topS 73)) (defScope (topS 73)) .none kV doc pm an cdv ct), osl⟩ → TabC base mg (KD T) "_law_are_stretches_refused" cdv) : Cal P w K mg base (KD T) 10 "_law_are_stretches_refused" [] [0] g__law_are_stretches_refused := by
  have NM : Nm P w K mg base (KD T) 7 nm__law_are_stretches_refused cf__law_are_stretches_refused := by
    refine ⟨fun x ps ns h ne1 ne2 ne3 => ?_, fun x a h => ?_, fun x ns h => ?_, fun c fs h => ?_⟩
    · unfold nm__law_are_stretches_refused at h
      split at h
      · rename_i e; subst e; cases h; exact Cal0.mono h0 (by decide)
      · skip
        split at h
        · rename_i e; subst e; cases h; exact Cal0.mono h1 (by decide)
        · skip
          split at h
          · rename_i e; subst e; cases h; exact Cal0.mono h2 (by decide)
          · skip
            split at h
            · rename_i e; subst e; cases h; exact Cal0.mono h3 (by decide)
            · skip
              split at h
              · rename_i e; subst e; cases h; exact Cal0.mono h4 (by decide)
              · skip
                split at h
                · rename_i e; subst e; cases h; exact absurd rfl ne1
                · skip
                  cases h
    · unfold nm__law_are_stretches_refused at h
      split at h
      · rename_i e; subst e; (exfalso; simp at h)
      · skip
        split at h
        · rename_i e; subst e; (exfalso; simp at h)
        · skip
          split at h
          · rename_i e; subst e; (exfalso; simp at h)
          · skip
            split at h
            · rename_i e; subst e; (exfalso; simp at h)
            · skip
              split at h
              · rename_i e; subst e; (exfalso; simp at h)
              · skip
                split at h
                · rename_i e; subst e; cases h; exact y0
                · skip
                  cases h
    · unfold nm__law_are_stretches_refused at h
      split at h
      · rename_i e; subst e; (exfalso; simp at h)
      · skip
        split at h
        · rename_i e; subst e; (exfalso; simp at h)
        · skip
          split at h
          · rename_i e; subst e; (exfalso; simp at h)
          · skip
            split at h
            · rename_i e; subst e; (exfalso; simp at h)
            · skip
              split at h
              · rename_i e; subst e; (exfalso; simp at h)
              · skip
                split at h
                · rename_i e; subst e; (exfalso; simp at h)
                · skip
                  cases h
    · unfold nm__law_are_stretches_refused at h
      split at h
      · rename_i e; subst e; (exfalso; simp at h)
      · skip
        split at h
        · rename_i e; subst e; (exfalso; simp at h)
        · skip
          split at h
          · rename_i e; subst e; (exfalso; simp at h)
          · skip
            split at h
            · rename_i e; subst e; (exfalso; simp at h)
            · skip
              split at h
              · rename_i e; subst e; (exfalso; simp at h)
              · skip
                split at h
                · rename_i e; subst e; (exfalso; simp at h)
                · skip
                  cases h
  refine cal_of (k := 9) (cf := cf__law_are_stretches_refused) F hm sc__law_are_stretches_refused blt (NM.mono (by decide)) (fun _ => ⟨tab, 7, by decide, NM⟩) ck__law_are_stretches_refused (fun kV doc pm an cdv ct n hn us ws h1 h2 => ?_) (fun _ _ _ _ _ _ _ _ _ _ _ h => absurd h (codeO_no (by decide)))
  · simp only [List.mem_cons, List.not_mem_nil, or_false] at hn
    subst hn
    exact (by have z : us.length + ws.length = 0 := h2; have h3 : ws.length = 0 := (by omega); exact match us, h1, ws, h3 with | [], _, [], _ => rfl)
theorem cal__law_are_others_refused {f : Addr} {fd : FuncData} (F : L2.Fun K "_law_are_others_refused" "_law_are_others_refused" (topS 74) f fd) (hm : mg "_law_are_others_refused" = some (.ref f)) (blt : ∀ x, x ∈ bNames → mg x = none) (h0 : Cal P w K mg base (KD T) 4 "next_ones" ["pattern", "place"] [2, 2021] g_next_ones) (h1 : Cal P w K mg base (KD T) 5 "ones_before" ["pattern", "place"] [2, 2021] g_ones_before) (h2 : Cal P w K mg base (KD T) 4 "chain_of" ["pattern", "place"] [2, 2021] g_chain_of) (h3 : Cal P w K mg base (KD T) 1 "_law_same" ["_law_heard_here", "_law_due"] [2] sameF) (h4 : Cal P w K mg base (KD T) 7 "filled" ["book", "digits"] [2, 2021] g_filled) (y0 : HrdD P w K mg base (KD T) "_law_heard" "_law_call" g__law_heard) (tab : ∀ (oc : Value) (od : Option Addr) (kV doc pm : Value) (an : Option Addr) (cdv ct : Value) (osl : Array (Option Value)), K.lookup f = some ⟨oc, od, .func (PySem.W.fnOf "_law_are_others_refused" "_law_are_others_refused" (defArgs (topS 74)) (defBody (topS 74)) (defScope (topS 74)) .none kV doc pm an cdv ct), osl⟩ → TabC base mg (KD T) "_law_are_others_refused" cdv) : Cal P w K mg base (KD T) 10 "_law_are_others_refused" [] [0] g__law_are_others_refused := by
  have NM : Nm P w K mg base (KD T) 7 nm__law_are_others_refused cf__law_are_others_refused := by
    refine ⟨fun x ps ns h ne1 ne2 ne3 => ?_, fun x a h => ?_, fun x ns h => ?_, fun c fs h => ?_⟩
    · unfold nm__law_are_others_refused at h
      split at h
      · rename_i e; subst e; cases h; exact Cal0.mono h0 (by decide)
      · skip
        split at h
        · rename_i e; subst e; cases h; exact Cal0.mono h1 (by decide)
        · skip
          split at h
          · rename_i e; subst e; cases h; exact Cal0.mono h2 (by decide)
          · skip
            split at h
            · rename_i e; subst e; cases h; exact Cal0.mono h3 (by decide)
            · skip
              split at h
              · rename_i e; subst e; cases h; exact Cal0.mono h4 (by decide)
              · skip
                split at h
                · rename_i e; subst e; cases h; exact absurd rfl ne1
                · skip
                  cases h
    · unfold nm__law_are_others_refused at h
      split at h
      · rename_i e; subst e; (exfalso; simp at h)
      · skip
        split at h
        · rename_i e; subst e; (exfalso; simp at h)
        · skip
          split at h
          · rename_i e; subst e; (exfalso; simp at h)
          · skip
            split at h
            · rename_i e; subst e; (exfalso; simp at h)
            · skip
              split at h
              · rename_i e; subst e; (exfalso; simp at h)
              · skip
                split at h
                · rename_i e; subst e; cases h; exact y0
                · skip
                  cases h
    · unfold nm__law_are_others_refused at h
      split at h
      · rename_i e; subst e; (exfalso; simp at h)
      · skip
        split at h
        · rename_i e; subst e; (exfalso; simp at h)
        · skip
          split at h
          · rename_i e; subst e; (exfalso; simp at h)
          · skip
            split at h
            · rename_i e; subst e; (exfalso; simp at h)
            · skip
              split at h
              · rename_i e; subst e; (exfalso; simp at h)
              · skip
                split at h
                · rename_i e; subst e; (exfalso; simp at h)
                · skip
                  cases h
    · unfold nm__law_are_others_refused at h
      split at h
      · rename_i e; subst e; (exfalso; simp at h)
      · skip
        split at h
        · rename_i e; subst e; (exfalso; simp at h)
        · skip
          split at h
          · rename_i e; subst e; (exfalso; simp at h)
          · skip
            split at h
            · rename_i e; subst e; (exfalso; simp at h)
            · skip
              split at h
              · rename_i e; subst e; (exfalso; simp at h)
              · skip
                split at h
                · rename_i e; subst e; (exfalso; simp at h)
                · skip
                  cases h
  refine cal_of (k := 9) (cf := cf__law_are_others_refused) F hm sc__law_are_others_refused blt (NM.mono (by decide)) (fun _ => ⟨tab, 7, by decide, NM⟩) ck__law_are_others_refused (fun kV doc pm an cdv ct n hn us ws h1 h2 => ?_) (fun _ _ _ _ _ _ _ _ _ _ _ h => absurd h (codeO_no (by decide)))
  · simp only [List.mem_cons, List.not_mem_nil, or_false] at hn
    subst hn
    exact (by have z : us.length + ws.length = 0 := h2; have h3 : ws.length = 0 := (by omega); exact match us, h1, ws, h3 with | [], _, [], _ => rfl)
theorem hrd__law_heard {f : Addr} {fd : FuncData} (F : L2.Fun K "_law_heard" "_law_heard" (topS 68) f fd) (hm : mg "_law_heard" = some (.ref f)) (isn : mg "isinstance" = none) (xc : XcOk K mg hier "RingError" ["at", "ways", "within", "word"]) : HrdD P w K mg base (KD T) "_law_heard" "_law_call" g__law_heard :=
  hrd_of (ie := 2) F hm sc__law_heard rfl (by decide +kernel) (by decide +kernel) (by decide +kernel) isn xc ck__law_heard (fun kV doc pm an cdv ct us e => match us, e with | [a0], _ => rfl)
/-! ### the record, the law -/
theorem cal_feed {f : Addr} {fd : FuncData} (F : L2.Fun K "_law_feed" "_law_feed" (topS 65) f fd) (hm : mg "_law_feed" = some (.ref f)) (blt : ∀ x, x ∈ bNames → mg x = none) : Cal0 P w K mg base 1 "_law_feed" ["_law_script"] [1] (spFeed K .b 63) := by
  obtain ⟨oc, od, kV, doc, pm, an, cdv, ct, osl, rfl, lk, hcd⟩ := F.ex
  refine ⟨f, _, hm, F.kp, fnG_raw (kd := KD []) (N := ["_law_script"]) (nm := fun _ => none) (cf := fun _ _ _ => .no) lk hcd ⟨rfl, rfl, rfl, by decide +kernel, rfl, by decide +kernel, by decide +kernel⟩ blt ⟨fun _ _ _ h => (by cases h), fun _ _ h => (by cases h), fun _ _ h => (by cases h), fun _ _ h => (by cases h)⟩ (fun h => by rw [show hasH (fun _ => none) (defScope (topS 65)) = false by decide +kernel] at h; cases h) (fun vs H Q E ⟨a, ns, e, _⟩ => by rw [e]; rfl) fun A outer st H vs Q E C pass hsp => ?_, fun n hn us ws h1 h2 => ?_, fun _ _ _ _ _ h => absurd h (codeO_no (by decide))⟩
  · obtain ⟨a, ns, rfl, _⟩ := id hsp
    exact feed_run (nu := .b) (E := E) C.toCt (by decide +kernel) (by decide +kernel) rfl hsp
  · simp only [List.mem_cons, List.not_mem_nil, or_false] at hn
    subst hn
    exact (by have z : us.length + ws.length = 1 := h2; have h3 : ws.length = 0 := (by omega); exact match us, h1, ws, h3 with | [a0], _, [], _ => rfl)
def spLaw (K : PySem.W.Frag) (T : List (Addr × Str)) (n : Nat) : Sp := fun vs H Q _ => ∃ (a : Addr) (ns : List Int), vs = [.ref a] ∧ SqL K H a (ns.map V.int) ∧ ns.length ≤ n ∧ (∀ p ∈ T, H p.1 = some (.tbl #[])) ∧ ∀ H', Q (.bl true) H'
/-- the mathematics of the law -/
def Math : Prop := ∀ ns : List Int, ns.length ≤ 63 → ∃ F', evS cf_law I_law ((List.replicate N_law.length .no).set 1 (.im .fd)) (F0 .b 63 ns) = .rt (.bl true) F'
theorem ok_law (M : Math) {f : Addr} {fd : FuncData} (F : L2.Fun K "law" "law" (topS 75) f fd) (blt : ∀ x, x ∈ bNames → mg x = none) (feed : Cal0 P w K mg base 1 "_law_feed" ["_law_script"] [1] (spFeed K .b 63)) (h0 : Cal P w K mg base (KD T) 1 "_law_draw" ["_law_feed_here", "_law_many"] [2] g__law_draw) (h1 : Cal P w K mg base (KD T) 8 "_law_are_losses_told" [] [0] g__law_are_losses_told) (h2 : Cal P w K mg base (KD T) 6 "_law_are_menders_told" [] [0] g__law_are_menders_told) (h3 : Cal P w K mg base (KD T) 6 "_law_are_bursts_told" [] [0] g__law_are_bursts_told) (h4 : Cal P w K mg base (KD T) 10 "_law_are_others_refused" [] [0] g__law_are_others_refused) (h5 : Cal P w K mg base (KD T) 10 "_law_are_stretches_refused" [] [0] g__law_are_stretches_refused) (h6 : Cal P w K mg base (KD T) 10 "_law_are_torn" [] [0] g__law_are_torn) : FnG P w K mg base 11 f fd ["_law_script"] (spLaw K T 63) := by
  obtain ⟨oc, od, kV, doc, pm, an, cdv, ct, osl, rfl, lk, hcd⟩ := F.ex
  have NM : Nm P w K mg base (KD T) 10 nm_law cf_law := by
    refine ⟨fun x ps ns h ne1 ne2 ne3 => ?_, fun x a h => ?_, fun x ns h => ?_, fun c fs h => ?_⟩
    · unfold nm_law at h
      split at h
      · rename_i e; subst e; cases h; exact Cal0.mono h0 (by decide)
      · skip
        split at h
        · rename_i e; subst e; cases h; exact Cal0.mono h1 (by decide)
        · skip
          split at h
          · rename_i e; subst e; cases h; exact Cal0.mono h2 (by decide)
          · skip
            split at h
            · rename_i e; subst e; cases h; exact Cal0.mono h3 (by decide)
            · skip
              split at h
              · rename_i e; subst e; cases h; exact Cal0.mono h4 (by decide)
              · skip
                split at h
                · rename_i e; subst e; cases h; exact Cal0.mono h5 (by decide)
                · skip
                  split at h
                  · rename_i e; subst e; cases h; exact Cal0.mono h6 (by decide)
                  · skip
                    cases h
    · unfold nm_law at h
      split at h
      · rename_i e; subst e; (exfalso; simp at h)
      · skip
        split at h
        · rename_i e; subst e; (exfalso; simp at h)
        · skip
          split at h
          · rename_i e; subst e; (exfalso; simp at h)
          · skip
            split at h
            · rename_i e; subst e; (exfalso; simp at h)
            · skip
              split at h
              · rename_i e; subst e; (exfalso; simp at h)
              · skip
                split at h
                · rename_i e; subst e; (exfalso; simp at h)
                · skip
                  split at h
                  · rename_i e; subst e; (exfalso; simp at h)
                  · skip
                    cases h
    · unfold nm_law at h
      split at h
      · rename_i e; subst e; (exfalso; simp at h)
      · skip
        split at h
        · rename_i e; subst e; (exfalso; simp at h)
        · skip
          split at h
          · rename_i e; subst e; (exfalso; simp at h)
          · skip
            split at h
            · rename_i e; subst e; (exfalso; simp at h)
            · skip
              split at h
              · rename_i e; subst e; (exfalso; simp at h)
              · skip
                split at h
                · rename_i e; subst e; (exfalso; simp at h)
                · skip
                  split at h
                  · rename_i e; subst e; (exfalso; simp at h)
                  · skip
                    cases h
    · unfold nm_law at h
      split at h
      · rename_i e; subst e; (exfalso; simp at h)
      · skip
        split at h
        · rename_i e; subst e; (exfalso; simp at h)
        · skip
          split at h
          · rename_i e; subst e; (exfalso; simp at h)
          · skip
            split at h
            · rename_i e; subst e; (exfalso; simp at h)
            · skip
              split at h
              · rename_i e; subst e; (exfalso; simp at h)
              · skip
                split at h
                · rename_i e; subst e; (exfalso; simp at h)
                · skip
                  split at h
                  · rename_i e; subst e; (exfalso; simp at h)
                  · skip
                    cases h
  refine fnG_raw (k := 10) (kd := KD T) (nm := nm_law) (cf := cf_law) lk hcd sc_law blt (NM.mono (by decide)) (fun h => by rw [hh_law] at h; cases h) (fun vs H Q E ⟨a, ns, e, _⟩ => by rw [e]; rfl) fun A outer st H vs Q E C pass hsp => ?_
  obtain ⟨a, ns, rfl, seq, le, tabs, hq⟩ := hsp
  exact law_run C tabs (Cal0.mono feed (by decide)) (by decide +kernel) (by decide +kernel) (by decide +kernel) rfl rfl seq ck_law (M ns le) hq
end
end TX
end
section
set_option maxHeartbeats 4000000
namespace TX
open PySem PySem.Spec PyProof.Rows L2 TH
theorem xcok__law_heard {K : PySem.W.Frag} {mg : Str → Option Value} {C_Barred C_InvalidPaper C_Lost C_NotUsable C_PaperError C_RingError C_ShelfError C_Torn : Addr}
    (ca_Barred : mg "Barred" = some (.ref C_Barred)) (ci_Barred : PySem.W.isClsIn K C_Barred = true) (ct_Barred : PySem.W.typeIn K (.ref C_Barred) = some (.type "type"))
    (ca_InvalidPaper : mg "InvalidPaper" = some (.ref C_InvalidPaper)) (ci_InvalidPaper : PySem.W.isClsIn K C_InvalidPaper = true) (ct_InvalidPaper : PySem.W.typeIn K (.ref C_InvalidPaper) = some (.type "type"))
    (ca_Lost : mg "Lost" = some (.ref C_Lost)) (ci_Lost : PySem.W.isClsIn K C_Lost = true) (ct_Lost : PySem.W.typeIn K (.ref C_Lost) = some (.type "type"))
    (ca_NotUsable : mg "NotUsable" = some (.ref C_NotUsable)) (ci_NotUsable : PySem.W.isClsIn K C_NotUsable = true) (ct_NotUsable : PySem.W.typeIn K (.ref C_NotUsable) = some (.type "type"))
    (ca_PaperError : mg "PaperError" = some (.ref C_PaperError)) (ci_PaperError : PySem.W.isClsIn K C_PaperError = true) (ct_PaperError : PySem.W.typeIn K (.ref C_PaperError) = some (.type "type"))
    (ca_RingError : mg "RingError" = some (.ref C_RingError)) (ci_RingError : PySem.W.isClsIn K C_RingError = true) (ct_RingError : PySem.W.typeIn K (.ref C_RingError) = some (.type "type"))
    (ca_ShelfError : mg "ShelfError" = some (.ref C_ShelfError)) (ci_ShelfError : PySem.W.isClsIn K C_ShelfError = true) (ct_ShelfError : PySem.W.typeIn K (.ref C_ShelfError) = some (.type "type"))
    (ca_Torn : mg "Torn" = some (.ref C_Torn)) (ci_Torn : PySem.W.isClsIn K C_Torn = true) (ct_Torn : PySem.W.typeIn K (.ref C_Torn) = some (.type "type"))
    (cb_RingError : PySem.W.subIn K (.ref C_RingError) (.type "BaseException") = some true)
    (F_Lost : ClsF K C_Lost) (nf_Lost_at : PySem.W.findIn K (.ref C_Lost) "at" = some none) (nf_Lost_ways : PySem.W.findIn K (.ref C_Lost) "ways" = some none) (nf_Lost_within : PySem.W.findIn K (.ref C_Lost) "within" = some none) (nf_Lost_word : PySem.W.findIn K (.ref C_Lost) "word" = some none) (sb_Lost_Barred : PySem.W.subIn K (.ref C_Lost) (.ref C_Barred) = some false) (sb_Lost_InvalidPaper : PySem.W.subIn K (.ref C_Lost) (.ref C_InvalidPaper) = some false) (sb_Lost_Lost : PySem.W.subIn K (.ref C_Lost) (.ref C_Lost) = some true) (sb_Lost_NotUsable : PySem.W.subIn K (.ref C_Lost) (.ref C_NotUsable) = some false) (sb_Lost_PaperError : PySem.W.subIn K (.ref C_Lost) (.ref C_PaperError) = some false) (sb_Lost_RingError : PySem.W.subIn K (.ref C_Lost) (.ref C_RingError) = some true) (sb_Lost_ShelfError : PySem.W.subIn K (.ref C_Lost) (.ref C_ShelfError) = some true) (sb_Lost_Torn : PySem.W.subIn K (.ref C_Lost) (.ref C_Torn) = some false)
    (F_NotUsable : ClsF K C_NotUsable) (nf_NotUsable_at : PySem.W.findIn K (.ref C_NotUsable) "at" = some none) (nf_NotUsable_ways : PySem.W.findIn K (.ref C_NotUsable) "ways" = some none) (nf_NotUsable_within : PySem.W.findIn K (.ref C_NotUsable) "within" = some none) (nf_NotUsable_word : PySem.W.findIn K (.ref C_NotUsable) "word" = some none) (sb_NotUsable_Barred : PySem.W.subIn K (.ref C_NotUsable) (.ref C_Barred) = some false) (sb_NotUsable_InvalidPaper : PySem.W.subIn K (.ref C_NotUsable) (.ref C_InvalidPaper) = some false) (sb_NotUsable_Lost : PySem.W.subIn K (.ref C_NotUsable) (.ref C_Lost) = some false) (sb_NotUsable_NotUsable : PySem.W.subIn K (.ref C_NotUsable) (.ref C_NotUsable) = some true) (sb_NotUsable_PaperError : PySem.W.subIn K (.ref C_NotUsable) (.ref C_PaperError) = some false) (sb_NotUsable_RingError : PySem.W.subIn K (.ref C_NotUsable) (.ref C_RingError) = some true) (sb_NotUsable_ShelfError : PySem.W.subIn K (.ref C_NotUsable) (.ref C_ShelfError) = some true) (sb_NotUsable_Torn : PySem.W.subIn K (.ref C_NotUsable) (.ref C_Torn) = some false)
    (F_Torn : ClsF K C_Torn) (nf_Torn_at : PySem.W.findIn K (.ref C_Torn) "at" = some none) (nf_Torn_ways : PySem.W.findIn K (.ref C_Torn) "ways" = some none) (nf_Torn_within : PySem.W.findIn K (.ref C_Torn) "within" = some none) (nf_Torn_word : PySem.W.findIn K (.ref C_Torn) "word" = some none) (sb_Torn_Barred : PySem.W.subIn K (.ref C_Torn) (.ref C_Barred) = some false) (sb_Torn_InvalidPaper : PySem.W.subIn K (.ref C_Torn) (.ref C_InvalidPaper) = some false) (sb_Torn_Lost : PySem.W.subIn K (.ref C_Torn) (.ref C_Lost) = some false) (sb_Torn_NotUsable : PySem.W.subIn K (.ref C_Torn) (.ref C_NotUsable) = some false) (sb_Torn_PaperError : PySem.W.subIn K (.ref C_Torn) (.ref C_PaperError) = some false) (sb_Torn_RingError : PySem.W.subIn K (.ref C_Torn) (.ref C_RingError) = some true) (sb_Torn_ShelfError : PySem.W.subIn K (.ref C_Torn) (.ref C_ShelfError) = some true) (sb_Torn_Torn : PySem.W.subIn K (.ref C_Torn) (.ref C_Torn) = some true)
    (xn : PySem.W.specialIn K (.builtin "object.__class__") "__get__" = some (some (.builtin "getset_descriptor.__get__"))) (xt : PySem.W.takesIn K (.builtin "object.__class__") = some true)
    : XcOk K mg hier "RingError" ["at", "ways", "within", "word"] := by
  refine ⟨C_RingError, ca_RingError, fun c hc => ?_⟩
  unfold hier at hc
  split at hc
  · rename_i e; subst e
    refine ⟨C_Lost, ca_Lost, exm_ref' cb_RingError ci_RingError ct_RingError sb_Lost_RingError, ⟨F_Lost.ec xn xt, F_Lost.xf, fun x hx => ?_, fun d b hd => ?_⟩⟩
    · simp only [List.mem_cons, List.not_mem_nil, or_false] at hx
      rcases hx with rfl | rfl | rfl | rfl
      · exact nf_Lost_at
      · exact nf_Lost_ways
      · exact nf_Lost_within
      · exact nf_Lost_word
    · unfold hier at hd
      rw [if_pos rfl] at hd
      split at hd
      · rename_i e; subst e; cases hd; exact ⟨C_Barred, ca_Barred, kit_ref ci_Barred ct_Barred sb_Lost_Barred (fun z => by have t := sb_Lost_Barred; rw [← z] at t; rw [sb_Lost_Lost] at t; cases t)⟩
      · skip
        split at hd
        · rename_i e; subst e; cases hd; exact ⟨C_InvalidPaper, ca_InvalidPaper, kit_ref ci_InvalidPaper ct_InvalidPaper sb_Lost_InvalidPaper (fun z => by have t := sb_Lost_InvalidPaper; rw [← z] at t; rw [sb_Lost_Lost] at t; cases t)⟩
        · skip
          split at hd
          · rename_i e; subst e; cases hd; exact ⟨C_Lost, ca_Lost, kit_ref ci_Lost ct_Lost sb_Lost_Lost (fun _ => rfl)⟩
          · skip
            split at hd
            · rename_i e; subst e; cases hd; exact ⟨C_NotUsable, ca_NotUsable, kit_ref ci_NotUsable ct_NotUsable sb_Lost_NotUsable (fun z => by have t := sb_Lost_NotUsable; rw [← z] at t; rw [sb_Lost_Lost] at t; cases t)⟩
            · skip
              split at hd
              · rename_i e; subst e; cases hd; exact ⟨C_PaperError, ca_PaperError, kit_ref ci_PaperError ct_PaperError sb_Lost_PaperError (fun z => by have t := sb_Lost_PaperError; rw [← z] at t; rw [sb_Lost_Lost] at t; cases t)⟩
              · skip
                split at hd
                · rename_i e; subst e; cases hd; exact ⟨C_RingError, ca_RingError, kit_ref ci_RingError ct_RingError sb_Lost_RingError (fun _ => rfl)⟩
                · skip
                  split at hd
                  · rename_i e; subst e; cases hd; exact ⟨C_ShelfError, ca_ShelfError, kit_ref ci_ShelfError ct_ShelfError sb_Lost_ShelfError (fun _ => rfl)⟩
                  · skip
                    split at hd
                    · rename_i e; subst e; cases hd; exact ⟨C_Torn, ca_Torn, kit_ref ci_Torn ct_Torn sb_Lost_Torn (fun z => by have t := sb_Lost_Torn; rw [← z] at t; rw [sb_Lost_Lost] at t; cases t)⟩
                    · skip
                      cases hd
  · skip
    split at hc
    · rename_i e; subst e
      refine ⟨C_NotUsable, ca_NotUsable, exm_ref' cb_RingError ci_RingError ct_RingError sb_NotUsable_RingError, ⟨F_NotUsable.ec xn xt, F_NotUsable.xf, fun x hx => ?_, fun d b hd => ?_⟩⟩
      · simp only [List.mem_cons, List.not_mem_nil, or_false] at hx
        rcases hx with rfl | rfl | rfl | rfl
        · exact nf_NotUsable_at
        · exact nf_NotUsable_ways
        · exact nf_NotUsable_within
        · exact nf_NotUsable_word
      · unfold hier at hd
        rw [if_neg (by decide +kernel)] at hd
        rw [if_pos rfl] at hd
        split at hd
        · rename_i e; subst e; cases hd; exact ⟨C_Barred, ca_Barred, kit_ref ci_Barred ct_Barred sb_NotUsable_Barred (fun z => by have t := sb_NotUsable_Barred; rw [← z] at t; rw [sb_NotUsable_NotUsable] at t; cases t)⟩
        · skip
          split at hd
          · rename_i e; subst e; cases hd; exact ⟨C_InvalidPaper, ca_InvalidPaper, kit_ref ci_InvalidPaper ct_InvalidPaper sb_NotUsable_InvalidPaper (fun z => by have t := sb_NotUsable_InvalidPaper; rw [← z] at t; rw [sb_NotUsable_NotUsable] at t; cases t)⟩
          · skip
            split at hd
            · rename_i e; subst e; cases hd; exact ⟨C_Lost, ca_Lost, kit_ref ci_Lost ct_Lost sb_NotUsable_Lost (fun z => by have t := sb_NotUsable_Lost; rw [← z] at t; rw [sb_NotUsable_NotUsable] at t; cases t)⟩
            · skip
              split at hd
              · rename_i e; subst e; cases hd; exact ⟨C_NotUsable, ca_NotUsable, kit_ref ci_NotUsable ct_NotUsable sb_NotUsable_NotUsable (fun _ => rfl)⟩
              · skip
                split at hd
                · rename_i e; subst e; cases hd; exact ⟨C_PaperError, ca_PaperError, kit_ref ci_PaperError ct_PaperError sb_NotUsable_PaperError (fun z => by have t := sb_NotUsable_PaperError; rw [← z] at t; rw [sb_NotUsable_NotUsable] at t; cases t)⟩
                · skip
                  split at hd
                  · rename_i e; subst e; cases hd; exact ⟨C_RingError, ca_RingError, kit_ref ci_RingError ct_RingError sb_NotUsable_RingError (fun _ => rfl)⟩
                  · skip
                    split at hd
                    · rename_i e; subst e; cases hd; exact ⟨C_ShelfError, ca_ShelfError, kit_ref ci_ShelfError ct_ShelfError sb_NotUsable_ShelfError (fun _ => rfl)⟩
                    · skip
                      split at hd
                      · rename_i e; subst e; cases hd; exact ⟨C_Torn, ca_Torn, kit_ref ci_Torn ct_Torn sb_NotUsable_Torn (fun z => by have t := sb_NotUsable_Torn; rw [← z] at t; rw [sb_NotUsable_NotUsable] at t; cases t)⟩
                      · skip
                        cases hd
    · skip
      split at hc
      · rename_i e; subst e
        refine ⟨C_Torn, ca_Torn, exm_ref' cb_RingError ci_RingError ct_RingError sb_Torn_RingError, ⟨F_Torn.ec xn xt, F_Torn.xf, fun x hx => ?_, fun d b hd => ?_⟩⟩
        · simp only [List.mem_cons, List.not_mem_nil, or_false] at hx
          rcases hx with rfl | rfl | rfl | rfl
          · exact nf_Torn_at
          · exact nf_Torn_ways
          · exact nf_Torn_within
          · exact nf_Torn_word
        · unfold hier at hd
          rw [if_neg (by decide +kernel)] at hd
          rw [if_neg (by decide +kernel)] at hd
          rw [if_pos rfl] at hd
          split at hd
          · rename_i e; subst e; cases hd; exact ⟨C_Barred, ca_Barred, kit_ref ci_Barred ct_Barred sb_Torn_Barred (fun z => by have t := sb_Torn_Barred; rw [← z] at t; rw [sb_Torn_Torn] at t; cases t)⟩
          · skip
            split at hd
            · rename_i e; subst e; cases hd; exact ⟨C_InvalidPaper, ca_InvalidPaper, kit_ref ci_InvalidPaper ct_InvalidPaper sb_Torn_InvalidPaper (fun z => by have t := sb_Torn_InvalidPaper; rw [← z] at t; rw [sb_Torn_Torn] at t; cases t)⟩
            · skip
              split at hd
              · rename_i e; subst e; cases hd; exact ⟨C_Lost, ca_Lost, kit_ref ci_Lost ct_Lost sb_Torn_Lost (fun z => by have t := sb_Torn_Lost; rw [← z] at t; rw [sb_Torn_Torn] at t; cases t)⟩
              · skip
                split at hd
                · rename_i e; subst e; cases hd; exact ⟨C_NotUsable, ca_NotUsable, kit_ref ci_NotUsable ct_NotUsable sb_Torn_NotUsable (fun z => by have t := sb_Torn_NotUsable; rw [← z] at t; rw [sb_Torn_Torn] at t; cases t)⟩
                · skip
                  split at hd
                  · rename_i e; subst e; cases hd; exact ⟨C_PaperError, ca_PaperError, kit_ref ci_PaperError ct_PaperError sb_Torn_PaperError (fun z => by have t := sb_Torn_PaperError; rw [← z] at t; rw [sb_Torn_Torn] at t; cases t)⟩
                  · skip
                    split at hd
                    · rename_i e; subst e; cases hd; exact ⟨C_RingError, ca_RingError, kit_ref ci_RingError ct_RingError sb_Torn_RingError (fun _ => rfl)⟩
                    · skip
                      split at hd
                      · rename_i e; subst e; cases hd; exact ⟨C_ShelfError, ca_ShelfError, kit_ref ci_ShelfError ct_ShelfError sb_Torn_ShelfError (fun _ => rfl)⟩
                      · skip
                        split at hd
                        · rename_i e; subst e; cases hd; exact ⟨C_Torn, ca_Torn, kit_ref ci_Torn ct_Torn sb_Torn_Torn (fun _ => rfl)⟩
                        · skip
                          cases hd
      · skip
        cases hc
theorem all_mk (M : Math) {l : PySem.W.OpenLaw} {w : World} {K : PySem.W.Frag} {h : Heap} {mg : Str → Option Value} {fa : Addr} {ts : List Addr} (X : K.In h) (G : h.Ns mainGlobals mg) (hfa : mg "law" = some (.ref fa))
    {f0 : Addr} {od0 an0 : Option Addr} {sl0 : Array (Option Value)} {oc0 kV0 dc0 pm0 ct0 : Value} {cd0 : Value}
    (a0 : PySem.W.nsIn K mainGlobals "demand" = some (some (.ref f0))) (l0 : K.lookup f0 = some ⟨oc0, od0, .func (PySem.W.fnOf "demand" "demand" (defArgs (topS 10)) (defBody (topS 10)) (defScope (topS 10)) .none kV0 dc0 pm0 an0 cd0 ct0), sl0⟩) (c0 : PySem.W.codeIn K cd0 "demand" = true) (k0 : PySem.W.keepIn K (.ref f0) = true)
    {f1 : Addr} {od1 an1 : Option Addr} {sl1 : Array (Option Value)} {oc1 kV1 dc1 pm1 ct1 : Value} {cd1 : Value}
    (a1 : PySem.W.nsIn K mainGlobals "lead_of" = some (some (.ref f1))) (l1 : K.lookup f1 = some ⟨oc1, od1, .func (PySem.W.fnOf "lead_of" "lead_of" (defArgs (topS 12)) (defBody (topS 12)) (defScope (topS 12)) .none kV1 dc1 pm1 an1 cd1 ct1), sl1⟩) (c1 : PySem.W.codeIn K cd1 "lead_of" = true) (k1 : PySem.W.keepIn K (.ref f1) = true)
    {f2 : Addr} {od2 an2 : Option Addr} {sl2 : Array (Option Value)} {oc2 kV2 dc2 pm2 ct2 : Value} {cd2 : Value}
    (a2 : PySem.W.nsIn K mainGlobals "inverse_of" = some (some (.ref f2))) (l2 : K.lookup f2 = some ⟨oc2, od2, .func (PySem.W.fnOf "inverse_of" "inverse_of" (defArgs (topS 13)) (defBody (topS 13)) (defScope (topS 13)) .none kV2 dc2 pm2 an2 cd2 ct2), sl2⟩) (c2 : PySem.W.codeIn K cd2 "inverse_of" = true) (k2 : PySem.W.keepIn K (.ref f2) = true)
    {f3 : Addr} {od3 an3 : Option Addr} {sl3 : Array (Option Value)} {oc3 kV3 dc3 pm3 ct3 : Value} {cd3 : Value}
    (a3 : PySem.W.nsIn K mainGlobals "times" = some (some (.ref f3))) (l3 : K.lookup f3 = some ⟨oc3, od3, .func (PySem.W.fnOf "times" "times" (defArgs (topS 14)) (defBody (topS 14)) (defScope (topS 14)) .none kV3 dc3 pm3 an3 cd3 ct3), sl3⟩) (c3 : PySem.W.codeIn K cd3 "times" = true) (k3 : PySem.W.keepIn K (.ref f3) = true)
    {f4 : Addr} {od4 an4 : Option Addr} {sl4 : Array (Option Value)} {oc4 kV4 dc4 pm4 ct4 : Value} {cd4 : Value}
    (a4 : PySem.W.nsIn K mainGlobals "taken_off" = some (some (.ref f4))) (l4 : K.lookup f4 = some ⟨oc4, od4, .func (PySem.W.fnOf "taken_off" "taken_off" (defArgs (topS 15)) (defBody (topS 15)) (defScope (topS 15)) .none kV4 dc4 pm4 an4 cd4 ct4), sl4⟩) (c4 : PySem.W.codeIn K cd4 "taken_off" = true) (k4 : PySem.W.keepIn K (.ref f4) = true)
    {f5 : Addr} {od5 an5 : Option Addr} {sl5 : Array (Option Value)} {oc5 kV5 dc5 pm5 ct5 : Value} {cd5 : Value}
    (a5 : PySem.W.nsIn K mainGlobals "rest_of" = some (some (.ref f5))) (l5 : K.lookup f5 = some ⟨oc5, od5, .func (PySem.W.fnOf "rest_of" "rest_of" (defArgs (topS 16)) (defBody (topS 16)) (defScope (topS 16)) .none kV5 dc5 pm5 an5 cd5 ct5), sl5⟩) (c5 : PySem.W.codeIn K cd5 "rest_of" = true) (k5 : PySem.W.keepIn K (.ref f5) = true)
    {f6 : Addr} {od6 an6 : Option Addr} {sl6 : Array (Option Value)} {oc6 kV6 dc6 pm6 ct6 : Value} {cd6 : Value}
    (a6 : PySem.W.nsIn K mainGlobals "rows_with" = some (some (.ref f6))) (l6 : K.lookup f6 = some ⟨oc6, od6, .func (PySem.W.fnOf "rows_with" "rows_with" (defArgs (topS 17)) (defBody (topS 17)) (defScope (topS 17)) .none kV6 dc6 pm6 an6 cd6 ct6), sl6⟩) (c6 : PySem.W.codeIn K cd6 "rows_with" = true) (k6 : PySem.W.keepIn K (.ref f6) = true)
    {f7 : Addr} {od7 an7 : Option Addr} {sl7 : Array (Option Value)} {oc7 kV7 dc7 pm7 ct7 : Value} {cd7 : Value}
    (a7 : PySem.W.nsIn K mainGlobals "settled_rows" = some (some (.ref f7))) (l7 : K.lookup f7 = some ⟨oc7, od7, .func (PySem.W.fnOf "settled_rows" "settled_rows" (defArgs (topS 18)) (defBody (topS 18)) (defScope (topS 18)) .none kV7 dc7 pm7 an7 cd7 ct7), sl7⟩) (c7 : PySem.W.codeIn K cd7 "settled_rows" = true) (k7 : PySem.W.keepIn K (.ref f7) = true)
    {f8 : Addr} {od8 an8 : Option Addr} {sl8 : Array (Option Value)} {oc8 kV8 dc8 pm8 ct8 : Value} {cd8 : Value}
    (a8 : PySem.W.nsIn K mainGlobals "solution_of" = some (some (.ref f8))) (l8 : K.lookup f8 = some ⟨oc8, od8, .func (PySem.W.fnOf "solution_of" "solution_of" (defArgs (topS 19)) (defBody (topS 19)) (defScope (topS 19)) .none kV8 dc8 pm8 an8 cd8 ct8), sl8⟩) (c8 : PySem.W.codeIn K cd8 "solution_of" = true) (k8 : PySem.W.keepIn K (.ref f8) = true)
    {f9 : Addr} {od9 an9 : Option Addr} {sl9 : Array (Option Value)} {oc9 kV9 dc9 pm9 ct9 : Value} {cd9 : Value}
    (a9 : PySem.W.nsIn K mainGlobals "is_integer" = some (some (.ref f9))) (l9 : K.lookup f9 = some ⟨oc9, od9, .func (PySem.W.fnOf "is_integer" "is_integer" (defArgs (topS 22)) (defBody (topS 22)) (defScope (topS 22)) .none kV9 dc9 pm9 an9 cd9 ct9), sl9⟩) (c9 : PySem.W.codeIn K cd9 "is_integer" = true) (k9 : PySem.W.keepIn K (.ref f9) = true)
    {f10 : Addr} {od10 an10 : Option Addr} {sl10 : Array (Option Value)} {oc10 kV10 dc10 pm10 ct10 : Value} {cd10 : Value}
    (a10 : PySem.W.nsIn K mainGlobals "is_number" = some (some (.ref f10))) (l10 : K.lookup f10 = some ⟨oc10, od10, .func (PySem.W.fnOf "is_number" "is_number" (defArgs (topS 23)) (defBody (topS 23)) (defScope (topS 23)) .none kV10 dc10 pm10 an10 cd10 ct10), sl10⟩) (c10 : PySem.W.codeIn K cd10 "is_number" = true) (k10 : PySem.W.keepIn K (.ref f10) = true)
    {f11 : Addr} {od11 an11 : Option Addr} {sl11 : Array (Option Value)} {oc11 kV11 dc11 pm11 ct11 : Value} {cd11 : Value}
    (a11 : PySem.W.nsIn K mainGlobals "is_prime" = some (some (.ref f11))) (l11 : K.lookup f11 = some ⟨oc11, od11, .func (PySem.W.fnOf "is_prime" "is_prime" (defArgs (topS 24)) (defBody (topS 24)) (defScope (topS 24)) .none kV11 dc11 pm11 an11 cd11 ct11), sl11⟩) (c11 : PySem.W.codeIn K cd11 "is_prime" = true) (k11 : PySem.W.keepIn K (.ref f11) = true)
    {f12 : Addr} {od12 an12 : Option Addr} {sl12 : Array (Option Value)} {oc12 kV12 dc12 pm12 ct12 : Value} {cd12 : Value}
    (a12 : PySem.W.nsIn K mainGlobals "is_size" = some (some (.ref f12))) (l12 : K.lookup f12 = some ⟨oc12, od12, .func (PySem.W.fnOf "is_size" "is_size" (defArgs (topS 25)) (defBody (topS 25)) (defScope (topS 25)) .none kV12 dc12 pm12 an12 cd12 ct12), sl12⟩) (c12 : PySem.W.codeIn K cd12 "is_size" = true) (k12 : PySem.W.keepIn K (.ref f12) = true)
    {f13 : Addr} {od13 an13 : Option Addr} {sl13 : Array (Option Value)} {oc13 kV13 dc13 pm13 ct13 : Value} {cd13 : Value}
    (a13 : PySem.W.nsIn K mainGlobals "is_place" = some (some (.ref f13))) (l13 : K.lookup f13 = some ⟨oc13, od13, .func (PySem.W.fnOf "is_place" "is_place" (defArgs (topS 26)) (defBody (topS 26)) (defScope (topS 26)) .none kV13 dc13 pm13 an13 cd13 ct13), sl13⟩) (c13 : PySem.W.codeIn K cd13 "is_place" = true) (k13 : PySem.W.keepIn K (.ref f13) = true)
    {f14 : Addr} {od14 an14 : Option Addr} {sl14 : Array (Option Value)} {oc14 kV14 dc14 pm14 ct14 : Value} {cd14 : Value}
    (a14 : PySem.W.nsIn K mainGlobals "is_digit" = some (some (.ref f14))) (l14 : K.lookup f14 = some ⟨oc14, od14, .func (PySem.W.fnOf "is_digit" "is_digit" (defArgs (topS 27)) (defBody (topS 27)) (defScope (topS 27)) .none kV14 dc14 pm14 an14 cd14 ct14), sl14⟩) (c14 : PySem.W.codeIn K cd14 "is_digit" = true) (k14 : PySem.W.keepIn K (.ref f14) = true)
    {f15 : Addr} {od15 an15 : Option Addr} {sl15 : Array (Option Value)} {oc15 kV15 dc15 pm15 ct15 : Value} {cd15 : Value}
    (a15 : PySem.W.nsIn K mainGlobals "is_stretch" = some (some (.ref f15))) (l15 : K.lookup f15 = some ⟨oc15, od15, .func (PySem.W.fnOf "is_stretch" "is_stretch" (defArgs (topS 28)) (defBody (topS 28)) (defScope (topS 28)) .none kV15 dc15 pm15 an15 cd15 ct15), sl15⟩) (c15 : PySem.W.codeIn K cd15 "is_stretch" = true) (k15 : PySem.W.keepIn K (.ref f15) = true)
    {f16 : Addr} {od16 an16 : Option Addr} {sl16 : Array (Option Value)} {oc16 kV16 dc16 pm16 ct16 : Value} {cd16 : Value}
    (a16 : PySem.W.nsIn K mainGlobals "balls_of" = some (some (.ref f16))) (l16 : K.lookup f16 = some ⟨oc16, od16, .func (PySem.W.fnOf "balls_of" "balls_of" (defArgs (topS 30)) (defBody (topS 30)) (defScope (topS 30)) .none kV16 dc16 pm16 an16 cd16 ct16), sl16⟩) (c16 : PySem.W.codeIn K cd16 "balls_of" = true) (k16 : PySem.W.keepIn K (.ref f16) = true)
    {f17 : Addr} {od17 an17 : Option Addr} {sl17 : Array (Option Value)} {oc17 kV17 dc17 pm17 ct17 : Value} {cd17 : Value}
    (a17 : PySem.W.nsIn K mainGlobals "landing_of" = some (some (.ref f17))) (l17 : K.lookup f17 = some ⟨oc17, od17, .func (PySem.W.fnOf "landing_of" "landing_of" (defArgs (topS 31)) (defBody (topS 31)) (defScope (topS 31)) .none kV17 dc17 pm17 an17 cd17 ct17), sl17⟩) (c17 : PySem.W.codeIn K cd17 "landing_of" = true) (k17 : PySem.W.keepIn K (.ref f17) = true)
    {f18 : Addr} {od18 an18 : Option Addr} {sl18 : Array (Option Value)} {oc18 kV18 dc18 pm18 ct18 : Value} {cd18 : Value}
    (a18 : PySem.W.nsIn K mainGlobals "target_of" = some (some (.ref f18))) (l18 : K.lookup f18 = some ⟨oc18, od18, .func (PySem.W.fnOf "target_of" "target_of" (defArgs (topS 32)) (defBody (topS 32)) (defScope (topS 32)) .none kV18 dc18 pm18 an18 cd18 ct18), sl18⟩) (c18 : PySem.W.codeIn K cd18 "target_of" = true) (k18 : PySem.W.keepIn K (.ref f18) = true)
    {f19 : Addr} {od19 an19 : Option Addr} {sl19 : Array (Option Value)} {oc19 kV19 dc19 pm19 ct19 : Value} {cd19 : Value}
    (a19 : PySem.W.nsIn K mainGlobals "thrown_from" = some (some (.ref f19))) (l19 : K.lookup f19 = some ⟨oc19, od19, .func (PySem.W.fnOf "thrown_from" "thrown_from" (defArgs (topS 33)) (defBody (topS 33)) (defScope (topS 33)) .none kV19 dc19 pm19 an19 cd19 ct19), sl19⟩) (c19 : PySem.W.codeIn K cd19 "thrown_from" = true) (k19 : PySem.W.keepIn K (.ref f19) = true)
    {f20 : Addr} {od20 an20 : Option Addr} {sl20 : Array (Option Value)} {oc20 kV20 dc20 pm20 ct20 : Value} {cd20 : Value}
    (a20 : PySem.W.nsIn K mainGlobals "round_from" = some (some (.ref f20))) (l20 : K.lookup f20 = some ⟨oc20, od20, .func (PySem.W.fnOf "round_from" "round_from" (defArgs (topS 34)) (defBody (topS 34)) (defScope (topS 34)) .none kV20 dc20 pm20 an20 cd20 ct20), sl20⟩) (c20 : PySem.W.codeIn K cd20 "round_from" = true) (k20 : PySem.W.keepIn K (.ref f20) = true)
    {f21 : Addr} {od21 an21 : Option Addr} {sl21 : Array (Option Value)} {oc21 kV21 dc21 pm21 ct21 : Value} {cd21 : Value}
    (a21 : PySem.W.nsIn K mainGlobals "places_from" = some (some (.ref f21))) (l21 : K.lookup f21 = some ⟨oc21, od21, .func (PySem.W.fnOf "places_from" "places_from" (defArgs (topS 36)) (defBody (topS 36)) (defScope (topS 36)) .none kV21 dc21 pm21 an21 cd21 ct21), sl21⟩) (c21 : PySem.W.codeIn K cd21 "places_from" = true) (k21 : PySem.W.keepIn K (.ref f21) = true)
    {f22 : Addr} {od22 an22 : Option Addr} {sl22 : Array (Option Value)} {oc22 kV22 dc22 pm22 ct22 : Value} {cd22 : Value}
    (a22 : PySem.W.nsIn K mainGlobals "next_ones" = some (some (.ref f22))) (l22 : K.lookup f22 = some ⟨oc22, od22, .func (PySem.W.fnOf "next_ones" "next_ones" (defArgs (topS 38)) (defBody (topS 38)) (defScope (topS 38)) .none kV22 dc22 pm22 an22 cd22 ct22), sl22⟩) (c22 : PySem.W.codeIn K cd22 "next_ones" = true) (k22 : PySem.W.keepIn K (.ref f22) = true)
    {f23 : Addr} {od23 an23 : Option Addr} {sl23 : Array (Option Value)} {oc23 kV23 dc23 pm23 ct23 : Value} {cd23 : Value}
    (a23 : PySem.W.nsIn K mainGlobals "ones_before" = some (some (.ref f23))) (l23 : K.lookup f23 = some ⟨oc23, od23, .func (PySem.W.fnOf "ones_before" "ones_before" (defArgs (topS 39)) (defBody (topS 39)) (defScope (topS 39)) .none kV23 dc23 pm23 an23 cd23 ct23), sl23⟩) (c23 : PySem.W.codeIn K cd23 "ones_before" = true) (k23 : PySem.W.keepIn K (.ref f23) = true)
    {f24 : Addr} {od24 an24 : Option Addr} {sl24 : Array (Option Value)} {oc24 kV24 dc24 pm24 ct24 : Value} {cd24 : Value}
    (a24 : PySem.W.nsIn K mainGlobals "chain_of" = some (some (.ref f24))) (l24 : K.lookup f24 = some ⟨oc24, od24, .func (PySem.W.fnOf "chain_of" "chain_of" (defArgs (topS 40)) (defBody (topS 40)) (defScope (topS 40)) .none kV24 dc24 pm24 an24 cd24 ct24), sl24⟩) (c24 : PySem.W.codeIn K cd24 "chain_of" = true) (k24 : PySem.W.keepIn K (.ref f24) = true)
    {f25 : Addr} {od25 an25 : Option Addr} {sl25 : Array (Option Value)} {oc25 kV25 dc25 pm25 ct25 : Value} {cd25 : Value}
    (a25 : PySem.W.nsIn K mainGlobals "column_at" = some (some (.ref f25))) (l25 : K.lookup f25 = some ⟨oc25, od25, .func (PySem.W.fnOf "column_at" "column_at" (defArgs (topS 42)) (defBody (topS 42)) (defScope (topS 42)) .none kV25 dc25 pm25 an25 cd25 ct25), sl25⟩) (c25 : PySem.W.codeIn K cd25 "column_at" = true) (k25 : PySem.W.keepIn K (.ref f25) = true)
    {f26 : Addr} {od26 an26 : Option Addr} {sl26 : Array (Option Value)} {oc26 kV26 dc26 pm26 ct26 : Value} {cd26 : Value}
    (a26 : PySem.W.nsIn K mainGlobals "settled_columns" = some (some (.ref f26))) (l26 : K.lookup f26 = some ⟨oc26, od26, .func (PySem.W.fnOf "settled_columns" "settled_columns" (defArgs (topS 43)) (defBody (topS 43)) (defScope (topS 43)) .none kV26 dc26 pm26 an26 cd26 ct26), sl26⟩) (c26 : PySem.W.codeIn K cd26 "settled_columns" = true) (k26 : PySem.W.keepIn K (.ref f26) = true)
    {f27 : Addr} {od27 an27 : Option Addr} {sl27 : Array (Option Value)} {oc27 kV27 dc27 pm27 ct27 : Value} {cd27 : Value}
    (a27 : PySem.W.nsIn K mainGlobals "rank_in" = some (some (.ref f27))) (l27 : K.lookup f27 = some ⟨oc27, od27, .func (PySem.W.fnOf "rank_in" "rank_in" (defArgs (topS 45)) (defBody (topS 45)) (defScope (topS 45)) .none kV27 dc27 pm27 an27 cd27 ct27), sl27⟩) (c27 : PySem.W.codeIn K cd27 "rank_in" = true) (k27 : PySem.W.keepIn K (.ref f27) = true)
    {f28 : Addr} {od28 an28 : Option Addr} {sl28 : Array (Option Value)} {oc28 kV28 dc28 pm28 ct28 : Value} {cd28 : Value}
    (a28 : PySem.W.nsIn K mainGlobals "rank_beside" = some (some (.ref f28))) (l28 : K.lookup f28 = some ⟨oc28, od28, .func (PySem.W.fnOf "rank_beside" "rank_beside" (defArgs (topS 47)) (defBody (topS 47)) (defScope (topS 47)) .none kV28 dc28 pm28 an28 cd28 ct28), sl28⟩) (c28 : PySem.W.codeIn K cd28 "rank_beside" = true) (k28 : PySem.W.keepIn K (.ref f28) = true)
    {f29 : Addr} {od29 an29 : Option Addr} {sl29 : Array (Option Value)} {oc29 kV29 dc29 pm29 ct29 : Value} {cd29 : Value}
    (a29 : PySem.W.nsIn K mainGlobals "open_rank" = some (some (.ref f29))) (l29 : K.lookup f29 = some ⟨oc29, od29, .func (PySem.W.fnOf "open_rank" "open_rank" (defArgs (topS 48)) (defBody (topS 48)) (defScope (topS 48)) .none kV29 dc29 pm29 an29 cd29 ct29), sl29⟩) (c29 : PySem.W.codeIn K cd29 "open_rank" = true) (k29 : PySem.W.keepIn K (.ref f29) = true)
    {f30 : Addr} {od30 an30 : Option Addr} {sl30 : Array (Option Value)} {oc30 kV30 dc30 pm30 ct30 : Value} {cd30 : Value}
    (a30 : PySem.W.nsIn K mainGlobals "mends_burst" = some (some (.ref f30))) (l30 : K.lookup f30 = some ⟨oc30, od30, .func (PySem.W.fnOf "mends_burst" "mends_burst" (defArgs (topS 49)) (defBody (topS 49)) (defScope (topS 49)) .none kV30 dc30 pm30 an30 cd30 ct30), sl30⟩) (c30 : PySem.W.codeIn K cd30 "mends_burst" = true) (k30 : PySem.W.keepIn K (.ref f30) = true)
    {f31 : Addr} {od31 an31 : Option Addr} {sl31 : Array (Option Value)} {oc31 kV31 dc31 pm31 ct31 : Value} {cd31 : Value}
    (a31 : PySem.W.nsIn K mainGlobals "most_burst" = some (some (.ref f31))) (l31 : K.lookup f31 = some ⟨oc31, od31, .func (PySem.W.fnOf "most_burst" "most_burst" (defArgs (topS 50)) (defBody (topS 50)) (defScope (topS 50)) .none kV31 dc31 pm31 an31 cd31 ct31), sl31⟩) (c31 : PySem.W.codeIn K cd31 "most_burst" = true) (k31 : PySem.W.keepIn K (.ref f31) = true)
    {f32 : Addr} {od32 an32 : Option Addr} {sl32 : Array (Option Value)} {oc32 kV32 dc32 pm32 ct32 : Value} {cd32 : Value}
    (a32 : PySem.W.nsIn K mainGlobals "most_window" = some (some (.ref f32))) (l32 : K.lookup f32 = some ⟨oc32, od32, .func (PySem.W.fnOf "most_window" "most_window" (defArgs (topS 51)) (defBody (topS 51)) (defScope (topS 51)) .none kV32 dc32 pm32 an32 cd32 ct32), sl32⟩) (c32 : PySem.W.codeIn K cd32 "most_window" = true) (k32 : PySem.W.keepIn K (.ref f32) = true)
    {f33 : Addr} {od33 an33 : Option Addr} {sl33 : Array (Option Value)} {oc33 kV33 dc33 pm33 ct33 : Value} {cd33 : Value}
    (a33 : PySem.W.nsIn K mainGlobals "sum_of_rows" = some (some (.ref f33))) (l33 : K.lookup f33 = some ⟨oc33, od33, .func (PySem.W.fnOf "sum_of_rows" "sum_of_rows" (defArgs (topS 53)) (defBody (topS 53)) (defScope (topS 53)) .none kV33 dc33 pm33 an33 cd33 ct33), sl33⟩) (c33 : PySem.W.codeIn K cd33 "sum_of_rows" = true) (k33 : PySem.W.keepIn K (.ref f33) = true)
    {f34 : Addr} {od34 an34 : Option Addr} {sl34 : Array (Option Value)} {oc34 kV34 dc34 pm34 ct34 : Value} {cd34 : Value}
    (a34 : PySem.W.nsIn K mainGlobals "check_at" = some (some (.ref f34))) (l34 : K.lookup f34 = some ⟨oc34, od34, .func (PySem.W.fnOf "check_at" "check_at" (defArgs (topS 56)) (defBody (topS 56)) (defScope (topS 56)) .none kV34 dc34 pm34 an34 cd34 ct34), sl34⟩) (c34 : PySem.W.codeIn K cd34 "check_at" = true) (k34 : PySem.W.keepIn K (.ref f34) = true)
    {f35 : Addr} {od35 an35 : Option Addr} {sl35 : Array (Option Value)} {oc35 kV35 dc35 pm35 ct35 : Value} {cd35 : Value}
    (a35 : PySem.W.nsIn K mainGlobals "checks_of" = some (some (.ref f35))) (l35 : K.lookup f35 = some ⟨oc35, od35, .func (PySem.W.fnOf "checks_of" "checks_of" (defArgs (topS 55)) (defBody (topS 55)) (defScope (topS 55)) .none kV35 dc35 pm35 an35 cd35 ct35), sl35⟩) (c35 : PySem.W.codeIn K cd35 "checks_of" = true) (k35 : PySem.W.keepIn K (.ref f35) = true)
    {f36 : Addr} {od36 an36 : Option Addr} {sl36 : Array (Option Value)} {oc36 kV36 dc36 pm36 ct36 : Value} {cd36 : Value}
    (a36 : PySem.W.nsIn K mainGlobals "are_told" = some (some (.ref f36))) (l36 : K.lookup f36 = some ⟨oc36, od36, .func (PySem.W.fnOf "are_told" "are_told" (defArgs (topS 58)) (defBody (topS 58)) (defScope (topS 58)) .none kV36 dc36 pm36 an36 cd36 ct36), sl36⟩) (c36 : PySem.W.codeIn K cd36 "are_told" = true) (k36 : PySem.W.keepIn K (.ref f36) = true)
    {f37 : Addr} {od37 an37 : Option Addr} {sl37 : Array (Option Value)} {oc37 kV37 dc37 pm37 ct37 : Value} {cd37 : Value}
    (a37 : PySem.W.nsIn K mainGlobals "tearing_ways" = some (some (.ref f37))) (l37 : K.lookup f37 = some ⟨oc37, od37, .func (PySem.W.fnOf "tearing_ways" "tearing_ways" (defArgs (topS 60)) (defBody (topS 60)) (defScope (topS 60)) .none kV37 dc37 pm37 an37 cd37 ct37), sl37⟩) (c37 : PySem.W.codeIn K cd37 "tearing_ways" = true) (k37 : PySem.W.keepIn K (.ref f37) = true)
    {f38 : Addr} {od38 an38 : Option Addr} {sl38 : Array (Option Value)} {oc38 kV38 dc38 pm38 ct38 : Value} {cd38 : Value}
    (a38 : PySem.W.nsIn K mainGlobals "words_within" = some (some (.ref f38))) (l38 : K.lookup f38 = some ⟨oc38, od38, .func (PySem.W.fnOf "words_within" "words_within" (defArgs (topS 61)) (defBody (topS 61)) (defScope (topS 61)) .none kV38 dc38 pm38 an38 cd38 ct38), sl38⟩) (c38 : PySem.W.codeIn K cd38 "words_within" = true) (k38 : PySem.W.keepIn K (.ref f38) = true)
    {f39 : Addr} {od39 an39 : Option Addr} {sl39 : Array (Option Value)} {oc39 kV39 dc39 pm39 ct39 : Value} {cd39 : Value}
    (a39 : PySem.W.nsIn K mainGlobals "filled" = some (some (.ref f39))) (l39 : K.lookup f39 = some ⟨oc39, od39, .func (PySem.W.fnOf "filled" "filled" (defArgs (topS 59)) (defBody (topS 59)) (defScope (topS 59)) .none kV39 dc39 pm39 an39 cd39 ct39), sl39⟩) (c39 : PySem.W.codeIn K cd39 "filled" = true) (k39 : PySem.W.keepIn K (.ref f39) = true)
    {f40 : Addr} {od40 an40 : Option Addr} {sl40 : Array (Option Value)} {oc40 kV40 dc40 pm40 ct40 : Value} {cd40 : Value}
    (a40 : PySem.W.nsIn K mainGlobals "open_words" = some (some (.ref f40))) (l40 : K.lookup f40 = some ⟨oc40, od40, .func (PySem.W.fnOf "open_words" "open_words" (defArgs (topS 62)) (defBody (topS 62)) (defScope (topS 62)) .none kV40 dc40 pm40 an40 cd40 ct40), sl40⟩) (c40 : PySem.W.codeIn K cd40 "open_words" = true) (k40 : PySem.W.keepIn K (.ref f40) = true)
    {f41 : Addr} {od41 an41 : Option Addr} {sl41 : Array (Option Value)} {oc41 kV41 dc41 pm41 ct41 : Value} {cd41 : Value}
    (a41 : PySem.W.nsIn K mainGlobals "holds_any" = some (some (.ref f41))) (l41 : K.lookup f41 = some ⟨oc41, od41, .func (PySem.W.fnOf "holds_any" "holds_any" (defArgs (topS 63)) (defBody (topS 63)) (defScope (topS 63)) .none kV41 dc41 pm41 an41 cd41 ct41), sl41⟩) (c41 : PySem.W.codeIn K cd41 "holds_any" = true) (k41 : PySem.W.keepIn K (.ref f41) = true)
    {f42 : Addr} {od42 an42 : Option Addr} {sl42 : Array (Option Value)} {oc42 kV42 dc42 pm42 ct42 : Value} {cd42 : Value}
    (a42 : PySem.W.nsIn K mainGlobals "_law_feed" = some (some (.ref f42))) (l42 : K.lookup f42 = some ⟨oc42, od42, .func (PySem.W.fnOf "_law_feed" "_law_feed" (defArgs (topS 65)) (defBody (topS 65)) (defScope (topS 65)) .none kV42 dc42 pm42 an42 cd42 ct42), sl42⟩) (c42 : PySem.W.codeIn K cd42 "_law_feed" = true) (k42 : PySem.W.keepIn K (.ref f42) = true)
    {f43 : Addr} {od43 an43 : Option Addr} {sl43 : Array (Option Value)} {oc43 kV43 dc43 pm43 ct43 : Value} {cd43 : Value}
    (a43 : PySem.W.nsIn K mainGlobals "_law_same" = some (some (.ref f43))) (l43 : K.lookup f43 = some ⟨oc43, od43, .func (PySem.W.fnOf "_law_same" "_law_same" (defArgs (topS 66)) (defBody (topS 66)) (defScope (topS 66)) .none kV43 dc43 pm43 an43 cd43 ct43), sl43⟩) (c43 : PySem.W.codeIn K cd43 "_law_same" = true) (k43 : PySem.W.keepIn K (.ref f43) = true)
    {f44 : Addr} {od44 an44 : Option Addr} {sl44 : Array (Option Value)} {oc44 kV44 dc44 pm44 ct44 : Value} {cd44 : Value}
    (a44 : PySem.W.nsIn K mainGlobals "_law_draw" = some (some (.ref f44))) (l44 : K.lookup f44 = some ⟨oc44, od44, .func (PySem.W.fnOf "_law_draw" "_law_draw" (defArgs (topS 67)) (defBody (topS 67)) (defScope (topS 67)) .none kV44 dc44 pm44 an44 cd44 ct44), sl44⟩) (c44 : PySem.W.codeIn K cd44 "_law_draw" = true) (k44 : PySem.W.keepIn K (.ref f44) = true)
    {f45 : Addr} {od45 an45 : Option Addr} {sl45 : Array (Option Value)} {oc45 kV45 dc45 pm45 ct45 : Value} {cd45 : Value}
    (a45 : PySem.W.nsIn K mainGlobals "_law_are_bursts_told" = some (some (.ref f45))) (l45 : K.lookup f45 = some ⟨oc45, od45, .func (PySem.W.fnOf "_law_are_bursts_told" "_law_are_bursts_told" (defArgs (topS 69)) (defBody (topS 69)) (defScope (topS 69)) .none kV45 dc45 pm45 an45 cd45 ct45), sl45⟩) (c45 : PySem.W.codeIn K cd45 "_law_are_bursts_told" = true) (k45 : PySem.W.keepIn K (.ref f45) = true)
    {f46 : Addr} {od46 an46 : Option Addr} {sl46 : Array (Option Value)} {oc46 kV46 dc46 pm46 ct46 : Value} {cd46 : Value}
    (a46 : PySem.W.nsIn K mainGlobals "_law_are_menders_told" = some (some (.ref f46))) (l46 : K.lookup f46 = some ⟨oc46, od46, .func (PySem.W.fnOf "_law_are_menders_told" "_law_are_menders_told" (defArgs (topS 70)) (defBody (topS 70)) (defScope (topS 70)) .none kV46 dc46 pm46 an46 cd46 ct46), sl46⟩) (c46 : PySem.W.codeIn K cd46 "_law_are_menders_told" = true) (k46 : PySem.W.keepIn K (.ref f46) = true)
    {f47 : Addr} {od47 an47 : Option Addr} {sl47 : Array (Option Value)} {oc47 kV47 dc47 pm47 ct47 : Value} {cd47 : Value}
    (a47 : PySem.W.nsIn K mainGlobals "_law_are_losses_told" = some (some (.ref f47))) (l47 : K.lookup f47 = some ⟨oc47, od47, .func (PySem.W.fnOf "_law_are_losses_told" "_law_are_losses_told" (defArgs (topS 71)) (defBody (topS 71)) (defScope (topS 71)) .none kV47 dc47 pm47 an47 cd47 ct47), sl47⟩) (c47 : PySem.W.codeIn K cd47 "_law_are_losses_told" = true) (k47 : PySem.W.keepIn K (.ref f47) = true)
    {f48 : Addr} {od48 an48 : Option Addr} {sl48 : Array (Option Value)} {oc48 kV48 dc48 pm48 ct48 : Value} {cc48 tt48 : Addr} {xc48 : Value} {xd48 : Option Addr} {vs48 : Array Value} {xs48 : Array (Option Value)}
    (a48 : PySem.W.nsIn K mainGlobals "_law_are_torn" = some (some (.ref f48))) (l48 : K.lookup f48 = some ⟨oc48, od48, .func (PySem.W.fnOf "_law_are_torn" "_law_are_torn" (defArgs (topS 72)) (defBody (topS 72)) (defScope (topS 72)) .none kV48 dc48 pm48 an48 (.ref cc48) ct48), sl48⟩) (c48 : PySem.W.codeIn K (.ref cc48) "_law_are_torn" = true) (k48 : PySem.W.keepIn K (.ref f48) = true)
    (q48 : K.lookup cc48 = some ⟨xc48, xd48, .fields vs48, xs48⟩) (v48 : vs48[11]? = some (.ref tt48)) (n48 : K.lookup tt48 = none) (m48 : PySem.W.codeHdIn K cc48 tt48 = true) (s48 : tt48 ∈ ts)
    {f49 : Addr} {od49 an49 : Option Addr} {sl49 : Array (Option Value)} {oc49 kV49 dc49 pm49 ct49 : Value} {cc49 tt49 : Addr} {xc49 : Value} {xd49 : Option Addr} {vs49 : Array Value} {xs49 : Array (Option Value)}
    (a49 : PySem.W.nsIn K mainGlobals "_law_are_stretches_refused" = some (some (.ref f49))) (l49 : K.lookup f49 = some ⟨oc49, od49, .func (PySem.W.fnOf "_law_are_stretches_refused" "_law_are_stretches_refused" (defArgs (topS 73)) (defBody (topS 73)) (defScope (topS 73)) .none kV49 dc49 pm49 an49 (.ref cc49) ct49), sl49⟩) (c49 : PySem.W.codeIn K (.ref cc49) "_law_are_stretches_refused" = true) (k49 : PySem.W.keepIn K (.ref f49) = true)
    (q49 : K.lookup cc49 = some ⟨xc49, xd49, .fields vs49, xs49⟩) (v49 : vs49[11]? = some (.ref tt49)) (n49 : K.lookup tt49 = none) (m49 : PySem.W.codeHdIn K cc49 tt49 = true) (s49 : tt49 ∈ ts)
    {f50 : Addr} {od50 an50 : Option Addr} {sl50 : Array (Option Value)} {oc50 kV50 dc50 pm50 ct50 : Value} {cc50 tt50 : Addr} {xc50 : Value} {xd50 : Option Addr} {vs50 : Array Value} {xs50 : Array (Option Value)}
    (a50 : PySem.W.nsIn K mainGlobals "_law_are_others_refused" = some (some (.ref f50))) (l50 : K.lookup f50 = some ⟨oc50, od50, .func (PySem.W.fnOf "_law_are_others_refused" "_law_are_others_refused" (defArgs (topS 74)) (defBody (topS 74)) (defScope (topS 74)) .none kV50 dc50 pm50 an50 (.ref cc50) ct50), sl50⟩) (c50 : PySem.W.codeIn K (.ref cc50) "_law_are_others_refused" = true) (k50 : PySem.W.keepIn K (.ref f50) = true)
    (q50 : K.lookup cc50 = some ⟨xc50, xd50, .fields vs50, xs50⟩) (v50 : vs50[11]? = some (.ref tt50)) (n50 : K.lookup tt50 = none) (m50 : PySem.W.codeHdIn K cc50 tt50 = true) (s50 : tt50 ∈ ts)
    {f51 : Addr} {od51 an51 : Option Addr} {sl51 : Array (Option Value)} {oc51 kV51 dc51 pm51 ct51 : Value} {cd51 : Value}
    (a51 : PySem.W.nsIn K mainGlobals "law" = some (some (.ref f51))) (l51 : K.lookup f51 = some ⟨oc51, od51, .func (PySem.W.fnOf "law" "law" (defArgs (topS 75)) (defBody (topS 75)) (defScope (topS 75)) .none kV51 dc51 pm51 an51 cd51 ct51), sl51⟩) (c51 : PySem.W.codeIn K cd51 "law" = true) (k51 : PySem.W.keepIn K (.ref f51) = true)
    {f52 : Addr} {od52 an52 : Option Addr} {sl52 : Array (Option Value)} {oc52 kV52 dc52 pm52 ct52 : Value} {cd52 : Value}
    (a52 : PySem.W.nsIn K mainGlobals "_law_heard" = some (some (.ref f52))) (l52 : K.lookup f52 = some ⟨oc52, od52, .func (PySem.W.fnOf "_law_heard" "_law_heard" (defArgs (topS 68)) (defBody (topS 68)) (defScope (topS 68)) .none kV52 dc52 pm52 an52 cd52 ct52), sl52⟩) (c52 : PySem.W.codeIn K cd52 "_law_heard" = true) (k52 : PySem.W.keepIn K (.ref f52) = true)
    (ne_48_49 : tt48 ≠ tt49)
    (ne_48_50 : tt48 ≠ tt50)
    (ne_49_50 : tt49 ≠ tt50)
    {C_Barred : Addr} (ca_Barred : PySem.W.nsIn K mainGlobals "Barred" = some (some (.ref C_Barred))) (ci_Barred : PySem.W.isClsIn K C_Barred = true) (ct_Barred : PySem.W.typeIn K (.ref C_Barred) = some (.type "type"))
    {C_InvalidPaper : Addr} (ca_InvalidPaper : PySem.W.nsIn K mainGlobals "InvalidPaper" = some (some (.ref C_InvalidPaper))) (ci_InvalidPaper : PySem.W.isClsIn K C_InvalidPaper = true) (ct_InvalidPaper : PySem.W.typeIn K (.ref C_InvalidPaper) = some (.type "type"))
    {C_Lost : Addr} (ca_Lost : PySem.W.nsIn K mainGlobals "Lost" = some (some (.ref C_Lost))) (ci_Lost : PySem.W.isClsIn K C_Lost = true) (ct_Lost : PySem.W.typeIn K (.ref C_Lost) = some (.type "type"))
    {C_NotUsable : Addr} (ca_NotUsable : PySem.W.nsIn K mainGlobals "NotUsable" = some (some (.ref C_NotUsable))) (ci_NotUsable : PySem.W.isClsIn K C_NotUsable = true) (ct_NotUsable : PySem.W.typeIn K (.ref C_NotUsable) = some (.type "type"))
    {C_PaperError : Addr} (ca_PaperError : PySem.W.nsIn K mainGlobals "PaperError" = some (some (.ref C_PaperError))) (ci_PaperError : PySem.W.isClsIn K C_PaperError = true) (ct_PaperError : PySem.W.typeIn K (.ref C_PaperError) = some (.type "type"))
    {C_RingError : Addr} (ca_RingError : PySem.W.nsIn K mainGlobals "RingError" = some (some (.ref C_RingError))) (ci_RingError : PySem.W.isClsIn K C_RingError = true) (ct_RingError : PySem.W.typeIn K (.ref C_RingError) = some (.type "type"))
    {C_ShelfError : Addr} (ca_ShelfError : PySem.W.nsIn K mainGlobals "ShelfError" = some (some (.ref C_ShelfError))) (ci_ShelfError : PySem.W.isClsIn K C_ShelfError = true) (ct_ShelfError : PySem.W.typeIn K (.ref C_ShelfError) = some (.type "type"))
    {C_Torn : Addr} (ca_Torn : PySem.W.nsIn K mainGlobals "Torn" = some (some (.ref C_Torn))) (ci_Torn : PySem.W.isClsIn K C_Torn = true) (ct_Torn : PySem.W.typeIn K (.ref C_Torn) = some (.type "type"))
    (cb_RingError : PySem.W.subIn K (.ref C_RingError) (.type "BaseException") = some true)
    {iN_Lost : Addr} {nm_Lost q_Lost : Str} {bs_Lost bm_Lost : List Value} {sn_Lost : List Str} {sub_Lost : List Value} {ab_Lost : Bool} {col_Lost : Option Bool} {dd_Lost : Option Addr} {k0_Lost k1_Lost k2_Lost k3_Lost k5_Lost : Option Value} {fI_Lost : Addr} {io_Lost ik_Lost id_Lost ip_Lost ic_Lost it_Lost : Value} {idd_Lost ia_Lost : Option Addr} {is_Lost : Array (Option Value)}
    (cl_Lost : K.lookup C_Lost = some (excClassObj nm_Lost q_Lost C_Lost iN_Lost bs_Lost bm_Lost true sn_Lost sub_Lost ab_Lost col_Lost dd_Lost k0_Lost k1_Lost k2_Lost k3_Lost k5_Lost "ValueError.__new__")) (cr_Lost : PySem.HandSPX.refsVE bm_Lost = true)
    (csa_Lost : PySem.W.findIn K (.ref C_Lost) "__setattr__" = some (some (.builtin "object.__setattr__")))
    (chg_Lost : PySem.W.findIn K (.ref C_Lost) "__getattribute__" = some (some (.builtin "BaseException.__getattribute__")))
    (chk_Lost : PySem.W.findIn K (.ref C_Lost) "__getattr__" = some none)
    (chs_Lost : PySem.W.subIn K (.ref C_Lost) (.type "BaseException") = some true)
    (chd_Lost : PySem.W.hasDictIn K C_Lost = true)
    (cha_Lost : PySem.W.findIn K (.ref C_Lost) "__class__" = some (some (.builtin "object.__class__")))
    (chm_Lost : PySem.W.mroIn K C_Lost (.type "object") = some true)
    (ckc_Lost : PySem.W.keepIn K (.ref C_Lost) = true)
    (ii_Lost : PySem.W.findIn K (.ref C_Lost) "__init__" = some (some (.ref fI_Lost))) (iy_Lost : PySem.W.typeIn K (.ref fI_Lost) = some (.type "function")) (il_Lost : K.lookup fI_Lost = some ⟨io_Lost, idd_Lost, .func (PySem.W.fnOf "__init__" "Lost.__init__" (defArgs (inS 6 0)) (defBody (inS 6 0)) (defScope (inS 6 0)) .none ik_Lost id_Lost ip_Lost ia_Lost ic_Lost it_Lost), is_Lost⟩) (ig_Lost : PySem.W.codeIn K ic_Lost "Lost.__init__" = true)
    (nf_Lost_at : PySem.W.findIn K (.ref C_Lost) "at" = some none)
    (nf_Lost_ways : PySem.W.findIn K (.ref C_Lost) "ways" = some none)
    (nf_Lost_within : PySem.W.findIn K (.ref C_Lost) "within" = some none)
    (nf_Lost_word : PySem.W.findIn K (.ref C_Lost) "word" = some none)
    (sb_Lost_Barred : PySem.W.subIn K (.ref C_Lost) (.ref C_Barred) = some false)
    (sb_Lost_InvalidPaper : PySem.W.subIn K (.ref C_Lost) (.ref C_InvalidPaper) = some false)
    (sb_Lost_Lost : PySem.W.subIn K (.ref C_Lost) (.ref C_Lost) = some true)
    (sb_Lost_NotUsable : PySem.W.subIn K (.ref C_Lost) (.ref C_NotUsable) = some false)
    (sb_Lost_PaperError : PySem.W.subIn K (.ref C_Lost) (.ref C_PaperError) = some false)
    (sb_Lost_RingError : PySem.W.subIn K (.ref C_Lost) (.ref C_RingError) = some true)
    (sb_Lost_ShelfError : PySem.W.subIn K (.ref C_Lost) (.ref C_ShelfError) = some true)
    (sb_Lost_Torn : PySem.W.subIn K (.ref C_Lost) (.ref C_Torn) = some false)
    {iN_NotUsable : Addr} {nm_NotUsable q_NotUsable : Str} {bs_NotUsable bm_NotUsable : List Value} {sn_NotUsable : List Str} {sub_NotUsable : List Value} {ab_NotUsable : Bool} {col_NotUsable : Option Bool} {dd_NotUsable : Option Addr} {k0_NotUsable k1_NotUsable k2_NotUsable k3_NotUsable k5_NotUsable : Option Value} {fI_NotUsable : Addr} {io_NotUsable ik_NotUsable id_NotUsable ip_NotUsable ic_NotUsable it_NotUsable : Value} {idd_NotUsable ia_NotUsable : Option Addr} {is_NotUsable : Array (Option Value)}
    (cl_NotUsable : K.lookup C_NotUsable = some (excClassObj nm_NotUsable q_NotUsable C_NotUsable iN_NotUsable bs_NotUsable bm_NotUsable true sn_NotUsable sub_NotUsable ab_NotUsable col_NotUsable dd_NotUsable k0_NotUsable k1_NotUsable k2_NotUsable k3_NotUsable k5_NotUsable "ValueError.__new__")) (cr_NotUsable : PySem.HandSPX.refsVE bm_NotUsable = true)
    (csa_NotUsable : PySem.W.findIn K (.ref C_NotUsable) "__setattr__" = some (some (.builtin "object.__setattr__")))
    (chg_NotUsable : PySem.W.findIn K (.ref C_NotUsable) "__getattribute__" = some (some (.builtin "BaseException.__getattribute__")))
    (chk_NotUsable : PySem.W.findIn K (.ref C_NotUsable) "__getattr__" = some none)
    (chs_NotUsable : PySem.W.subIn K (.ref C_NotUsable) (.type "BaseException") = some true)
    (chd_NotUsable : PySem.W.hasDictIn K C_NotUsable = true)
    (cha_NotUsable : PySem.W.findIn K (.ref C_NotUsable) "__class__" = some (some (.builtin "object.__class__")))
    (chm_NotUsable : PySem.W.mroIn K C_NotUsable (.type "object") = some true)
    (ckc_NotUsable : PySem.W.keepIn K (.ref C_NotUsable) = true)
    (ii_NotUsable : PySem.W.findIn K (.ref C_NotUsable) "__init__" = some (some (.ref fI_NotUsable))) (iy_NotUsable : PySem.W.typeIn K (.ref fI_NotUsable) = some (.type "function")) (il_NotUsable : K.lookup fI_NotUsable = some ⟨io_NotUsable, idd_NotUsable, .func (PySem.W.fnOf "__init__" "NotUsable.__init__" (defArgs (inS 5 0)) (defBody (inS 5 0)) (defScope (inS 5 0)) .none ik_NotUsable id_NotUsable ip_NotUsable ia_NotUsable ic_NotUsable it_NotUsable), is_NotUsable⟩) (ig_NotUsable : PySem.W.codeIn K ic_NotUsable "NotUsable.__init__" = true)
    (nf_NotUsable_at : PySem.W.findIn K (.ref C_NotUsable) "at" = some none)
    (nf_NotUsable_ways : PySem.W.findIn K (.ref C_NotUsable) "ways" = some none)
    (nf_NotUsable_within : PySem.W.findIn K (.ref C_NotUsable) "within" = some none)
    (nf_NotUsable_word : PySem.W.findIn K (.ref C_NotUsable) "word" = some none)
    (sb_NotUsable_Barred : PySem.W.subIn K (.ref C_NotUsable) (.ref C_Barred) = some false)
    (sb_NotUsable_InvalidPaper : PySem.W.subIn K (.ref C_NotUsable) (.ref C_InvalidPaper) = some false)
    (sb_NotUsable_Lost : PySem.W.subIn K (.ref C_NotUsable) (.ref C_Lost) = some false)
    (sb_NotUsable_NotUsable : PySem.W.subIn K (.ref C_NotUsable) (.ref C_NotUsable) = some true)
    (sb_NotUsable_PaperError : PySem.W.subIn K (.ref C_NotUsable) (.ref C_PaperError) = some false)
    (sb_NotUsable_RingError : PySem.W.subIn K (.ref C_NotUsable) (.ref C_RingError) = some true)
    (sb_NotUsable_ShelfError : PySem.W.subIn K (.ref C_NotUsable) (.ref C_ShelfError) = some true)
    (sb_NotUsable_Torn : PySem.W.subIn K (.ref C_NotUsable) (.ref C_Torn) = some false)
    {iN_Torn : Addr} {nm_Torn q_Torn : Str} {bs_Torn bm_Torn : List Value} {sn_Torn : List Str} {sub_Torn : List Value} {ab_Torn : Bool} {col_Torn : Option Bool} {dd_Torn : Option Addr} {k0_Torn k1_Torn k2_Torn k3_Torn k5_Torn : Option Value} {fI_Torn : Addr} {io_Torn ik_Torn id_Torn ip_Torn ic_Torn it_Torn : Value} {idd_Torn ia_Torn : Option Addr} {is_Torn : Array (Option Value)}
    (cl_Torn : K.lookup C_Torn = some (excClassObj nm_Torn q_Torn C_Torn iN_Torn bs_Torn bm_Torn true sn_Torn sub_Torn ab_Torn col_Torn dd_Torn k0_Torn k1_Torn k2_Torn k3_Torn k5_Torn "ValueError.__new__")) (cr_Torn : PySem.HandSPX.refsVE bm_Torn = true)
    (csa_Torn : PySem.W.findIn K (.ref C_Torn) "__setattr__" = some (some (.builtin "object.__setattr__")))
    (chg_Torn : PySem.W.findIn K (.ref C_Torn) "__getattribute__" = some (some (.builtin "BaseException.__getattribute__")))
    (chk_Torn : PySem.W.findIn K (.ref C_Torn) "__getattr__" = some none)
    (chs_Torn : PySem.W.subIn K (.ref C_Torn) (.type "BaseException") = some true)
    (chd_Torn : PySem.W.hasDictIn K C_Torn = true)
    (cha_Torn : PySem.W.findIn K (.ref C_Torn) "__class__" = some (some (.builtin "object.__class__")))
    (chm_Torn : PySem.W.mroIn K C_Torn (.type "object") = some true)
    (ckc_Torn : PySem.W.keepIn K (.ref C_Torn) = true)
    (ii_Torn : PySem.W.findIn K (.ref C_Torn) "__init__" = some (some (.ref fI_Torn))) (iy_Torn : PySem.W.typeIn K (.ref fI_Torn) = some (.type "function")) (il_Torn : K.lookup fI_Torn = some ⟨io_Torn, idd_Torn, .func (PySem.W.fnOf "__init__" "Torn.__init__" (defArgs (inS 7 0)) (defBody (inS 7 0)) (defScope (inS 7 0)) .none ik_Torn id_Torn ip_Torn ia_Torn ic_Torn it_Torn), is_Torn⟩) (ig_Torn : PySem.W.codeIn K ic_Torn "Torn.__init__" = true)
    (nf_Torn_at : PySem.W.findIn K (.ref C_Torn) "at" = some none)
    (nf_Torn_ways : PySem.W.findIn K (.ref C_Torn) "ways" = some none)
    (nf_Torn_within : PySem.W.findIn K (.ref C_Torn) "within" = some none)
    (nf_Torn_word : PySem.W.findIn K (.ref C_Torn) "word" = some none)
    (sb_Torn_Barred : PySem.W.subIn K (.ref C_Torn) (.ref C_Barred) = some false)
    (sb_Torn_InvalidPaper : PySem.W.subIn K (.ref C_Torn) (.ref C_InvalidPaper) = some false)
    (sb_Torn_Lost : PySem.W.subIn K (.ref C_Torn) (.ref C_Lost) = some false)
    (sb_Torn_NotUsable : PySem.W.subIn K (.ref C_Torn) (.ref C_NotUsable) = some false)
    (sb_Torn_PaperError : PySem.W.subIn K (.ref C_Torn) (.ref C_PaperError) = some false)
    (sb_Torn_RingError : PySem.W.subIn K (.ref C_Torn) (.ref C_RingError) = some true)
    (sb_Torn_ShelfError : PySem.W.subIn K (.ref C_Torn) (.ref C_ShelfError) = some true)
    (sb_Torn_Torn : PySem.W.subIn K (.ref C_Torn) (.ref C_Torn) = some true)
    (xn : PySem.W.specialIn K (.builtin "object.__class__") "__get__" = some (some (.builtin "getset_descriptor.__get__"))) (xt : PySem.W.takesIn K (.builtin "object.__class__") = some true)
    {p_PRIMES : Addr} {go_PRIMES : Obj} {gi_PRIMES : Array Value} {gn_PRIMES : Nat} (ga_PRIMES : PySem.W.nsIn K mainGlobals "PRIMES" = some (some (.ref p_PRIMES))) (gl_PRIMES : K.lookup p_PRIMES = some go_PRIMES) (gc_PRIMES : go_PRIMES.cls = .type "tuple") (gd_PRIMES : go_PRIMES.data = .seq gi_PRIMES gn_PRIMES) (gz_PRIMES : gi_PRIMES.size ≤ sizeLine) (gv_PRIMES : Vals (([2, 3, 5, 7, 11, 13] : List Nat).map fun n => V.int (n : Nat)) gi_PRIMES.toList)
    (z_len : PySem.W.nsIn K mainGlobals "len" = some none)
    (z_tuple : PySem.W.nsIn K mainGlobals "tuple" = some none)
    (z_list : PySem.W.nsIn K mainGlobals "list" = some none)
    (z_int : PySem.W.nsIn K mainGlobals "int" = some none)
    (z_sum : PySem.W.nsIn K mainGlobals "sum" = some none)
    (z_min : PySem.W.nsIn K mainGlobals "min" = some none)
    (z_max : PySem.W.nsIn K mainGlobals "max" = some none)
    (z_repr : PySem.W.nsIn K mainGlobals "repr" = some none)
    (z_sorted : PySem.W.nsIn K mainGlobals "sorted" = some none)
    (z_all : PySem.W.nsIn K mainGlobals "all" = some none)
    (z_any : PySem.W.nsIn K mainGlobals "any" = some none)
    (z_abs : PySem.W.nsIn K mainGlobals "abs" = some none)
    (z_isinstance : PySem.W.nsIn K mainGlobals "isinstance" = some none)
    (z_bool : PySem.W.nsIn K mainGlobals "bool" = some none)
    (z_str : PySem.W.nsIn K mainGlobals "str" = some none)
    (z_range : PySem.W.nsIn K mainGlobals "range" = some none)
    (z_enumerate : PySem.W.nsIn K mainGlobals "enumerate" = some none)
    (z_zip : PySem.W.nsIn K mainGlobals "zip" = some none)
    (z_set : PySem.W.nsIn K mainGlobals "set" = some none)
    : ∃ (fd : FuncData) (cs : List (Addr × Addr)) (sp : Sp), (∀ (s : Shared) (v : Value), BindsTo s fd ⟨[v], []⟩ [("_law_script", v)]) ∧ (∀ p ∈ cs, p.2 ∈ ts ∧ PySem.W.codeHdIn K p.1 p.2 = true ∧ K.lookup p.2 = none) ∧
      (∀ base : Heap, K.In base → base.Ns mainGlobals mg → (∀ p ∈ cs, LamX.TabB base mg p.1 p.2) → FnG l.prog w K mg base 11 fa fd ["_law_script"] sp) ∧
      ∀ (H : Hp) (a : Addr) (ns : List Int), ns.length ≤ 63 → (∀ z ∈ ns, Builtin.Int.intBits z ≤ 1048576) → (∀ p ∈ cs, H p.2 = some (.tbl #[])) → SqL K H a (ns.map V.int) → sp [.ref a] H (fun v _ => v = .bl true) fun _ _ _ => False := by
  have e := hfa.symm.trans (PySem.W.mg_of X G a51)
  cases e
  have blt : ∀ x, x ∈ bNames → mg x = none := fun x hx => by
    simp only [bNames, List.mem_cons, List.not_mem_nil, or_false] at hx
    rcases hx with rfl | rfl | rfl | rfl | rfl | rfl | rfl | rfl | rfl | rfl | rfl | rfl | rfl | rfl | rfl | rfl | rfl | rfl | rfl
    · exact PySem.W.mg_none_of X G z_len
    · exact PySem.W.mg_none_of X G z_tuple
    · exact PySem.W.mg_none_of X G z_list
    · exact PySem.W.mg_none_of X G z_int
    · exact PySem.W.mg_none_of X G z_sum
    · exact PySem.W.mg_none_of X G z_min
    · exact PySem.W.mg_none_of X G z_max
    · exact PySem.W.mg_none_of X G z_repr
    · exact PySem.W.mg_none_of X G z_sorted
    · exact PySem.W.mg_none_of X G z_all
    · exact PySem.W.mg_none_of X G z_any
    · exact PySem.W.mg_none_of X G z_abs
    · exact PySem.W.mg_none_of X G z_isinstance
    · exact PySem.W.mg_none_of X G z_bool
    · exact PySem.W.mg_none_of X G z_str
    · exact PySem.W.mg_none_of X G z_range
    · exact PySem.W.mg_none_of X G z_enumerate
    · exact PySem.W.mg_none_of X G z_zip
    · exact PySem.W.mg_none_of X G z_set
  let T : List (Addr × Str) := [(tt48, ("_law_are_torn" : Str) ++ ".<locals>." ++ "<lambda>"), (tt49, ("_law_are_stretches_refused" : Str) ++ ".<locals>." ++ "<lambda>"), (tt50, ("_law_are_others_refused" : Str) ++ ".<locals>." ++ "<lambda>")]
  have F_Lost : ClsF K C_Lost := ⟨csa_Lost, chg_Lost, chk_Lost, chs_Lost, chd_Lost, cha_Lost, chm_Lost, ct_Lost, ckc_Lost⟩
  have E_Lost : ∀ base : Heap, ExcD l.prog w K mg base 2 "Lost" ["within"] := fun base => excD_of (st := inS 6 0) (ps := ["self", "within"]) (PySem.W.mg_of X G ca_Lost) (F_Lost.ox cl_Lost cr_Lost) ii_Lost iy_Lost il_Lost ig_Lost (fun x hx => by
      simp only [List.mem_cons, List.not_mem_nil, or_false] at hx
      subst hx; exact nf_Lost_within)
    ⟨rfl, rfl, rfl, by decide +kernel, rfl, by decide +kernel, by decide +kernel⟩ (by decide +kernel) (fun kV doc pm an cdv ct us e => match us, e with | [a0, a1], _ => rfl)
  have F_NotUsable : ClsF K C_NotUsable := ⟨csa_NotUsable, chg_NotUsable, chk_NotUsable, chs_NotUsable, chd_NotUsable, cha_NotUsable, chm_NotUsable, ct_NotUsable, ckc_NotUsable⟩
  have E_NotUsable : ∀ base : Heap, ExcD l.prog w K mg base 2 "NotUsable" ["word", "at"] := fun base => excD_of (st := inS 5 0) (ps := ["self", "word", "at"]) (PySem.W.mg_of X G ca_NotUsable) (F_NotUsable.ox cl_NotUsable cr_NotUsable) ii_NotUsable iy_NotUsable il_NotUsable ig_NotUsable (fun x hx => by
      simp only [List.mem_cons, List.not_mem_nil, or_false] at hx
      rcases hx with rfl | rfl
      · exact nf_NotUsable_word
      · exact nf_NotUsable_at)
    ⟨rfl, rfl, rfl, by decide +kernel, rfl, by decide +kernel, by decide +kernel⟩ (by decide +kernel) (fun kV doc pm an cdv ct us e => match us, e with | [a0, a1, a2], _ => rfl)
  have F_Torn : ClsF K C_Torn := ⟨csa_Torn, chg_Torn, chk_Torn, chs_Torn, chd_Torn, cha_Torn, chm_Torn, ct_Torn, ckc_Torn⟩
  have E_Torn : ∀ base : Heap, ExcD l.prog w K mg base 2 "Torn" ["ways"] := fun base => excD_of (st := inS 7 0) (ps := ["self", "ways"]) (PySem.W.mg_of X G ca_Torn) (F_Torn.ox cl_Torn cr_Torn) ii_Torn iy_Torn il_Torn ig_Torn (fun x hx => by
      simp only [List.mem_cons, List.not_mem_nil, or_false] at hx
      subst hx; exact nf_Torn_ways)
    ⟨rfl, rfl, rfl, by decide +kernel, rfl, by decide +kernel, by decide +kernel⟩ (by decide +kernel) (fun kV doc pm an cdv ct us e => match us, e with | [a0, a1], _ => rfl)
  have XC__law_heard : XcOk K mg hier "RingError" ["at", "ways", "within", "word"] := xcok__law_heard (PySem.W.mg_of X G ca_Barred) ci_Barred ct_Barred (PySem.W.mg_of X G ca_InvalidPaper) ci_InvalidPaper ct_InvalidPaper (PySem.W.mg_of X G ca_Lost) ci_Lost ct_Lost (PySem.W.mg_of X G ca_NotUsable) ci_NotUsable ct_NotUsable (PySem.W.mg_of X G ca_PaperError) ci_PaperError ct_PaperError (PySem.W.mg_of X G ca_RingError) ci_RingError ct_RingError (PySem.W.mg_of X G ca_ShelfError) ci_ShelfError ct_ShelfError (PySem.W.mg_of X G ca_Torn) ci_Torn ct_Torn cb_RingError F_Lost nf_Lost_at nf_Lost_ways nf_Lost_within nf_Lost_word sb_Lost_Barred sb_Lost_InvalidPaper sb_Lost_Lost sb_Lost_NotUsable sb_Lost_PaperError sb_Lost_RingError sb_Lost_ShelfError sb_Lost_Torn F_NotUsable nf_NotUsable_at nf_NotUsable_ways nf_NotUsable_within nf_NotUsable_word sb_NotUsable_Barred sb_NotUsable_InvalidPaper sb_NotUsable_Lost sb_NotUsable_NotUsable sb_NotUsable_PaperError sb_NotUsable_RingError sb_NotUsable_ShelfError sb_NotUsable_Torn F_Torn nf_Torn_at nf_Torn_ways nf_Torn_within nf_Torn_word sb_Torn_Barred sb_Torn_InvalidPaper sb_Torn_Lost sb_Torn_NotUsable sb_Torn_PaperError sb_Torn_RingError sb_Torn_ShelfError sb_Torn_Torn xn xt
  have GT_PRIMES : ∃ p, mg "PRIMES" = some (.ref p) ∧ ∀ H, SqT K H p (([2, 3, 5, 7, 11, 13] : List Nat).map fun n => V.int (n : Nat)) := ⟨p_PRIMES, PySem.W.mg_of X G ga_PRIMES, fun H => .inr ⟨go_PRIMES, gi_PRIMES, gn_PRIMES, gl_PRIMES, gc_PRIMES, gd_PRIMES, gz_PRIMES, gv_PRIMES⟩⟩
  refine ⟨PySem.W.fnOf "law" "law" (defArgs (topS 75)) (defBody (topS 75)) (defScope (topS 75)) .none kV51 dc51 pm51 an51 cd51 ct51, [(cc48, tt48), (cc49, tt49), (cc50, tt50)], spLaw K T 63, fun s v => .of_eq rfl, fun p hp => ?_, fun base _ _ TB => ?_, fun H a ns hl _ ht hS => ⟨a, ns, rfl, hS, hl, fun p hp => ?_, fun _ => rfl⟩⟩
  · simp only [List.mem_cons, List.not_mem_nil, or_false] at hp
    rcases hp with rfl | rfl | rfl
    · exact ⟨s48, m48, n48⟩
    · exact ⟨s49, m49, n49⟩
    · exact ⟨s50, m50, n50⟩
  · have _d : True := trivial
    have X_Lost := E_Lost base
    have X_NotUsable := E_NotUsable base
    have X_Torn := E_Torn base
    have Y__law_heard : HrdD l.prog w K mg base (KD T) "_law_heard" "_law_call" g__law_heard := hrd__law_heard (fun_mk (st := topS 68) l52 c52 k52) (PySem.W.mg_of X G a52) (PySem.W.mg_none_of X G z_isinstance) XC__law_heard
    have tb__law_are_torn : TabC base mg (KD T) "_law_are_torn" (.ref cc48) := by
      refine ⟨cc48, tt48, rfl, TB (cc48, tt48) (by simp only [List.mem_cons, true_or, or_true]), (show (tt48, ("_law_are_torn" : Str) ++ ".<locals>." ++ "<lambda>") ∈ T by simp only [T, List.mem_cons, true_or, or_true]), fun p hp e => ?_⟩
      have hp : p ∈ T := hp
      simp only [T, List.mem_cons, List.not_mem_nil, or_false] at hp
      rcases hp with rfl | rfl | rfl
      · rfl
      · exact absurd e (ne_48_49.symm)
      · exact absurd e (ne_48_50.symm)
    have tb__law_are_stretches_refused : TabC base mg (KD T) "_law_are_stretches_refused" (.ref cc49) := by
      refine ⟨cc49, tt49, rfl, TB (cc49, tt49) (by simp only [List.mem_cons, true_or, or_true]), (show (tt49, ("_law_are_stretches_refused" : Str) ++ ".<locals>." ++ "<lambda>") ∈ T by simp only [T, List.mem_cons, true_or, or_true]), fun p hp e => ?_⟩
      have hp : p ∈ T := hp
      simp only [T, List.mem_cons, List.not_mem_nil, or_false] at hp
      rcases hp with rfl | rfl | rfl
      · exact absurd e (ne_48_49)
      · rfl
      · exact absurd e (ne_49_50.symm)
    have tb__law_are_others_refused : TabC base mg (KD T) "_law_are_others_refused" (.ref cc50) := by
      refine ⟨cc50, tt50, rfl, TB (cc50, tt50) (by simp only [List.mem_cons, true_or, or_true]), (show (tt50, ("_law_are_others_refused" : Str) ++ ".<locals>." ++ "<lambda>") ∈ T by simp only [T, List.mem_cons, true_or, or_true]), fun p hp e => ?_⟩
      have hp : p ∈ T := hp
      simp only [T, List.mem_cons, List.not_mem_nil, or_false] at hp
      rcases hp with rfl | rfl | rfl
      · exact absurd e (ne_48_50)
      · exact absurd e (ne_49_50)
      · rfl
    have H_demand : Cal l.prog w K mg base (KD T) 3 "demand" ["holds", "name"] [2] g_demand := cal_demand (fun_mk (st := topS 10) l0 c0 k0) (PySem.W.mg_of X G a0) blt X_NotUsable
    have H_lead_of : Cal l.prog w K mg base (KD T) 1 "lead_of" ["word"] [1] g_lead_of := cal_lead_of (fun_mk (st := topS 12) l1 c1 k1) (PySem.W.mg_of X G a1) blt 
    have H_inverse_of : Cal l.prog w K mg base (KD T) 1 "inverse_of" ["prime", "digit"] [2] g_inverse_of := cal_inverse_of (fun_mk (st := topS 13) l2 c2 k2) (PySem.W.mg_of X G a2) blt 
    have H_times : Cal l.prog w K mg base (KD T) 1 "times" ["prime", "digit", "word"] [3] g_times := cal_times (fun_mk (st := topS 14) l3 c3 k3) (PySem.W.mg_of X G a3) blt 
    have H_taken_off : Cal l.prog w K mg base (KD T) 1 "taken_off" ["prime", "word", "digit", "row"] [4] g_taken_off := cal_taken_off (fun_mk (st := topS 15) l4 c4 k4) (PySem.W.mg_of X G a4) blt 
    have H_rest_of : Cal l.prog w K mg base (KD T) 2 "rest_of" ["prime", "rows", "word"] [3] g_rest_of := cal_rest_of (fun_mk (st := topS 16) l5 c5 k5) (PySem.W.mg_of X G a5) blt H_taken_off H_lead_of
    have H_rows_with : Cal l.prog w K mg base (KD T) 3 "rows_with" ["prime", "rows", "word"] [3] g_rows_with := cal_rows_with (fun_mk (st := topS 17) l6 c6 k6) (PySem.W.mg_of X G a6) blt H_rest_of H_lead_of H_times H_inverse_of H_taken_off
    have H_settled_rows : Cal l.prog w K mg base (KD T) 4 "settled_rows" ["prime", "words"] [2] g_settled_rows := cal_settled_rows (fun_mk (st := topS 18) l7 c7 k7) (PySem.W.mg_of X G a7) blt H_rows_with
    have H_solution_of : Cal l.prog w K mg base (KD T) 5 "solution_of" ["prime", "equations", "many"] [3] g_solution_of := cal_solution_of (fun_mk (st := topS 19) l8 c8 k8) (PySem.W.mg_of X G a8) blt H_settled_rows H_lead_of
    have H_is_integer : Cal l.prog w K mg base (KD T) 1 "is_integer" ["thing"] [1] g_is_integer := cal_is_integer (fun_mk (st := topS 22) l9 c9 k9) (PySem.W.mg_of X G a9) blt 
    have H_is_number : Cal l.prog w K mg base (KD T) 2 "is_number" ["thing"] [1] g_is_number := cal_is_number (fun_mk (st := topS 23) l10 c10 k10) (PySem.W.mg_of X G a10) blt H_is_integer
    have H_is_prime : Cal l.prog w K mg base (KD T) 2 "is_prime" ["thing"] [1] g_is_prime := cal_is_prime (fun_mk (st := topS 24) l11 c11 k11) (PySem.W.mg_of X G a11) blt H_is_integer GT_PRIMES
    have H_is_size : Cal l.prog w K mg base (KD T) 2 "is_size" ["thing"] [1] g_is_size := cal_is_size (fun_mk (st := topS 25) l12 c12 k12) (PySem.W.mg_of X G a12) blt H_is_integer
    have H_is_place : Cal l.prog w K mg base (KD T) 3 "is_place" ["size", "thing"] [2] g_is_place := cal_is_place (fun_mk (st := topS 26) l13 c13 k13) (PySem.W.mg_of X G a13) blt H_is_number H_is_size
    have H_is_digit : Cal l.prog w K mg base (KD T) 3 "is_digit" ["prime", "thing"] [2] g_is_digit := cal_is_digit (fun_mk (st := topS 27) l14 c14 k14) (PySem.W.mg_of X G a14) blt H_is_number H_is_prime
    have H_is_stretch : Cal l.prog w K mg base (KD T) 4 "is_stretch" ["size", "thing"] [2] g_is_stretch := cal_is_stretch (fun_mk (st := topS 28) l15 c15 k15) (PySem.W.mg_of X G a15) blt H_is_number H_is_place
    have H_balls_of : Cal l.prog w K mg base (KD T) 1 "balls_of" ["pattern"] [1] g_balls_of := cal_balls_of (fun_mk (st := topS 30) l16 c16 k16) (PySem.W.mg_of X G a16) blt 
    have H_landing_of : Cal l.prog w K mg base (KD T) 1 "landing_of" ["pattern", "i"] [2] g_landing_of := cal_landing_of (fun_mk (st := topS 31) l17 c17 k17) (PySem.W.mg_of X G a17) blt 
    have H_target_of : Cal l.prog w K mg base (KD T) 2 "target_of" ["pattern", "place"] [2] g_target_of := cal_target_of (fun_mk (st := topS 32) l18 c18 k18) (PySem.W.mg_of X G a18) blt H_landing_of
    have H_thrown_from : Cal l.prog w K mg base (KD T) 4 "thrown_from" ["pattern", "place"] [2] g_thrown_from := cal_thrown_from (fun_mk (st := topS 33) l19 c19 k19) (PySem.W.mg_of X G a19) blt H_demand H_is_place H_target_of
    have H_round_from : Cal l.prog w K mg base (KD T) 3 "round_from" ["pattern", "place"] [2] g_round_from := cal_round_from (fun_mk (st := topS 34) l20 c20 k20) (PySem.W.mg_of X G a20) blt H_target_of
    have H_places_from : Cal l.prog w K mg base (KD T) 1 "places_from" ["size", "start", "many"] [3] g_places_from := cal_places_from (fun_mk (st := topS 36) l21 c21 k21) (PySem.W.mg_of X G a21) blt 
    have H_next_ones : Cal l.prog w K mg base (KD T) 4 "next_ones" ["pattern", "place"] [2, 2021] g_next_ones := cal_next_ones (fun_mk (st := topS 38) l22 c22 k22) (PySem.W.mg_of X G a22) blt H_demand H_is_place H_places_from
    have H_ones_before : Cal l.prog w K mg base (KD T) 5 "ones_before" ["pattern", "place"] [2, 2021] g_ones_before := cal_ones_before (fun_mk (st := topS 39) l23 c23 k23) (PySem.W.mg_of X G a23) blt H_thrown_from H_places_from
    have H_chain_of : Cal l.prog w K mg base (KD T) 4 "chain_of" ["pattern", "place"] [2, 2021] g_chain_of := cal_chain_of (fun_mk (st := topS 40) l24 c24 k24) (PySem.W.mg_of X G a24) blt H_demand H_is_place H_round_from
    have H_column_at : Cal l.prog w K mg base (KD T) 1 "column_at" ["book", "place"] [2] g_column_at := cal_column_at (fun_mk (st := topS 42) l25 c25 k25) (PySem.W.mg_of X G a25) blt 
    have H_settled_columns : Cal l.prog w K mg base (KD T) 5 "settled_columns" ["book", "places"] [2] g_settled_columns := cal_settled_columns (fun_mk (st := topS 43) l26 c26 k26) (PySem.W.mg_of X G a26) blt H_settled_rows H_column_at
    have H_rank_in : Cal l.prog w K mg base (KD T) 2 "rank_in" ["pattern", "start", "length"] [3] g_rank_in := cal_rank_in (fun_mk (st := topS 45) l27 c27 k27) (PySem.W.mg_of X G a27) blt H_places_from
    have H_rank_beside : Cal l.prog w K mg base (KD T) 3 "rank_beside" ["pattern", "stretch"] [2] g_rank_beside := cal_rank_beside (fun_mk (st := topS 47) l28 c28 k28) (PySem.W.mg_of X G a28) blt H_rank_in
    have H_open_rank : Cal l.prog w K mg base (KD T) 5 "open_rank" ["pattern", "stretch"] [2, 2021] g_open_rank := cal_open_rank (fun_mk (st := topS 48) l29 c29 k29) (PySem.W.mg_of X G a29) blt H_demand H_is_stretch H_balls_of H_rank_beside
    have H_mends_burst : Cal l.prog w K mg base (KD T) 5 "mends_burst" ["pattern", "stretch"] [2, 2021] g_mends_burst := cal_mends_burst (fun_mk (st := topS 49) l30 c30 k30) (PySem.W.mg_of X G a30) blt H_demand H_is_stretch H_rank_beside H_balls_of
    have H_most_burst : Cal l.prog w K mg base (KD T) 1 "most_burst" ["pattern"] [0, 1] g_most_burst := cal_most_burst (fun_mk (st := topS 50) l31 c31 k31) (PySem.W.mg_of X G a31) blt 
    have H_most_window : Cal l.prog w K mg base (KD T) 1 "most_window" ["pattern"] [0, 1] g_most_window := cal_most_window (fun_mk (st := topS 51) l32 c32 k32) (PySem.W.mg_of X G a32) blt 
    have H_sum_of_rows : Cal l.prog w K mg base (KD T) 1 "sum_of_rows" ["book", "multiples"] [2] g_sum_of_rows := cal_sum_of_rows (fun_mk (st := topS 53) l33 c33 k33) (PySem.W.mg_of X G a33) blt 
    have H_check_at : Cal l.prog w K mg base (KD T) 1 "check_at" ["book", "leads", "place"] [3] g_check_at := cal_check_at (fun_mk (st := topS 56) l34 c34 k34) (PySem.W.mg_of X G a34) blt 
    have H_checks_of : Cal l.prog w K mg base (KD T) 5 "checks_of" ["book"] [1] g_checks_of := cal_checks_of (fun_mk (st := topS 55) l35 c35 k35) (PySem.W.mg_of X G a35) blt H_lead_of H_check_at H_settled_rows
    have H_are_told : Cal l.prog w K mg base (KD T) 4 "are_told" ["prime", "size", "thing"] [3] g_are_told := cal_are_told (fun_mk (st := topS 58) l36 c36 k36) (PySem.W.mg_of X G a36) blt H_is_digit
    have H_tearing_ways : Cal l.prog w K mg base (KD T) 6 "tearing_ways" ["book", "told", "digits"] [3] g_tearing_ways := cal_tearing_ways (fun_mk (st := topS 60) l37 c37 k37) (PySem.W.mg_of X G a37) blt H_solution_of
    have H_words_within : Cal l.prog w K mg base (KD T) 6 "words_within" ["book", "told"] [2] g_words_within := cal_words_within (fun_mk (st := topS 61) l38 c38 k38) (PySem.W.mg_of X G a38) blt H_settled_rows H_checks_of
    have H_filled : Cal l.prog w K mg base (KD T) 7 "filled" ["book", "digits"] [2, 2021] g_filled := cal_filled (fun_mk (st := topS 59) l39 c39 k39) (PySem.W.mg_of X G a39) blt H_demand H_are_told H_column_at H_solution_of H_tearing_ways H_settled_columns H_words_within H_sum_of_rows X_Lost X_Torn
    have H_open_words : Cal l.prog w K mg base (KD T) 7 "open_words" ["book", "stretch"] [2, 2021] g_open_words := cal_open_words (fun_mk (st := topS 62) l40 c40 k40) (PySem.W.mg_of X G a40) blt H_demand H_is_stretch H_places_from H_words_within
    have H_holds_any : Cal l.prog w K mg base (KD T) 6 "holds_any" ["book", "stretch"] [2, 2021] g_holds_any := cal_holds_any (fun_mk (st := topS 63) l41 c41 k41) (PySem.W.mg_of X G a41) blt H_demand H_is_stretch H_settled_columns H_places_from
    have H__law_feed : Cal0 l.prog w K mg base 1 "_law_feed" ["_law_script"] [1] (spFeed K .b 63) := cal_feed (fun_mk (st := topS 65) l42 c42 k42) (PySem.W.mg_of X G a42) blt
    have H__law_same : Cal l.prog w K mg base (KD T) 1 "_law_same" ["_law_heard_here", "_law_due"] [2] sameF := Cal.weak sameF_ref (cal__law_same (fun_mk (st := topS 66) l43 c43 k43) (PySem.W.mg_of X G a43) blt )
    have H__law_draw : Cal l.prog w K mg base (KD T) 1 "_law_draw" ["_law_feed_here", "_law_many"] [2] g__law_draw := cal__law_draw (fun_mk (st := topS 67) l44 c44 k44) (PySem.W.mg_of X G a44) blt 
    have H__law_are_bursts_told : Cal l.prog w K mg base (KD T) 6 "_law_are_bursts_told" [] [0] g__law_are_bursts_told := cal__law_are_bursts_told (fun_mk (st := topS 69) l45 c45 k45) (PySem.W.mg_of X G a45) blt H_mends_burst H_most_window H_most_burst H_open_rank H__law_same
    have H__law_are_menders_told : Cal l.prog w K mg base (KD T) 6 "_law_are_menders_told" [] [0] g__law_are_menders_told := cal__law_are_menders_told (fun_mk (st := topS 70) l46 c46 k46) (PySem.W.mg_of X G a46) blt H_next_ones H_ones_before H_chain_of H__law_same
    have H__law_are_losses_told : Cal l.prog w K mg base (KD T) 8 "_law_are_losses_told" [] [0] g__law_are_losses_told := cal__law_are_losses_told (fun_mk (st := topS 71) l47 c47 k47) (PySem.W.mg_of X G a47) blt H_filled H_open_words H_holds_any H__law_same
    have H__law_are_torn : Cal l.prog w K mg base (KD T) 10 "_law_are_torn" [] [0] g__law_are_torn := cal__law_are_torn (fun_mk (st := topS 72) l48 c48 k48) (PySem.W.mg_of X G a48) blt H_filled H__law_same Y__law_heard (tab_lookup l48 tb__law_are_torn)
    have H__law_are_stretches_refused : Cal l.prog w K mg base (KD T) 10 "_law_are_stretches_refused" [] [0] g__law_are_stretches_refused := cal__law_are_stretches_refused (fun_mk (st := topS 73) l49 c49 k49) (PySem.W.mg_of X G a49) blt H_mends_burst H_open_rank H_open_words H_holds_any H__law_same Y__law_heard (tab_lookup l49 tb__law_are_stretches_refused)
    have H__law_are_others_refused : Cal l.prog w K mg base (KD T) 10 "_law_are_others_refused" [] [0] g__law_are_others_refused := cal__law_are_others_refused (fun_mk (st := topS 74) l50 c50 k50) (PySem.W.mg_of X G a50) blt H_next_ones H_ones_before H_chain_of H__law_same H_filled Y__law_heard (tab_lookup l50 tb__law_are_others_refused)
    exact ok_law M (fun_mk (st := topS 75) l51 c51 k51) blt H__law_feed H__law_draw H__law_are_losses_told H__law_are_menders_told H__law_are_bursts_told H__law_are_others_refused H__law_are_stretches_refused H__law_are_torn
  · have hp : p ∈ T := hp
    simp only [T, List.mem_cons, List.not_mem_nil, or_false] at hp
    rcases hp with rfl | rfl | rfl
    · exact ht (cc48, tt48) (by simp only [List.mem_cons, true_or, or_true])
    · exact ht (cc49, tt49) (by simp only [List.mem_cons, true_or, or_true])
    · exact ht (cc50, tt50) (by simp only [List.mem_cons, true_or, or_true])
end TX
end
section
set_option maxHeartbeats 1000000
namespace TX
open PySem PySem.Spec PyProof.Rows L2 TH
def mash (cell k : Int) : Int :=
  let m := (cell.fmod 1000032847 + 364433 * k + 10667).fmod 2147486261
  let m2 := (m * m + 7807811 * k + 11083).fmod 2147486281
  ((m2 * m2 + 12983 * m2).fmod 2147487013).fdiv 256
theorem b64_lit {i : Int} (h1 : 0 ≤ i) (h2 : i ≤ 2147487013) : B64 i = true := by
  unfold B64
  simp only [Bool.and_eq_true, decide_eq_true_eq]
  omega
theorem small_mod {a b : Int} (hb : 0 < b) (h : b ≤ 2147487013) : B64 (a.fmod b) = true := by
  have h1 := Int.fmod_nonneg_of_pos a hb
  have h2 := Int.fmod_lt_of_pos a hb
  exact b64_lit h1 (by omega)
theorem sm1 (a : Int) : B64 (a.fmod 2147486261) = true := small_mod (by decide) (by decide)
theorem sm2 (a : Int) : B64 (a.fmod 2147486281) = true := small_mod (by decide) (by decide)
theorem sm3 : B64 364433 = true := b64_lit (by decide) (by decide)
theorem sm4 : B64 7807811 = true := b64_lit (by decide) (by decide)
theorem sm5 : B64 12983 = true := b64_lit (by decide) (by decide)
theorem draw1 (F : Fd) (hd : F.dic = .dic .b) (n : Int) (h1 : 1 ≤ n) (h2 : n ≤ 1000000) (hl : 0 < F.left) : g__law_draw [.fd, .int n] F = .ok (.int (F.left.fmod n)) { F with count := F.count + 1, left := F.left.fdiv n } := by
  obtain ⟨d, c, a, l, k⟩ := F
  simp only at hd hl
  subst hd
  have n0 : ¬ n = 0 := by omega
  have n1 : n.natAbs < 1073741824 := by omega
  simp [runS, evS, evE, evT, evL, evI, tsE, itE, isT, isI, asT, asI, asO, pkV, ent, Ou.toS, Ou.bind, Ou.of, sqS, Fd.fld, Fd.put, fputS, biD, truD, shortD, intP, cD_lt, cD_le, cD_gt, cD_ge, cD_eqi, cD_nei, cD_nil, bD_add, bD_sub, bD_mul, bD_mod, bD_fdiv, bD_pow, g__law_draw, I__law_draw, N__law_draw, hl, n0, n1]
theorem draw2 (F : Fd) (hd : F.dic = .dic .b) (n : Int) (h1 : 1 ≤ n) (h2 : n ≤ 1000000) (hl : F.left ≤ 0) (hc : F.cells = []) : g__law_draw [.fd, .int n] F = .ok (.int ((mash 827213 (F.count + 1)).fmod n)) { F with count := F.count + 1, at_ := F.at_ + 1 } := by
  obtain ⟨d, c, a, l, k⟩ := F
  simp only at hd hl hc
  subst hd hc
  have n0 : ¬ n = 0 := by omega
  have n1 : n.natAbs < 1073741824 := by omega
  have l0 : ¬ 0 < l := by omega
  have e1 : cmpD .NotEq (.lst []) (.lst []) = some false := cD_nil []
  simp [runS, evS, evE, evT, evL, evI, tsE, itE, isT, isI, asT, asI, asO, pkV, ent, Ou.toS, Ou.bind, Ou.of, sqS, Fd.fld, Fd.put, fputS, biD, truD, shortD, intP, cD_lt, cD_le, cD_gt, cD_ge, cD_eqi, cD_nei, cD_nil, bD_add, bD_sub, bD_mul, bD_mod, bD_fdiv, bD_pow, g__law_draw, I__law_draw, N__law_draw, l0, n0, n1, sm1, sm2, sm3, sm4, sm5, e1, mash]
theorem cell_at {c : List Int} (h : c ≠ []) (a : Int) : ∃ x, idxD (.lst (c.map D.int)) (.int (a.fmod c.length)) = some (.int x) := by
  have hl : 0 < c.length := List.length_pos_iff.mpr h
  have g1 := Int.fmod_nonneg_of_pos a (b := (c.length : Int)) (by omega)
  have g2 := Int.fmod_lt_of_pos a (b := (c.length : Int)) (by omega)
  have hj : (a.fmod c.length).toNat < c.length := by omega
  refine ⟨c[(a.fmod c.length).toNat], ?_⟩
  show atI (c.map D.int) _ = _
  unfold atI ixN
  rw [List.length_map, if_pos g1, if_pos g2]
  show (c.map D.int)[(a.fmod c.length).toNat]? = _
  rw [List.getElem?_map, List.getElem?_eq_getElem hj]
  rfl
theorem draw3 (F : Fd) (hd : F.dic = .dic .b) (n : Int) (h1 : 1 ≤ n) (h2 : n ≤ 1000000) (hl : F.left ≤ 0) (hc : F.cells ≠ []) : ∃ x, g__law_draw [.fd, .int n] F = (if 10 ^ 18 ≤ x ∧ F.at_ < F.cells.length then .ok (.int (x.fmod n)) { F with count := F.count + 1, at_ := F.at_ + 1, left := x.fdiv n } else .ok (.int ((mash x (F.count + 1)).fmod n)) { F with count := F.count + 1, at_ := F.at_ + 1 }) := by
  obtain ⟨d, c, a, l, k⟩ := F
  simp only at hd hl hc
  subst hd
  obtain ⟨x, hx⟩ := cell_at hc a
  refine ⟨x, ?_⟩
  have n0 : ¬ n = 0 := by omega
  have n1 : n.natAbs < 1073741824 := by omega
  have l0 : ¬ 0 < l := by omega
  have cl : ¬ c.length = 0 := fun z => hc (List.eq_nil_of_length_eq_zero z)
  have ce : c.isEmpty = false := by cases c with | nil => exact absurd rfl hc | cons _ _ => rfl
  by_cases b : (10 ^ 18 ≤ x ∧ a < c.length)
  · rw [if_pos b]
    have b1 : (1000000000000000000 : Int) ≤ x := b.1
    simp [runS, evS, evE, evT, evL, evI, tsE, itE, isT, isI, asT, asI, asO, pkV, ent, Ou.toS, Ou.bind, Ou.of, sqS, Fd.fld, Fd.put, fputS, biD, truD, shortD, intP, cD_lt, cD_le, cD_gt, cD_ge, cD_eqi, cD_nei, cD_nil, bD_add, bD_sub, bD_mul, bD_mod, bD_fdiv, bD_pow, g__law_draw, I__law_draw, N__law_draw, l0, n0, n1, sm1, sm2, sm3, sm4, sm5, mash, hx, hc, cl, ce, b1, b.2]
  · rw [if_neg b]
    by_cases b1 : (1000000000000000000 : Int) ≤ x
    · have b2 : ¬ a < c.length := fun z => b ⟨b1, z⟩
      simp [runS, evS, evE, evT, evL, evI, tsE, itE, isT, isI, asT, asI, asO, pkV, ent, Ou.toS, Ou.bind, Ou.of, sqS, Fd.fld, Fd.put, fputS, biD, truD, shortD, intP, cD_lt, cD_le, cD_gt, cD_ge, cD_eqi, cD_nei, cD_nil, bD_add, bD_sub, bD_mul, bD_mod, bD_fdiv, bD_pow, g__law_draw, I__law_draw, N__law_draw, l0, n0, n1, sm1, sm2, sm3, sm4, sm5, mash, hx, hc, cl, ce, b1, b2]
    · simp [runS, evS, evE, evT, evL, evI, tsE, itE, isT, isI, asT, asI, asO, pkV, ent, Ou.toS, Ou.bind, Ou.of, sqS, Fd.fld, Fd.put, fputS, biD, truD, shortD, intP, cD_lt, cD_le, cD_gt, cD_ge, cD_eqi, cD_nei, cD_nil, bD_add, bD_sub, bD_mul, bD_mod, bD_fdiv, bD_pow, g__law_draw, I__law_draw, N__law_draw, l0, n0, n1, sm1, sm2, sm3, sm4, sm5, mash, hx, hc, cl, ce, b1]
/-- a draw -/
theorem draw_ok (F : Fd) (hd : F.dic = .dic .b) (n : Int) (h1 : 1 ≤ n) (h2 : n ≤ 1000000) : ∃ v F', g__law_draw [.fd, .int n] F = .ok (.int v) F' ∧ 0 ≤ v ∧ v < n ∧ F'.dic = .dic .b := by
  have md : ∀ a : Int, 0 ≤ a.fmod n ∧ a.fmod n < n := fun a => ⟨Int.fmod_nonneg_of_pos a (by omega), Int.fmod_lt_of_pos a (by omega)⟩
  by_cases hl : 0 < F.left
  · exact ⟨_, _, draw1 F hd n h1 h2 hl, (md _).1, (md _).2, hd⟩
  · by_cases hc : F.cells = []
    · exact ⟨_, _, draw2 F hd n h1 h2 (by omega) hc, (md _).1, (md _).2, hd⟩
    · obtain ⟨x, e⟩ := draw3 F hd n h1 h2 (by omega) hc
      split at e
      · exact ⟨_, _, e, (md _).1, (md _).2, hd⟩
      · exact ⟨_, _, e, (md _).1, (md _).2, hd⟩
end TX
end
section
set_option maxRecDepth 1000000
set_option maxHeartbeats 1000000
namespace TX
open PySem PySem.Spec PyProof.Rows L2 TH
theorem t1 (F : Fd) : g__law_are_bursts_told [] F = .ok (.bl true) F := by kernel_rfl
theorem t2 (F : Fd) : g__law_are_menders_told [] F = .ok (.bl true) F := by kernel_rfl
theorem t3 (F : Fd) : g__law_are_losses_told [] F = .ok (.bl true) F := by kernel_rfl
theorem t4 (F : Fd) : g__law_are_torn [] F = .ok (.bl true) F := by kernel_rfl
theorem t5 (F : Fd) : g__law_are_stretches_refused [] F = .ok (.bl true) F := by kernel_rfl
theorem t6 (F : Fd) : g__law_are_others_refused [] F = .ok (.bl true) F := by kernel_rfl
/-- a call without arguments that tells true -/
theorem ev_call {cf : Str → List D → Fd → Ou D} {x : Str} {ρ : Env'} {F : Fd} (h : ∀ F, cf x [] F = .ok (.bl true) F) : evE cf (.call x .nil .nil) ρ F = .ok (.bl true) F := h F
theorem c1 (F : Fd) : cf_law "_law_are_bursts_told" [] F = .ok (.bl true) F := (show cf_law "_law_are_bursts_told" [] F = g__law_are_bursts_told [] F by kernel_rfl).trans (t1 F)
theorem c2 (F : Fd) : cf_law "_law_are_menders_told" [] F = .ok (.bl true) F := (show cf_law "_law_are_menders_told" [] F = g__law_are_menders_told [] F by kernel_rfl).trans (t2 F)
theorem c3 (F : Fd) : cf_law "_law_are_losses_told" [] F = .ok (.bl true) F := (show cf_law "_law_are_losses_told" [] F = g__law_are_losses_told [] F by kernel_rfl).trans (t3 F)
theorem c4 (F : Fd) : cf_law "_law_are_torn" [] F = .ok (.bl true) F := (show cf_law "_law_are_torn" [] F = g__law_are_torn [] F by kernel_rfl).trans (t4 F)
theorem c5 (F : Fd) : cf_law "_law_are_stretches_refused" [] F = .ok (.bl true) F := (show cf_law "_law_are_stretches_refused" [] F = g__law_are_stretches_refused [] F by kernel_rfl).trans (t5 F)
theorem c6 (F : Fd) : cf_law "_law_are_others_refused" [] F = .ok (.bl true) F := (show cf_law "_law_are_others_refused" [] F = g__law_are_others_refused [] F by kernel_rfl).trans (t6 F)
theorem cd (xs : List D) (F : Fd) : cf_law "_law_draw" xs F = g__law_draw xs F := by kernel_rfl
theorem M : Math := fun ns _ => by
  obtain ⟨v, F', e, _, _, _⟩ := draw_ok (F0 .b 63 ns) rfl 2 (by decide) (by decide)
  refine ⟨F', ?_⟩
  have e' := (cd _ _).trans e
  by_cases hv : v = 0
  · subst hv
    simp [runS, evS, evE, evT, evL, evI, tsE, itE, isT, isI, asT, asI, asO, pkV, ent, Ou.toS, Ou.bind, Ou.of, sqS, Fd.fld, Fd.put, fputS, biD, truD, shortD, intP, cD_lt, cD_le, cD_gt, cD_ge, cD_eqi, cD_nei, cD_nil, bD_add, bD_sub, bD_mul, bD_mod, bD_fdiv, bD_pow, I_law, N_law, e', c1, c2, c3, c4, c5, c6]
  · simp [runS, evS, evE, evT, evL, evI, tsE, itE, isT, isI, asT, asI, asO, pkV, ent, Ou.toS, Ou.bind, Ou.of, sqS, Fd.fld, Fd.put, fputS, biD, truD, shortD, intP, cD_lt, cD_le, cD_gt, cD_ge, cD_eqi, cD_nei, cD_nil, bD_add, bD_sub, bD_mul, bD_mod, bD_fdiv, bD_pow, I_law, N_law, e', hv, c1, c2, c3, c4, c5, c6]
end TX
end
open PySem PySem.W PyProof.Rows
set_option maxHeartbeats 0 in
theorem PySem.Challenge.cw_throwshelves_k24_bursts_and_losses_told_holds : PySem.Challenge.rw_throwshelves_k24_bursts_and_losses_told.Holds := by
  w_on; o_law; k_head; (case hw => w_witness2)
  k_fill
  refine TH.walkT (l := PySem.Challenge.rw_throwshelves_k24_bursts_and_losses_told) (n := 63) (k := 11) (x := "_law_script") rfl (by decide) rfl ⟨rfl, by decide, by decide⟩ rfl (fun w h Y => PySem.W.km_in_of Y) (fun w h Y => PySem.W.km_tabs_of Y) ?F
  case F =>
    intro w mg fa h KX G hmg
    refine' TX.all_mk TX.M KX G hmg ?a0 ?l0 ?c0 ?k0 ?a1 ?l1 ?c1 ?k1 ?a2 ?l2 ?c2 ?k2 ?a3 ?l3 ?c3 ?k3 ?a4 ?l4 ?c4 ?k4 ?a5 ?l5 ?c5 ?k5 ?a6 ?l6 ?c6 ?k6 ?a7 ?l7 ?c7 ?k7 ?a8 ?l8 ?c8 ?k8 ?a9 ?l9 ?c9 ?k9 ?a10 ?l10 ?c10 ?k10 ?a11 ?l11 ?c11 ?k11 ?a12 ?l12 ?c12 ?k12 ?a13 ?l13 ?c13 ?k13 ?a14 ?l14 ?c14 ?k14 ?a15 ?l15 ?c15 ?k15 ?a16 ?l16 ?c16 ?k16 ?a17 ?l17 ?c17 ?k17 ?a18 ?l18 ?c18 ?k18 ?a19 ?l19 ?c19 ?k19 ?a20 ?l20 ?c20 ?k20 ?a21 ?l21 ?c21 ?k21 ?a22 ?l22 ?c22 ?k22 ?a23 ?l23 ?c23 ?k23 ?a24 ?l24 ?c24 ?k24 ?a25 ?l25 ?c25 ?k25 ?a26 ?l26 ?c26 ?k26 ?a27 ?l27 ?c27 ?k27 ?a28 ?l28 ?c28 ?k28 ?a29 ?l29 ?c29 ?k29 ?a30 ?l30 ?c30 ?k30 ?a31 ?l31 ?c31 ?k31 ?a32 ?l32 ?c32 ?k32 ?a33 ?l33 ?c33 ?k33 ?a34 ?l34 ?c34 ?k34 ?a35 ?l35 ?c35 ?k35 ?a36 ?l36 ?c36 ?k36 ?a37 ?l37 ?c37 ?k37 ?a38 ?l38 ?c38 ?k38 ?a39 ?l39 ?c39 ?k39 ?a40 ?l40 ?c40 ?k40 ?a41 ?l41 ?c41 ?k41 ?a42 ?l42 ?c42 ?k42 ?a43 ?l43 ?c43 ?k43 ?a44 ?l44 ?c44 ?k44 ?a45 ?l45 ?c45 ?k45 ?a46 ?l46 ?c46 ?k46 ?a47 ?l47 ?c47 ?k47 ?a48 ?l48 ?c48 ?k48 ?q48 ?v48 ?n48 ?m48 ?s48 ?a49 ?l49 ?c49 ?k49 ?q49 ?v49 ?n49 ?m49 ?s49 ?a50 ?l50 ?c50 ?k50 ?q50 ?v50 ?n50 ?m50 ?s50 ?a51 ?l51 ?c51 ?k51 ?a52 ?l52 ?c52 ?k52 ?ne_48_49 ?ne_48_50 ?ne_49_50 ?ca_Barred ?ci_Barred ?ct_Barred ?ca_InvalidPaper ?ci_InvalidPaper ?ct_InvalidPaper ?ca_Lost ?ci_Lost ?ct_Lost ?ca_NotUsable ?ci_NotUsable ?ct_NotUsable ?ca_PaperError ?ci_PaperError ?ct_PaperError ?ca_RingError ?ci_RingError ?ct_RingError ?ca_ShelfError ?ci_ShelfError ?ct_ShelfError ?ca_Torn ?ci_Torn ?ct_Torn ?cb_RingError ?cl_Lost ?cr_Lost ?csa_Lost ?chg_Lost ?chk_Lost ?chs_Lost ?chd_Lost ?cha_Lost ?chm_Lost ?ckc_Lost ?ii_Lost ?iy_Lost ?il_Lost ?ig_Lost ?nf_Lost_at ?nf_Lost_ways ?nf_Lost_within ?nf_Lost_word ?sb_Lost_Barred ?sb_Lost_InvalidPaper ?sb_Lost_Lost ?sb_Lost_NotUsable ?sb_Lost_PaperError ?sb_Lost_RingError ?sb_Lost_ShelfError ?sb_Lost_Torn ?cl_NotUsable ?cr_NotUsable ?csa_NotUsable ?chg_NotUsable ?chk_NotUsable ?chs_NotUsable ?chd_NotUsable ?cha_NotUsable ?chm_NotUsable ?ckc_NotUsable ?ii_NotUsable ?iy_NotUsable ?il_NotUsable ?ig_NotUsable ?nf_NotUsable_at ?nf_NotUsable_ways ?nf_NotUsable_within ?nf_NotUsable_word ?sb_NotUsable_Barred ?sb_NotUsable_InvalidPaper ?sb_NotUsable_Lost ?sb_NotUsable_NotUsable ?sb_NotUsable_PaperError ?sb_NotUsable_RingError ?sb_NotUsable_ShelfError ?sb_NotUsable_Torn ?cl_Torn ?cr_Torn ?csa_Torn ?chg_Torn ?chk_Torn ?chs_Torn ?chd_Torn ?cha_Torn ?chm_Torn ?ckc_Torn ?ii_Torn ?iy_Torn ?il_Torn ?ig_Torn ?nf_Torn_at ?nf_Torn_ways ?nf_Torn_within ?nf_Torn_word ?sb_Torn_Barred ?sb_Torn_InvalidPaper ?sb_Torn_Lost ?sb_Torn_NotUsable ?sb_Torn_PaperError ?sb_Torn_RingError ?sb_Torn_ShelfError ?sb_Torn_Torn ?xn ?xt ?ga_PRIMES ?gl_PRIMES ?gc_PRIMES ?gd_PRIMES ?gz_PRIMES ?gv_PRIMES ?z_len ?z_tuple ?z_list ?z_int ?z_sum ?z_min ?z_max ?z_repr ?z_sorted ?z_all ?z_any ?z_abs ?z_isinstance ?z_bool ?z_str ?z_range ?z_enumerate ?z_zip ?z_set
    (case a0 => k_is); (case l0 => k_is); (case c0 => k_is); (case k0 => k_is); (case a1 => k_is); (case l1 => k_is); (case c1 => k_is); (case k1 => k_is); (case a2 => k_is); (case l2 => k_is); (case c2 => k_is); (case k2 => k_is); (case a3 => k_is); (case l3 => k_is); (case c3 => k_is); (case k3 => k_is); (case a4 => k_is); (case l4 => k_is); (case c4 => k_is); (case k4 => k_is); (case a5 => k_is); (case l5 => k_is); (case c5 => k_is); (case k5 => k_is); (case a6 => k_is); (case l6 => k_is); (case c6 => k_is); (case k6 => k_is); (case a7 => k_is); (case l7 => k_is); (case c7 => k_is); (case k7 => k_is); (case a8 => k_is); (case l8 => k_is); (case c8 => k_is); (case k8 => k_is); (case a9 => k_is); (case l9 => k_is); (case c9 => k_is); (case k9 => k_is); (case a10 => k_is); (case l10 => k_is); (case c10 => k_is); (case k10 => k_is); (case a11 => k_is); (case l11 => k_is); (case c11 => k_is); (case k11 => k_is); (case a12 => k_is); (case l12 => k_is); (case c12 => k_is); (case k12 => k_is); (case a13 => k_is); (case l13 => k_is); (case c13 => k_is); (case k13 => k_is); (case a14 => k_is); (case l14 => k_is); (case c14 => k_is); (case k14 => k_is); (case a15 => k_is); (case l15 => k_is); (case c15 => k_is); (case k15 => k_is); (case a16 => k_is); (case l16 => k_is); (case c16 => k_is); (case k16 => k_is); (case a17 => k_is); (case l17 => k_is); (case c17 => k_is); (case k17 => k_is); (case a18 => k_is); (case l18 => k_is); (case c18 => k_is); (case k18 => k_is); (case a19 => k_is); (case l19 => k_is); (case c19 => k_is); (case k19 => k_is); (case a20 => k_is); (case l20 => k_is); (case c20 => k_is); (case k20 => k_is); (case a21 => k_is); (case l21 => k_is); (case c21 => k_is); (case k21 => k_is); (case a22 => k_is); (case l22 => k_is); (case c22 => k_is); (case k22 => k_is); (case a23 => k_is); (case l23 => k_is); (case c23 => k_is); (case k23 => k_is); (case a24 => k_is); (case l24 => k_is); (case c24 => k_is); (case k24 => k_is); (case a25 => k_is); (case l25 => k_is); (case c25 => k_is); (case k25 => k_is); (case a26 => k_is); (case l26 => k_is); (case c26 => k_is); (case k26 => k_is); (case a27 => k_is); (case l27 => k_is); (case c27 => k_is); (case k27 => k_is); (case a28 => k_is); (case l28 => k_is); (case c28 => k_is); (case k28 => k_is); (case a29 => k_is); (case l29 => k_is); (case c29 => k_is); (case k29 => k_is); (case a30 => k_is); (case l30 => k_is); (case c30 => k_is); (case k30 => k_is); (case a31 => k_is); (case l31 => k_is); (case c31 => k_is); (case k31 => k_is); (case a32 => k_is); (case l32 => k_is); (case c32 => k_is); (case k32 => k_is); (case a33 => k_is); (case l33 => k_is); (case c33 => k_is); (case k33 => k_is); (case a34 => k_is); (case l34 => k_is); (case c34 => k_is); (case k34 => k_is); (case a35 => k_is); (case l35 => k_is); (case c35 => k_is); (case k35 => k_is); (case a36 => k_is); (case l36 => k_is); (case c36 => k_is); (case k36 => k_is); (case a37 => k_is); (case l37 => k_is); (case c37 => k_is); (case k37 => k_is); (case a38 => k_is); (case l38 => k_is); (case c38 => k_is); (case k38 => k_is); (case a39 => k_is); (case l39 => k_is); (case c39 => k_is); (case k39 => k_is); (case a40 => k_is); (case l40 => k_is); (case c40 => k_is); (case k40 => k_is); (case a41 => k_is); (case l41 => k_is); (case c41 => k_is); (case k41 => k_is); (case a42 => k_is); (case l42 => k_is); (case c42 => k_is); (case k42 => k_is); (case a43 => k_is); (case l43 => k_is); (case c43 => k_is); (case k43 => k_is); (case a44 => k_is); (case l44 => k_is); (case c44 => k_is); (case k44 => k_is); (case a45 => k_is); (case l45 => k_is); (case c45 => k_is); (case k45 => k_is); (case a46 => k_is); (case l46 => k_is); (case c46 => k_is); (case k46 => k_is); (case a47 => k_is); (case l47 => k_is); (case c47 => k_is); (case k47 => k_is); (case a48 => k_is); (case l48 => k_is); (case c48 => k_is); (case k48 => k_is); (case q48 => k_is); (case v48 => rfl); (case n48 => kernel_rfl); (case m48 => kernel_rfl); (case s48 => decide); (case a49 => k_is); (case l49 => k_is); (case c49 => k_is); (case k49 => k_is); (case q49 => k_is); (case v49 => rfl); (case n49 => kernel_rfl); (case m49 => kernel_rfl); (case s49 => decide); (case a50 => k_is); (case l50 => k_is); (case c50 => k_is); (case k50 => k_is); (case q50 => k_is); (case v50 => rfl); (case n50 => kernel_rfl); (case m50 => kernel_rfl); (case s50 => decide); (case a51 => k_is); (case l51 => k_is); (case c51 => k_is); (case k51 => k_is); (case a52 => k_is); (case l52 => k_is); (case c52 => k_is); (case k52 => k_is); (case ne_48_49 => decide); (case ne_48_50 => decide); (case ne_49_50 => decide); (case ca_Barred => k_is); (case ci_Barred => k_is); (case ct_Barred => k_is); (case ca_InvalidPaper => k_is); (case ci_InvalidPaper => k_is); (case ct_InvalidPaper => k_is); (case ca_Lost => k_is); (case ci_Lost => k_is); (case ct_Lost => k_is); (case ca_NotUsable => k_is); (case ci_NotUsable => k_is); (case ct_NotUsable => k_is); (case ca_PaperError => k_is); (case ci_PaperError => k_is); (case ct_PaperError => k_is); (case ca_RingError => k_is); (case ci_RingError => k_is); (case ct_RingError => k_is); (case ca_ShelfError => k_is); (case ci_ShelfError => k_is); (case ct_ShelfError => k_is); (case ca_Torn => k_is); (case ci_Torn => k_is); (case ct_Torn => k_is); (case cb_RingError => k_is); (case cl_Lost => k_is); (case cr_Lost => rfl); (case csa_Lost => k_is); (case chg_Lost => k_is); (case chk_Lost => k_is); (case chs_Lost => k_is); (case chd_Lost => k_is); (case cha_Lost => k_is); (case chm_Lost => k_is); (case ckc_Lost => k_is); (case ii_Lost => k_is); (case iy_Lost => k_is); (case il_Lost => k_is); (case ig_Lost => k_is); (case nf_Lost_at => k_is); (case nf_Lost_ways => k_is); (case nf_Lost_within => k_is); (case nf_Lost_word => k_is); (case sb_Lost_Barred => k_is); (case sb_Lost_InvalidPaper => k_is); (case sb_Lost_Lost => k_is); (case sb_Lost_NotUsable => k_is); (case sb_Lost_PaperError => k_is); (case sb_Lost_RingError => k_is); (case sb_Lost_ShelfError => k_is); (case sb_Lost_Torn => k_is); (case cl_NotUsable => k_is); (case cr_NotUsable => rfl); (case csa_NotUsable => k_is); (case chg_NotUsable => k_is); (case chk_NotUsable => k_is); (case chs_NotUsable => k_is); (case chd_NotUsable => k_is); (case cha_NotUsable => k_is); (case chm_NotUsable => k_is); (case ckc_NotUsable => k_is); (case ii_NotUsable => k_is); (case iy_NotUsable => k_is); (case il_NotUsable => k_is); (case ig_NotUsable => k_is); (case nf_NotUsable_at => k_is); (case nf_NotUsable_ways => k_is); (case nf_NotUsable_within => k_is); (case nf_NotUsable_word => k_is); (case sb_NotUsable_Barred => k_is); (case sb_NotUsable_InvalidPaper => k_is); (case sb_NotUsable_Lost => k_is); (case sb_NotUsable_NotUsable => k_is); (case sb_NotUsable_PaperError => k_is); (case sb_NotUsable_RingError => k_is); (case sb_NotUsable_ShelfError => k_is); (case sb_NotUsable_Torn => k_is); (case cl_Torn => k_is); (case cr_Torn => rfl); (case csa_Torn => k_is); (case chg_Torn => k_is); (case chk_Torn => k_is); (case chs_Torn => k_is); (case chd_Torn => k_is); (case cha_Torn => k_is); (case chm_Torn => k_is); (case ckc_Torn => k_is); (case ii_Torn => k_is); (case iy_Torn => k_is); (case il_Torn => k_is); (case ig_Torn => k_is); (case nf_Torn_at => k_is); (case nf_Torn_ways => k_is); (case nf_Torn_within => k_is); (case nf_Torn_word => k_is); (case sb_Torn_Barred => k_is); (case sb_Torn_InvalidPaper => k_is); (case sb_Torn_Lost => k_is); (case sb_Torn_NotUsable => k_is); (case sb_Torn_PaperError => k_is); (case sb_Torn_RingError => k_is); (case sb_Torn_ShelfError => k_is); (case sb_Torn_Torn => k_is); (case xn => k_is); (case xt => k_is); (case ga_PRIMES => k_is); (case gl_PRIMES => k_is); (case gc_PRIMES => rfl); (case gd_PRIMES => rfl); (case gz_PRIMES => decide); (case gv_PRIMES => (exact .cons ⟨_, rfl⟩ (.cons ⟨_, rfl⟩ (.cons ⟨_, rfl⟩ (.cons ⟨_, rfl⟩ (.cons ⟨_, rfl⟩ (.cons ⟨_, rfl⟩ (.nil)))))))); (case z_len => k_is); (case z_tuple => k_is); (case z_list => k_is); (case z_int => k_is); (case z_sum => k_is); (case z_min => k_is); (case z_max => k_is); (case z_repr => k_is); (case z_sorted => k_is); (case z_all => k_is); (case z_any => k_is); (case z_abs => k_is); (case z_isinstance => k_is); (case z_bool => k_is); (case z_str => k_is); (case z_range => k_is); (case z_enumerate => k_is); (case z_zip => k_is); (case z_set => k_is)
