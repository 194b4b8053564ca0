import PyProof.Rows.All
import Wide.All
import OpenK.AllK
import Wide.FinOn
import Lean
import PyProof.EqAt
import PyProof.EqKinds
import PyProof.TupleCall
import PyProof.ReprRoads
import PyProof.ReprBulk
import PyProof.EnumMake
import PyProof.EnumFor
import KE.KRevSl
import KE.KDictList
import PyProof.ZipIter
import PyProof.AttrMissHeap
import KE.KDictOf
import KE.KItemsList
import PyProof.Rows.ZipGen
import PyProof.CallFns
import PySem.Challenge.RW_parentlines_k13_whole_told_row_says_noth
set_option Elab.async false
set_option linter.all false
set_option maxRecDepth 100000
set_option maxHeartbeats 4000000
-- CHANGE: your row's module here, as the last of these rows
/-! THE HAND LAYER, for ints, bools, texts, own classes, LISTS and tuples (index, slices, in, append, pop ..), calls, loops. Paste it whole ahead of your own text; what your proof does not reach may be deleted. -/
namespace L2
open PySem PySem.Spec PyProof.Rows

/-- a key: an int or a str -/
abbrev Key := Sum Int Str
def keyIs : Key → Value → Bool
  | .inl k, v => Value.isInt k v
  | .inr x, v => Value.isStrOf x v
def keyH (w : World) : Key → Int
  | .inl k => hashInt k
  | .inr x => hashStr w x
theorem keyIs_shape : ∀ {k : Key} {v : Value}, keyIs k v = true → (∃ i t, k = Sum.inl i ∧ v = Value.int i t) ∨ (∃ x t, k = Sum.inr x ∧ v = Value.str x t)
  | .inl i, v, h => by
    obtain ⟨t, e⟩ := Value.isInt_shape (k := i) (v := v) h
    exact .inl ⟨i, t, rfl, e⟩
  | .inr x, v, h => by
    obtain ⟨t, e⟩ := Value.isStrOf_shape (x := x) (v := v) h
    exact .inr ⟨x, t, rfl, e⟩
theorem keyIs_int (i : Int) (t : Tok) : keyIs (.inl i) (.int i t) = true := by simp [keyIs, Value.isInt]
theorem keyIs_str (x : Str) (t : Tok) : keyIs (.inr x) (.str x t) = true := by simp [keyIs, Value.isStrOf]
theorem key_ll (a b : Int) : decide ((Sum.inl a : Key) = Sum.inl b) = (a == b) := by
  by_cases e : a = b
  · subst e; simp
  · have h : ¬ (Sum.inl a : Key) = Sum.inl b := fun q => e (Sum.inl.inj q)
    rw [decide_eq_false h]
    exact (beq_eq_false_iff_ne.mpr e).symm
theorem key_rr (a b : Str) : decide ((Sum.inr a : Key) = Sum.inr b) = decide (a = b) := by
  by_cases e : a = b
  · subst e; simp
  · have h : ¬ (Sum.inr a : Key) = Sum.inr b := fun q => e (Sum.inr.inj q)
    rw [decide_eq_false h, decide_eq_false e]
theorem key_lr (a : Int) (b : Str) : decide ((Sum.inl a : Key) = Sum.inr b) = false := decide_eq_false (fun q => nomatch q)
theorem key_rl (a : Str) (b : Int) : decide ((Sum.inr a : Key) = Sum.inl b) = false := decide_eq_false (fun q => nomatch q)

def mixKind (prog : Program) (w : World) : PySem.KeyKind prog w Key where
  is := keyIs
  hash := keyH w
  inj := fun v a b ha hb => by
    rcases keyIs_shape ha with ⟨i, t, rfl, rfl⟩ | ⟨x, t, rfl, rfl⟩
    · rcases keyIs_shape hb with ⟨j, u, rfl, e⟩ | ⟨y, u, rfl, e⟩
      · injection e with e1 _; rw [e1]
      · exact nomatch e
    · rcases keyIs_shape hb with ⟨j, u, rfl, e⟩ | ⟨y, u, rfl, e⟩
      · exact nomatch e
      · injection e with e1 _; rw [e1]
  byValue := fun k v h => by
    rcases keyIs_shape h with ⟨i, t, rfl, rfl⟩ | ⟨x, t, rfl, rfl⟩ <;> rfl
  pyHash := fun hv h => by
    rcases keyIs_shape hv with ⟨i, t, rfl, rfl⟩ | ⟨x, t, rfl, rfl⟩
    · exact wpAny_pyHash_int h
    · exact wpAny_pyHash_str h
  eqBool := fun hu hv h => by
    rcases keyIs_shape hu with ⟨i, t, rfl, rfl⟩ | ⟨x, t, rfl, rfl⟩
    · rcases keyIs_shape hv with ⟨j, u, rfl, rfl⟩ | ⟨y, u, rfl, rfl⟩
      · rw [key_ll] at h; exact wpAny_eqBool_int h
      · rw [key_lr] at h; exact SeqAt.EqAt.int_str i t y u _ _ _ _ h
    · rcases keyIs_shape hv with ⟨j, u, rfl, rfl⟩ | ⟨y, u, rfl, rfl⟩
      · rw [key_rl] at h; exact SeqAt.EqAt.str_int x t j u _ _ _ _ h
      · rw [key_rr] at h; exact wpAny_eqBool_str h
  «strs» := fun k x t v h => by
    rcases keyIs_shape h with ⟨i, u, rfl, e⟩ | ⟨y, u, rfl, e⟩
    · exact nomatch e
    · injection e with e1 _
      subst e1
      cases v <;> rfl

theorem mixKind_is (prog : Program) (w : World) (k : Key) (v : Value) : (mixKind prog w).is k v = keyIs k v := rfl
theorem mixKind_int (prog : Program) (w : World) (i : Int) (t : Tok) : (mixKind prog w).is (.inl i) (.int i t) = true := keyIs_int i t
theorem mixKind_str (prog : Program) (w : World) (x : Str) (t : Tok) : (mixKind prog w).is (.inr x) (.str x t) = true := keyIs_str x t
end L2

namespace L2
open PySem PySem.Spec PyProof.Rows

/-- a value, without the heap -/
inductive V where
  | non | bl (b : Bool) | int (i : Int) | str (x : Str) | byt (b : Array UInt8) | flt (b : UInt64) | ref (a : Addr) | ty (n : String)
  deriving DecidableEq

def RelV : V → Value → Prop
  | .non, u => u = Value.none
  | .bl b, u => u = Value.bool b
  | .int i, u => ∃ t, u = Value.int i t
  | .str x, u => ∃ t, u = Value.str x t
  | .byt b, u => ∃ t, u = Value.bytes b t
  | .flt b, u => ∃ t, u = Value.float b t
  | .ref a, u => u = Value.ref a
  | .ty n, u => u = Value.type n

abbrev Vals : List V → List Value → Prop := Paired RelV
theorem Vals.length {xs : List V} {us : List Value} (r : Vals xs us) : xs.length = us.length := Paired.length r
theorem Vals.get : ∀ {xs : List V} {us : List Value} {i : Nat} {x : V}, Vals xs us → xs[i]? = some x → ∃ u, us[i]? = some u ∧ RelV x u
  | _, _, _, _, .nil, e => by simp at e
  | _, _, 0, _, .cons r _, e => by simp at e; subst e; exact ⟨_, rfl, r⟩
  | _, _, i + 1, x, .cons _ t, e => by
    obtain ⟨u, h1, h2⟩ := Vals.get (i := i) (x := x) t (by simpa using e)
    exact ⟨u, by simpa using h1, h2⟩
theorem Vals.set {x : V} {u : Value} (r : RelV x u) : ∀ {xs : List V} {us : List Value} (i : Nat), Vals xs us → Vals (xs.set i x) (us.set i u)
  | _, _, _, .nil => .nil
  | _, _, 0, .cons _ t => .cons r t
  | _, _, i + 1, .cons q t => .cons q (Vals.set r i t)
theorem Vals.append : ∀ {xs ys : List V} {us ws : List Value}, Vals xs us → Vals ys ws → Vals (xs ++ ys) (us ++ ws)
  | _, _, _, _, .nil, s => s
  | _, _, _, _, .cons r t, s => .cons r (Vals.append t s)
theorem Vals.take : ∀ {xs : List V} {us : List Value} (n : Nat), Vals xs us → Vals (xs.take n) (us.take n)
  | _, _, 0, _ => .nil
  | _, _, _ + 1, .nil => .nil
  | _, _, n + 1, .cons r t => .cons r (Vals.take n t)
theorem Vals.drop : ∀ {xs : List V} {us : List Value} (n : Nat), Vals xs us → Vals (xs.drop n) (us.drop n)
  | _, _, 0, r => r
  | _, _, _ + 1, .nil => .nil
  | _, _, n + 1, .cons _ t => Vals.drop n t
theorem Vals.none_of : ∀ {xs : List V} {us : List Value} {i : Nat}, Vals xs us → xs[i]? = none → us[i]? = none := fun {xs us i} r e => by
  have h1 := r.length
  have h2 : xs.length ≤ i := List.getElem?_eq_none_iff.mp e
  exact List.getElem?_eq_none_iff.mpr (by omega)

def RelO : Option V → Option Value → Prop
  | some v, some u => RelV v u
  | none, none => True
  | _, _ => False
def KV {κ : Type} : List (κ × V) → List (κ × Value) → Prop := Paired fun (p : κ × V) (q : κ × Value) => p.1 = q.1 ∧ RelV p.2 q.2

/-- a key of a dict (00_mix): an int or a text -/
def kV : Key → V
  | .inl i => .int i
  | .inr x => .str x

/-- what stands at a tracked address -/
inductive HO where
  /-- a list -/
  | lst (xs : List V)
  /-- a tuple (never changes) -/
  | tup (xs : List V)
  /-- a dict whose keys are ints and texts; one whose keys are tuples of ints and texts (the empty one is both) -/
  | dK (kvs : List (Key × V)) | dT (kvs : List (List Key × V))
  /-- a set of ints: its members, its size -/
  | set (S : Int → Bool) (n : Nat)
  /-- an instance of the class at C, its dict at dx, its attributes -/
  | ins (C dx : Addr) (fs : List (Str × V))
  /-- the dict of the instance at x -/
  | own (x : Addr)
  /-- the dict of an exception -/
  | xd (fs : List (Str × V))
  /-- a bound method, f of x -/
  | met (f x : Addr)
  /-- a range object lo, lo + 1, .. below hi -/
  | rng (lo hi : Int)
  /-- a thing that is known to the object (the script; a dict while a loop walks it): read, never written while it is so -/
  | frz (o : Obj) (u : HO)
  /-- a code object's table -/
  | tbl (ps : Array Value)
  /-- any other thing, by what is true of its one object (a def of one's own: SetO a S n := HO.ext fun h => ..) -/
  | ext (φ : Heap → Prop)

abbrev Hp := Addr → Option HO
def upd (H : Hp) (a : Addr) (o : HO) : Hp := fun b => if b = a then some o else H b
theorem upd_same {H : Hp} {a : Addr} {o : HO} : upd H a o a = some o := by unfold upd; rw [if_pos rfl]
theorem upd_ne {H : Hp} {a b : Addr} {o : HO} (h : b ≠ a) : upd H a o b = H b := by unfold upd; rw [if_neg h]
theorem upd_upd {H : Hp} {a : Addr} {o u : HO} : upd (upd H a o) a u = upd H a u := by
  funext b; unfold upd; split <;> rfl
/-- two objects of different content stand apart -/
theorem ne_of {H : Hp} {a b : Addr} {o u : HO} (h : H a = some o) (h' : H b = some u) (d : o ≠ u) : a ≠ b := by
  intro e; subst e; rw [h] at h'; exact d (Option.some.inj h')
theorem ne_of_none {H : Hp} {a b : Addr} {o : HO} (h : H a = some o) (h' : H b = none) : a ≠ b := by
  intro e; subst e; rw [h] at h'; cases h'

section
variable (P : Program) (w : World)
def ObjOk (H : Hp) (h : Heap) (a : Addr) : HO → Prop
  | .lst xs => xs.length ≤ sizeLine ∧ ∃ (its : List Value) (n : Nat), Vals xs its ∧ h.get? a = some { cls := .type "list", data := .seq its.toArray n }
  | .tup xs => xs.length ≤ sizeLine ∧ ∃ its : List Value, Vals xs its ∧ IsTup h a its.toArray
  | .dK kvs => kvs.length ≤ sizeLine ∧ (a == sysModules) = false ∧ ∃ vs, KV kvs vs ∧ h.DictOf (mixKind P w) a vs
  | .dT kvs => kvs.length ≤ sizeLine ∧ (a == sysModules) = false ∧ ∃ xs : List (List Key × Addr × Value),
      Paired (fun (p : List Key × V) (q : List Key × Addr × Value) => p.1 = q.1 ∧ H q.2.1 = some (.tup (p.1.map kV)) ∧ RelV p.2 q.2.2) kvs xs ∧
      ∃ o es ep, h.get? a = some o ∧ o.ExactDict ∧ o.data = .dict es ep ∧ es.toList = xs.map (entryOfKey (tupleKind (mixKind P w))) ∧ (xs.map (·.1)).Nodup
  | .set S n => h.SetOf (intKind P w) a S n
  | .ins C dx fs => H dx = some (.own a) ∧ fs.length ≤ 1000 ∧ dx ≠ a ∧ h.get? a = some (PySem.W.instObj C dx) ∧
      ∃ mA, h.Ns1 dx mA ∧ (∀ f, RelO (fs.lookup f) (mA f)) ∧ PySem.Within mA (fs.map (·.1))
  | .own _ => ∃ o, h.get? a = some o
  | .xd fs => ∃ mA, h.Ns1 a mA ∧ ∀ f, RelO (fs.lookup f) (mA f)
  | .rng lo hi => ∃ t u v, h.get? a = some { cls := .type "range", data := .fields #[.int lo t, .int hi u, .int 1 v] }
  | .frz o u => h.get? a = some o ∧ ObjOk H h a u
  | .tbl ps => h.get? a = some { cls := .none, data := .fields ps }
  | .met f x => h.get? a = some (PySem.W.methodObj (.ref f) (.ref x))
  | .ext φ => φ h ∧ (∃ o, h.get? a = some o) ∧ ∀ h1 h2 : Heap, φ h1 → (∀ o, h1.get? a = some o → h2.get? a = some o) → φ h2
/-- the abstract heap is held -/
def HOk (H : Hp) (h : Heap) : Prop := ∀ a o, H a = some o → ObjOk P w H h a o
end

section
variable {P : Program} {w : World} {H H' : Hp} {h h' : Heap} {a : Addr} {o : HO}
theorem ObjOk.lt (x : ObjOk P w H h a o) : a < h.objs.size := by
  cases o with
  | lst xs => obtain ⟨_, _, _, _, e⟩ := x; exact Heap.lt_size e
  | tup xs => obtain ⟨_, _, _, p⟩ := x; exact p.lt
  | dK kvs => obtain ⟨_, _, _, _, o, _, _, e, _⟩ := x; exact Heap.lt_size e
  | dT kvs => obtain ⟨_, _, _, _, o, _, _, e, _⟩ := x; exact Heap.lt_size e
  | set S n => obtain ⟨o, _, _, _, e, _⟩ := x; exact Heap.lt_size e
  | ins C dx fs => obtain ⟨_, _, _, e, _⟩ := x; exact Heap.lt_size e
  | own y => obtain ⟨_, e⟩ := x; exact Heap.lt_size e
  | xd fs => obtain ⟨_, ⟨_, _, _, e, _⟩, _⟩ := x; exact Heap.lt_size e
  | rng lo hi => obtain ⟨_, _, _, e⟩ := x; exact Heap.lt_size e
  | frz ob u => obtain ⟨e, _⟩ := x; exact Heap.lt_size e
  | tbl ps => exact Heap.lt_size (show h.get? a = some _ from x)
  | met f y => exact Heap.lt_size (show h.get? a = some _ from x)
  | ext φ => obtain ⟨_, ⟨_, e⟩, _⟩ := x; exact Heap.lt_size e
theorem Paired.mapP {α β : Type} {F G : α → β → Prop} : ∀ {l₁ : List α} {l₂ : List β}, Paired F l₁ l₂ → (∀ a b, F a b → G a b) → Paired G l₁ l₂
  | _, _, .nil, _ => .nil
  | _, _, .cons r t, f => .cons (f _ _ r) (Paired.mapP t f)
theorem Paired.imp' {α β : Type} {F G : α → β → Prop} (f : ∀ a b, F a b → G a b) {l₁ : List α} {l₂ : List β} (r : Paired F l₁ l₂) : Paired G l₁ l₂ := Paired.mapP r f
/-- what an object's description leans on: its own object, its own dict, the tuples -/
theorem ObjOk.stay (x : ObjOk P w H h a o) (k : ∀ b u, (b = a ∨ H b = some (.own a)) → h.get? b = some u → h'.get? b = some u)
    (ho : ∀ b, H b = some (.own a) → H' b = some (.own a)) (ht : ∀ b xs, H b = some (.tup xs) → H' b = some (.tup xs)) : ObjOk P w H' h' a o := by
  induction o with
  | lst xs => obtain ⟨z, its, n, r, e⟩ := x; exact ⟨z, its, n, r, k _ _ (.inl rfl) e⟩
  | tup xs => obtain ⟨z, its, r, ob, e, c⟩ := x; exact ⟨z, its, r, ob, k _ _ (.inl rfl) e, c⟩
  | dK kvs => obtain ⟨z, y, vs, r, ob, es, ep, e, c⟩ := x; exact ⟨z, y, vs, r, ob, es, ep, k _ _ (.inl rfl) e, c⟩
  | dT kvs =>
    obtain ⟨z, y, xs, r, ob, es, ep, e, c⟩ := x
    exact ⟨z, y, xs, Paired.mapP r fun p q z => ⟨z.1, ht _ _ z.2.1, z.2.2⟩, ob, es, ep, k _ _ (.inl rfl) e, c⟩
  | set S n => obtain ⟨ob, es, ep, t, e, c⟩ := x; exact ⟨ob, es, ep, t, k _ _ (.inl rfl) e, c⟩
  | ins C dx fs =>
    obtain ⟨d, z, ne, e, mA, ⟨od, es, ep, e2, c⟩, r⟩ := x
    exact ⟨ho _ d, z, ne, k _ _ (.inl rfl) e, mA, ⟨od, es, ep, k _ _ (.inr d) e2, c⟩, r⟩
  | own y => obtain ⟨ob, e⟩ := x; exact ⟨ob, k _ _ (.inl rfl) e⟩
  | xd fs => obtain ⟨mA, ⟨od, es, ep, e, c⟩, r⟩ := x; exact ⟨mA, ⟨od, es, ep, k _ _ (.inl rfl) e, c⟩, r⟩
  | rng lo hi => obtain ⟨t, u, v, e⟩ := x; exact ⟨t, u, v, k _ _ (.inl rfl) e⟩
  | frz ob u ih => obtain ⟨e, q⟩ := x; exact ⟨k _ _ (.inl rfl) e, ih q⟩
  | tbl ps =>
    have e : h.get? a = some { cls := .none, data := .fields ps } := x
    show h'.get? a = some { cls := .none, data := .fields ps }
    exact k a _ (.inl rfl) e
  | met f y =>
    have e : h.get? a = some (PySem.W.methodObj (.ref f) (.ref y)) := x
    show h'.get? a = some (PySem.W.methodObj (.ref f) (.ref y))
    exact k a _ (.inl rfl) e
  | ext φ => obtain ⟨p, ⟨o, e⟩, st⟩ := x; exact ⟨st _ _ p fun o q => k _ _ (.inl rfl) q, ⟨o, k _ _ (.inl rfl) e⟩, st⟩
theorem HOk.lt (x : HOk P w H h) (e : H a = some o) : a < h.objs.size := (x a o e).lt
theorem HOk.fresh (x : HOk P w H h) (e : h.objs.size ≤ a) : H a = none := by
  cases q : H a with
  | none => rfl
  | some u => exact absurd (Nat.lt_of_lt_of_le (x.lt q) e) (Nat.lt_irrefl _)
/-- every object of the heap is kept -/
theorem HOk.kept (x : HOk P w H h) (k : ∀ b u, h.get? b = some u → h'.get? b = some u) : HOk P w H h' := fun a o e =>
  (x a o e).stay (fun b u _ q => k b u q) (fun _ q => q) fun _ _ q => q
/-- a new object is laid and tracked -/
theorem HOk.laid (x : HOk P w H h) (k : ∀ b u, h.get? b = some u → h'.get? b = some u) (hp : h.objs.size ≤ a) (new : ObjOk P w (upd H a o) h' a o) : HOk P w (upd H a o) h' := fun b u e => by
  have hn := x.fresh hp
  by_cases hb : b = a
  · subst hb; rw [upd_same] at e; cases e; exact new
  · rw [upd_ne hb] at e
    exact (x b u e).stay (fun c v _ q => k c v q) (fun c q => by rw [upd_ne (ne_of_none q hn)]; exact q) fun c xs q => by rw [upd_ne (ne_of_none q hn)]; exact q
end

/-- what may be read as u: it is u, or a known u -/
def Rd (H : Hp) (a : Addr) (u : HO) : Prop := H a = some u ∨ ∃ o, H a = some (.frz o u)
theorem Rd.of {H : Hp} {a : Addr} {u : HO} (h : H a = some u) : Rd H a u := .inl h
theorem Rd.ok {P : Program} {w : World} {H : Hp} {h : Heap} {a : Addr} {u : HO} (r : Rd H a u) (x : HOk P w H h) : ObjOk P w H h a u := by
  rcases r with r | ⟨o, r⟩
  · exact x a u r
  · obtain ⟨_, q⟩ := x a _ r
    exact q
/-- what may be written -/
def Mut : Option HO → Prop
  | some (.lst _) => True
  | some (.dK _) => True
  | some (.dT _) => True
  | some (.set _ _) => True
  | some (.ins _ _ _) => True
  | some (.ext _) => True
  | _ => False
section
variable {P : Program} {w : World} {H : Hp} {h h' : Heap} {x e : Addr} {o' : HO}
/-- the object at e is changed: x itself, or the dict of the instance x -/
theorem HOk.write (ok : HOk P w H h) (mu : Mut (H x)) (he : e = x ∨ H e = some (.own x)) (k : ∀ b u, b ≠ e → h.get? b = some u → h'.get? b = some u) (heo : ∃ u, h'.get? e = some u)
    (new : ObjOk P w (upd H x o') h' x o') : HOk P w (upd H x o') h' := fun b u q => by
  have nown : ∀ c y, H c = some (.own y) → c ≠ x := fun c y r z => by subst z; rw [r] at mu; exact mu
  have ntup : ∀ c xs, H c = some (.tup xs) → c ≠ x := fun c xs r z => by subst z; rw [r] at mu; exact mu
  by_cases hb : b = x
  · subst hb; rw [upd_same] at q; cases q; exact new
  · rw [upd_ne hb] at q
    by_cases hbe : b = e
    · have q' : H b = some (.own x) := by
        rcases he with z | z
        · exact absurd (hbe.trans z) hb
        · rw [hbe]; exact z
      rw [q] at q'; cases q'
      obtain ⟨v, hv⟩ := heo
      exact ⟨v, by rw [hbe]; exact hv⟩
    · refine (ok b u q).stay (fun c v hc r => k c v ?_ r) (fun c r => by rw [upd_ne (nown c b r)]; exact r) fun c xs r => by rw [upd_ne (ntup c xs r)]; exact r
      rcases hc with rfl | hc
      · exact hbe
      · rintro rfl
        rcases he with z | z
        · exact nown c b hc z
        · rw [hc] at z; cases z; exact hb rfl
end

/-! ### kept unless tracked; of the frames at fs (the callers') the slots may change (an exception that passes writes there); of the records at ex (iterators) nothing is said -/
structure Un (fs ex : List Addr) (H H' : Hp) (h h' : Heap) : Prop where
  keep : ∀ b o, h.get? b = some o → H b = none → b ∉ fs → b ∉ ex → h'.get? b = some o
  slot : ∀ b o, h.get? b = some o → H b = none → b ∈ fs → b ∉ ex → ∃ sl, h'.get? b = some { o with slots := sl }
  free : ∀ b o, h.get? b = some o → H b = none → b ∉ ex → H' b = none
  there : ∀ b o, h.get? b = some o → b ∉ ex → ∃ o', h'.get? b = some o'
  tups : ∀ b xs, H b = some (.tup xs) → H' b = some (.tup xs)
  frzs : ∀ b o u, H b = some (.frz o u) → H' b = some (.frz o u)
  tbls : ∀ b ps, H b = some (.tbl ps) → ∃ more, H' b = some (.tbl (ps ++ more))
section
variable {fs fs' ex ex' : List Addr} {H H1 H2 : Hp} {h h1 h2 h' : Heap} {a x e : Addr} {o : HO}
theorem Un.any (u : Un fs ex H H1 h h1) {b : Addr} {ob : Obj} (q : h.get? b = some ob) (n : H b = none) (hx : b ∉ ex) : ∃ sl, h1.get? b = some { ob with slots := sl } := by
  by_cases hb : b ∈ fs
  · exact u.slot b ob q n hb hx
  · exact ⟨ob.slots, u.keep b ob q n hb hx⟩
theorem Un.trans (a : Un fs ex H H1 h h1) (b : Un fs ex H1 H2 h1 h2) : Un fs ex H H2 h h2 where
  keep := fun c ob q n hc hx => b.keep c ob (a.keep c ob q n hc hx) (a.free c ob q n hx) hc hx
  slot := fun c ob q n hc hx => by
    obtain ⟨sl, e1⟩ := a.slot c ob q n hc hx
    obtain ⟨sl', e2⟩ := b.slot c _ e1 (a.free c ob q n hx) hc hx
    exact ⟨sl', e2⟩
  free := fun c ob q n hx => by
    obtain ⟨o', e1⟩ := a.there c ob q hx
    exact b.free c o' e1 (a.free c ob q n hx) hx
  there := fun c ob q hx => by
    obtain ⟨o', e1⟩ := a.there c ob q hx
    exact b.there c o' e1 hx
  tups := fun c xs q => b.tups c xs (a.tups c xs q)
  frzs := fun c ob xs q => b.frzs c ob xs (a.frzs c ob xs q)
  tbls := fun c ps q => by
    obtain ⟨m1, e1⟩ := a.tbls c ps q
    obtain ⟨m2, e2⟩ := b.tbls c _ e1
    exact ⟨m1 ++ m2, by rw [e2, Array.append_assoc]⟩
theorem Un.kept (k : ∀ b u, h.get? b = some u → h'.get? b = some u) : Un fs ex H H h h' :=
  ⟨fun b ob q _ _ _ => k b ob q, fun b ob q _ _ _ => ⟨ob.slots, k b ob q⟩, fun _ _ _ n _ => n, fun b ob q _ => ⟨ob, k b ob q⟩, fun _ _ q => q, fun _ _ _ q => q, fun _ ps q => ⟨#[], by rw [q]; simp⟩⟩
theorem Un.refl : Un fs ex H H h h := Un.kept fun _ _ q => q
theorem Un.laid (k : ∀ b u, h.get? b = some u → h'.get? b = some u) (hp : h.objs.size ≤ a) (hn : H a = none) : Un fs ex H (upd H a o) h h' where
  keep := fun b u q _ _ _ => k b u q
  slot := fun b u q _ _ _ => ⟨u.slots, k b u q⟩
  free := fun b u q n _ => by rw [upd_ne (Nat.ne_of_lt (Nat.lt_of_lt_of_le (Heap.lt_size q) hp))]; exact n
  there := fun b u q _ => ⟨u, k b u q⟩
  tups := fun b xs q => by rw [upd_ne (ne_of_none q hn)]; exact q
  frzs := fun b u xs q => by rw [upd_ne (ne_of_none q hn)]; exact q
  tbls := fun b ps q => ⟨#[], by rw [upd_ne (ne_of_none q hn), q]; simp⟩
theorem Un.write (mu : Mut (H x)) (he : e = x ∨ H e = some (.own x)) (k : ∀ b u, b ≠ e → h.get? b = some u → h'.get? b = some u) (heo : ∃ u, h'.get? e = some u) : Un fs ex H (upd H x o) h h' := by
  have hx : ∀ b, H b = none → b ≠ x := fun b n z => by subst z; rw [n] at mu; exact mu
  have hb : ∀ b, H b = none → b ≠ e := fun b n z => by
    subst z
    rcases he with r | r
    · exact hx b n r
    · rw [n] at r; cases r
  have hm : ∀ b u, H b = some u → ¬ Mut (some u) → b ≠ x := fun b u q nm z => by subst z; rw [q] at mu; exact nm mu
  refine ⟨fun b u q n _ _ => k b u (hb b n) q, fun b u q n _ _ => ⟨u.slots, k b u (hb b n) q⟩, fun b u q n _ => by rw [upd_ne (hx b n)]; exact n, fun b u q _ => ?_,
    fun b xs q => by rw [upd_ne (hm b _ q fun z => z)]; exact q, fun b u xs q => by rw [upd_ne (hm b _ q fun z => z)]; exact q, fun b ps q => ⟨#[], by rw [upd_ne (hm b _ q fun z => z), q]; simp⟩⟩
  by_cases hbe : b = e
  · subst hbe; exact heo
  · exact ⟨u, k b u hbe q⟩
theorem Un.mono (u : Un fs ex H H1 h h1) (hs : ∀ b ∈ fs, b ∈ fs') (hx : ∀ b ∈ ex, b ∈ ex') : Un fs' ex' H H1 h h1 :=
  ⟨fun b ob q n hb he => u.keep b ob q n (fun z => hb (hs b z)) fun z => he (hx b z), fun _ _ q n _ he => u.any q n fun z => he (hx _ z), fun b ob q n he => u.free b ob q n fun z => he (hx b z), fun b ob q he => u.there b ob q fun z => he (hx b z), u.tups, u.frzs, u.tbls⟩
end

/-! ### the heap without what is tracked -/
def trk (h : Heap) (H : Hp) : List Addr := (List.range h.objs.size).filter fun a => (H a).isSome
def hidT (h : Heap) (H : Hp) : Heap := PySem.W.hideAll h (trk h H)
theorem hidT_size (h : Heap) (H : Hp) : (hidT h H).objs.size = h.objs.size := PySem.W.hideAll_size _ _
theorem hidT_get {h : Heap} {H : Hp} {b : Addr} {o : Obj} (e : h.get? b = some o) (n : H b = none) : (hidT h H).get? b = some o :=
  PySem.W.hideAll_get _ e fun hm => by
    have q : (H b).isSome = true := (List.mem_filter.mp hm).2
    rw [n] at q; simp at q
theorem of_hidT {h : Heap} {H : Hp} {b : Addr} {o : Obj} (e : (hidT h H).get? b = some o) : h.get? b = some o ∧ H b = none := by
  have e' : h.get? b = some o := PySem.W.of_hideAll (trk h H) e
  refine ⟨e', ?_⟩
  cases q : H b with
  | none => rfl
  | some x =>
    have hm : b ∈ trk h H := List.mem_filter.mpr ⟨List.mem_range.mpr (Heap.lt_size e'), by simp [q]⟩
    have z : (hidT h H).get? b = none := PySem.W.hideAll_none (trk h H) hm
    rw [z] at e; cases e

/-! ### OpenK's ledger, filled with every new object but one -/
def allNews (g h : Heap) (L : Addr) : List (Addr × Obj) := (List.range h.objs.size).filterMap fun a => if a = L ∨ (g.get? a).isSome = true then none else (h.get? a).map fun o => (a, o)
theorem mem_allNews {g h : Heap} {L a : Addr} {o : Obj} (h1 : a ≠ L) (h2 : g.get? a = none) (h3 : h.get? a = some o) : (a, o) ∈ allNews g h L :=
  List.mem_filterMap.mpr ⟨a, List.mem_range.mpr (Heap.lt_size h3), by simp [h1, h2, h3]⟩
theorem of_mem_allNews {g h : Heap} {L : Addr} {p : Addr × Obj} (hp : p ∈ allNews g h L) : p.1 ≠ L ∧ g.get? p.1 = none ∧ h.get? p.1 = some p.2 := by
  obtain ⟨b, _, e⟩ := List.mem_filterMap.mp hp
  split at e
  · cases e
  · rename_i hn
    cases q : h.get? b with
    | none => rw [q] at e; simp at e
    | some u =>
      rw [q] at e
      simp only [Option.map_some, Option.some.injEq] at e
      subst e
      refine ⟨fun z => hn (.inl z), ?_, q⟩
      show g.get? b = none
      cases r : g.get? b with
      | none => rfl
      | some v => exact (hn (.inr (by simp [r]))).elim
def rest (g h : Heap) (L d : Addr) : List (Addr × Obj) := (allNews g h L).filter fun p => decide (p.1 ≠ d)
theorem rest_ne {g h : Heap} {L d : Addr} : ∀ p ∈ rest g h L d, p.1 ≠ d := fun p hp => of_decide_eq_true (List.mem_filter.mp hp).2
theorem mem_rest {g h : Heap} {L d a : Addr} {o : Obj} (h1 : a ≠ L) (h2 : g.get? a = none) (h3 : h.get? a = some o) (h4 : a ≠ d) : (a, o) ∈ rest g h L d :=
  List.mem_filter.mpr ⟨mem_allNews h1 h2 h3, decide_eq_true h4⟩
theorem news_all {g h : Heap} {L : Addr} : News g L h (allNews g h L) := fun p hp => let ⟨a, b, c⟩ := of_mem_allNews hp; ⟨c, a, b⟩
theorem news_at {g h : Heap} {L d : Addr} {o : Obj} (h1 : d ≠ L) (h2 : g.get? d = none) (h3 : h.get? d = some o) : News g L h ((d, o) :: rest g h L d) := fun p hp => by
  rcases List.mem_cons.mp hp with rfl | hp
  · exact ⟨h3, h1, h2⟩
  · exact news_all p (List.mem_filter.mp hp).1
/-- behind a rule that changed d alone: all else but the frame is kept -/
theorem kept_of_news {g h h' : Heap} {L d : Addr} {m : Str → Option Value} (k : ∀ b o, g.get? b = some o → h.get? b = some o) (F : Fr g L h' m) (N : News g L h' (rest g h L d)) :
    ∀ b o, b ≠ L → b ≠ d → h.get? b = some o → h'.get? b = some o := fun b o h1 h2 e => by
  cases q : g.get? b with
  | some u =>
    have := k b u q
    rw [e] at this; cases this
    exact F.keep b _ q
  | none => exact (N (b, o) (mem_rest h1 q e h2)).1
end L2

namespace L2
open PySem PySem.Spec PyProof.Rows

/-- the module's facts, over the base: the heap at the law's entry without what is tracked there -/
structure Mod (K : PySem.W.Frag) (mg : Str → Option Value) (base : Heap) : Prop where
  kin : K.In base
  glob : base.Ns mainGlobals mg
  blt : ∃ mb, base.Ns builtinsNs mb ∧ ∀ x : Str, x ≠ "__name__" → mb x = bootBuiltins x
  nolimit : base.NoLimit

/-- the context: a def's body (or a comprehension's block) running. base: fixed through the whole law; s₀, H₀: the entry; outer: the frames whose slots others may change (a def's callers); stack: all frames that run;
   ex: iterators that were made ahead of the entry and are walked here (a comprehension's); fn: the names whose cells were made at the entry (a def: all; a comprehension's block: its own); calm: not within an except suite; pn: pins that every state bears; xe: what is wanted of an exception that leaves the code -/
structure Cx where
  prog : Program
  w : World
  K : PySem.W.Frag
  mg : Str → Option Value
  base : Heap
  A : Around
  N : List Str
  s₀ : Shared
  H₀ : Hp
  env : Env
  outer : List Env
  stack : List Env
  ex : List Addr
  fn : Str → Bool
  calm : Bool
  pn : List (Addr × Obj)
  xe : Value → Shared → Prop
/-- the callers' frames -/
def frs (l : List Env) : List Addr := l.filterMap (·.frame)
abbrev Cx.fs (X : Cx) : List Addr := frs X.outer

def Vis (sc : Scope) (x : Str) : Prop := sc.names.lookup x = some .local ∨ sc.names.lookup x = some .cell ∨ sc.names.lookup x = some .free
def Loc (sc : Scope) (x : Str) : Prop := sc.names.lookup x = some .local ∨ sc.names.lookup x = some .cell
def Look (env : Env) (h : Heap) (m : Str → Option Value) (x : Str) (u : Value) : Prop :=
  (env.kindOf x = some .local ∧ m x = some u) ∨ ((env.kindOf x = some .cell ∨ env.kindOf x = some .free) ∧ ∃ c, env.cells.lookup x = some c ∧ h.IsCell c (some u))

structure Cx.Ok (X : Cx) : Prop where
  mod : Mod X.K X.mg X.base
  kind : X.env.scope.kind = .function
  glob : X.env.globals = mainGlobals
  blt : X.env.builtins = builtinsNs
  above : X.s₀.heap.objs.size ≤ X.env.locals
  inj : ∀ x y c, X.env.cells.lookup x = some c → X.env.cells.lookup y = some c → x = y
  has : ∀ x, (X.env.kindOf x = some .cell ∨ X.env.kindOf x = some .free) → ∃ c, X.env.cells.lookup x = some c
  cab : ∀ x c, X.fn x = true → X.env.cells.lookup x = some c → X.s₀.heap.objs.size ≤ c
  hd : X.calm = true → X.A.handled = none
  frames : X.A.frames = some X.stack
  stk : X.stack = X.outer ∨ (X.stack = X.env :: X.outer ∧ X.env.frame = some X.env.locals)
  exf : ∀ b ∈ X.ex, b ≠ X.env.locals ∧ ∀ x c, X.env.cells.lookup x = some c → c ≠ b
  bs : ∀ b o, X.base.get? b = some o → X.s₀.heap.get? b = some o ∧ X.H₀ b = none
  bsz : X.base.objs.size ≤ X.s₀.heap.objs.size
  noex : ∀ b o, X.base.get? b = some o → b ∉ X.ex
  exfs : ∀ b ∈ X.ex, b ∉ X.fs
  funs : X.s₀.heap.FunFrames X.base X.outer
  frf : ∀ b ∈ X.fs, X.H₀ b = none

structure Inv (X : Cx) (pins : List (Addr × Obj)) (σ : List (Option V)) (H : Hp) (s : Shared) : Prop where
  ok : X.Ok
  os : s.os = X.s₀.os
  bare : AllBare s.gens
  base : Un X.fs X.ex X.H₀ H X.s₀.heap s.heap
  loc : ∃ m, s.heap.Ns X.env.locals m ∧ ∀ (i : Nat) (x : Str) (v : V), X.N[i]? = some x → σ[i]? = some (some v) → Vis X.env.scope x → ∃ u, RelV v u ∧ Look X.env s.heap m x u
  cell : ∀ x c, X.env.cells.lookup x = some c → ∃ v, s.heap.IsCell c v
  free : H X.env.locals = none
  freeC : ∀ x c, X.env.cells.lookup x = some c → H c = none
  pin : ∀ p ∈ X.pn ++ pins, s.heap.get? p.1 = some p.2 ∧ H p.1 = none ∧ p.1 ≠ X.env.locals ∧ p.1 ∉ X.fs ∧ ∀ v, p.2.data ≠ .cell v
  hok : HOk X.prog X.w H s.heap
  len : σ.length = X.N.length

section
variable {X : Cx} {pins : List (Addr × Obj)} {σ : List (Option V)} {H H' : Hp} {s : Shared} {h' : Heap}

theorem Cx.Ok.nofr (ok : X.Ok) {b : Addr} {o : Obj} (e : X.base.get? b = some o) : b ∉ X.fs := fun hb => by
  have := (ok.funs.mem hb).1
  rw [e] at this; cases this
theorem Inv.bs (I : Inv X pins σ H s) : ∀ b o, X.base.get? b = some o → s.heap.get? b = some o ∧ H b = none := fun b o e =>
  ⟨I.base.keep b o (I.ok.bs b o e).1 (I.ok.bs b o e).2 (I.ok.nofr e) (I.ok.noex b o e), I.base.free b o (I.ok.bs b o e).1 (I.ok.bs b o e).2 (I.ok.noex b o e)⟩
theorem Inv.bk (I : Inv X pins σ H s) : ∀ b o, X.base.get? b = some o → s.heap.get? b = some o := fun b o e => (I.bs b o e).1
theorem Inv.mod (I : Inv X pins σ H s) : Mod X.K X.mg X.base := I.ok.mod
theorem Inv.kIn (I : Inv X pins σ H s) : X.K.In s.heap := I.ok.mod.kin.keeps I.bk
theorem Inv.nolimit (I : Inv X pins σ H s) : s.heap.NoLimit := I.ok.mod.nolimit.keeps I.bk
/-- the frame over the base: for OpenK's rules (K.In X.base is I.mod.kin) -/
theorem Inv.fr (I : Inv X pins σ H s) : ∃ m, Fr X.base X.env.locals s.heap m :=
  let ⟨m, hn, _⟩ := I.loc
  ⟨m, hn, I.bk, Nat.le_trans I.ok.bsz I.ok.above⟩
theorem Inv.lt (I : Inv X pins σ H s) : X.env.locals < s.heap.objs.size := let ⟨_, hn, _⟩ := I.loc; hn.lt
theorem Inv.sz (I : Inv X pins σ H s) : X.s₀.heap.objs.size ≤ s.heap.objs.size := Nat.le_trans I.ok.above (Nat.le_of_lt I.lt)
theorem Inv.nofs (I : Inv X pins σ H s) {a : Addr} (h : s.heap.objs.size ≤ a) : a ∉ X.fs := fun hb => by
  obtain ⟨_, o, ho, _⟩ := I.ok.funs.mem hb
  exact absurd (Nat.lt_of_lt_of_le (Heap.lt_size ho) (Nat.le_trans I.sz h)) (Nat.lt_irrefl _)
theorem Inv.cne (I : Inv X pins σ H s) : ∀ x c, X.env.cells.lookup x = some c → c ≠ X.env.locals := fun x c e z => by
  obtain ⟨v, o, ho, hd⟩ := I.cell x c e
  obtain ⟨m, ⟨o', es, ep, ho', hd', _⟩, _⟩ := I.loc
  rw [z, ho'] at ho; cases ho; rw [hd'] at hd; cases hd
theorem Inv.funs (I : Inv X pins σ H s) : s.heap.FunFrames X.base X.outer := by
  have all : ∀ (l : List Env), (∀ b ∈ frs l, b ∈ X.fs) → X.s₀.heap.FunFrames X.base l → s.heap.FunFrames X.base l := by
    intro l
    induction l with
    | nil => intro _ _; trivial
    | cons env r ih =>
      intro hs hl
      obtain ⟨hk, ⟨L, o, hf, hn, ho, hd⟩, hr⟩ := hl
      have hL : L ∈ X.fs := hs L (by unfold frs; rw [List.filterMap_cons, hf]; exact List.mem_cons_self)
      obtain ⟨sl, e⟩ := I.base.slot L o ho (I.ok.frf L hL) hL fun z => I.ok.exfs L z hL
      exact ⟨hk, ⟨L, _, hf, hn, e, hd⟩, ih (fun b hb => hs b (by unfold frs; rw [List.filterMap_cons, hf]; exact List.mem_cons_of_mem _ hb)) hr⟩
  exact all X.outer (fun _ hb => hb) I.ok.funs

/-- the frames that run, for a call -/
theorem Inv.stack (I : Inv X pins σ H s) : s.heap.FunFrames X.base X.stack := by
  rcases I.ok.stk with e | ⟨e, hf⟩
  · rw [e]; exact I.funs
  · rw [e]
    obtain ⟨m, hn, _⟩ := I.loc
    refine .cons (by rw [I.ok.kind]; decide) hf hn ?_ I.funs
    exact Heap.get?_none_of_le (Nat.le_trans I.ok.bsz I.ok.above)
theorem Inv.stkSub (I : Inv X pins σ H s) : ∀ b ∈ frs X.stack, b ∈ X.env.locals :: X.fs := fun b hb => by
  rcases I.ok.stk with e | ⟨e, hf⟩
  · rw [e] at hb; exact List.mem_cons_of_mem _ hb
  · rw [e] at hb
    unfold frs at hb
    rw [List.filterMap_cons, hf] at hb
    exact hb
theorem Inv.stkFree (I : Inv X pins σ H s) : ∀ b ∈ frs X.stack, H b = none := fun b hb => by
  rcases List.mem_cons.mp (I.stkSub b hb) with e | hb
  · rw [e]; exact I.free
  · obtain ⟨_, o, ho, _⟩ := I.ok.funs.mem hb
    exact I.base.free b o ho (I.ok.frf b hb) fun z => I.ok.exfs b z hb

/-- THE STEP: the untracked objects but the frame and the records at ch are kept (the callers' frames up to slots), the frame's map is kept, the new abstract heap is held -/
theorem Inv.step {g' : Array GenState} {t' : Nat} {d' : Drawn} {ch : List Addr} (I : Inv X pins σ H s)
    (hch : ∀ b ∈ ch, (b ∈ X.ex ∨ X.s₀.heap.objs.size ≤ b) ∧ b ≠ X.env.locals ∧ (∀ x c, X.env.cells.lookup x = some c → c ≠ b) ∧ ∀ p ∈ X.pn ++ pins, p.1 ≠ b)
    (keep : ∀ b o, b ≠ X.env.locals → b ∉ X.fs → b ∉ ch → s.heap.get? b = some o → H b = none → h'.get? b = some o)
    (slot : ∀ b o, b ≠ X.env.locals → b ∈ X.fs → b ∉ ch → s.heap.get? b = some o → H b = none → ∃ sl, h'.get? b = some { o with slots := sl }) (free : ∀ b o, b ∉ ch → s.heap.get? b = some o → H b = none → H' b = none)
    (there : ∀ b o, b ∉ ch → s.heap.get? b = some o → ∃ o', h'.get? b = some o')
    (tups : ∀ b xs, H b = some (.tup xs) → H' b = some (.tup xs)) (frzs : ∀ b o u, H b = some (.frz o u) → H' b = some (.frz o u)) (tbls : ∀ b ps, H b = some (.tbl ps) → ∃ more, H' b = some (.tbl (ps ++ more)))
    (ns : ∀ m, s.heap.Ns X.env.locals m → h'.Ns X.env.locals m) (hok : HOk X.prog X.w H' h') (hg : AllBare g') :
    Inv X pins σ H' { s with heap := h', gens := g', drawn := d', toks := t' } := by
  have neL : ∀ b o, X.s₀.heap.get? b = some o → b ≠ X.env.locals := fun b o e => Nat.ne_of_lt (Nat.lt_of_lt_of_le (Heap.lt_size e) I.ok.above)
  have neC : ∀ b o, X.s₀.heap.get? b = some o → b ∉ X.ex → b ∉ ch := fun b o e hx hb => by
    rcases (hch b hb).1 with z | z
    · exact hx z
    · exact absurd (Nat.lt_of_lt_of_le (Heap.lt_size e) z) (Nat.lt_irrefl _)
  have cellK : ∀ x c, X.env.cells.lookup x = some c → ∀ v, s.heap.IsCell c v → h'.IsCell c v := fun x c e v ⟨o, ho, hd⟩ => by
    have nch : c ∉ ch := fun z => (hch c z).2.2.1 x c e rfl
    by_cases hc : c ∈ X.fs
    · obtain ⟨sl, q⟩ := slot c o (I.cne x c e) hc nch ho (I.freeC x c e)
      exact ⟨_, q, hd⟩
    · exact ⟨o, keep c o (I.cne x c e) hc nch ho (I.freeC x c e), hd⟩
  refine ⟨I.ok, I.os, hg, ⟨fun b o e n hb hx => ?_, fun b o e n hb hx => ?_, fun b o e n hx => ?_, fun b o e hx => ?_, fun b xs e => tups b xs (I.base.tups b xs e), fun b o xs e => frzs b o xs (I.base.frzs b o xs e), fun b ps e => ?_⟩, ?_, fun x c e => ?_, ?_, fun x c e => ?_, fun p hp => ?_, hok, I.len⟩
  · exact keep b o (neL b o e) hb (neC b o e hx) (I.base.keep b o e n hb hx) (I.base.free b o e n hx)
  · obtain ⟨sl, e1⟩ := I.base.slot b o e n hb hx
    obtain ⟨sl', e2⟩ := slot b _ (neL b o e) hb (neC b o e hx) e1 (I.base.free b o e n hx)
    exact ⟨sl', e2⟩
  · obtain ⟨o', e1⟩ := I.base.there b o e hx
    exact free b o' (neC b o e hx) e1 (I.base.free b o e n hx)
  · obtain ⟨o', e1⟩ := I.base.there b o e hx
    exact there b o' (neC b o e hx) e1
  · obtain ⟨m1, e1⟩ := I.base.tbls b ps e
    obtain ⟨m2, e2⟩ := tbls b _ e1
    exact ⟨m1 ++ m2, by rw [e2, Array.append_assoc]⟩
  · obtain ⟨m, hn, hl⟩ := I.loc
    refine ⟨m, ns m hn, fun i x v e1 e2 e3 => ?_⟩
    obtain ⟨u, r, l⟩ := hl i x v e1 e2 e3
    refine ⟨u, r, ?_⟩
    rcases l with l | ⟨k, c, e, z⟩
    · exact .inl l
    · exact .inr ⟨k, c, e, cellK x c e _ z⟩
  · obtain ⟨v, z⟩ := I.cell x c e
    exact ⟨v, cellK x c e v z⟩
  · obtain ⟨m, ⟨o, _, _, ho, _⟩, _⟩ := I.loc
    exact free _ o (fun z => (hch _ z).2.1 rfl) ho I.free
  · obtain ⟨v, o, ho, hd⟩ := I.cell x c e
    exact free c o (fun z => (hch c z).2.2.1 x c e rfl) ho (I.freeC x c e)
  · obtain ⟨e, n, ne, nf, d⟩ := I.pin p hp
    have nch : p.1 ∉ ch := fun z => (hch p.1 z).2.2.2 p hp rfl
    exact ⟨keep p.1 p.2 ne nf nch e n, free p.1 p.2 nch e n, ne, nf, d⟩
/-- .. where the frame's own object is kept too -/
theorem Inv.un {t' : Nat} (I : Inv X pins σ H s) (u : Un X.fs [] H H' s.heap h') (hok : HOk X.prog X.w H' h') : Inv X pins σ H' { s with heap := h', toks := t' } := by
  obtain ⟨m, ⟨o, es, ep, ho, r⟩, _⟩ := id I.loc
  obtain ⟨sl, hL⟩ := u.any ho I.free (by simp)
  exact I.step (g' := s.gens) (d' := s.drawn) (ch := []) (fun _ z => nomatch z) (fun b o _ hb _ e n => u.keep b o e n hb (by simp)) (fun b o _ hb _ e n => u.slot b o e n hb (by simp)) (fun b o _ e n => u.free b o e n (by simp)) (fun b o _ e => u.there b o e (by simp)) u.tups u.frzs u.tbls (fun m' hm => by
    obtain ⟨o', es', ep', ho', r'⟩ := hm
    rw [ho] at ho'; cases ho'
    exact ⟨_, es', ep', hL, r'⟩) hok I.bare
/-- behind a call (or a comprehension's block): the slots of this frame may have changed too, the records at ch may have turned -/
theorem Inv.call {g' : Array GenState} {t' : Nat} {d' : Drawn} {ch : List Addr} (I : Inv X pins σ H s) (u : Un (frs X.stack) ch H H' s.heap h') (hok : HOk X.prog X.w H' h') (hg : AllBare g')
    (hch : ∀ b ∈ ch, (b ∈ X.ex ∨ X.s₀.heap.objs.size ≤ b) ∧ b ≠ X.env.locals ∧ (∀ x c, X.env.cells.lookup x = some c → c ≠ b) ∧ ∀ p ∈ X.pn ++ pins, p.1 ≠ b) :
    Inv X pins σ H' { s with heap := h', gens := g', drawn := d', toks := t' } := by
  obtain ⟨m, ⟨o, es, ep, ho, r⟩, _⟩ := id I.loc
  obtain ⟨sl, hL⟩ := u.any ho I.free fun z => (hch _ z).2.1 rfl
  exact I.step (ch := ch) hch (fun b o hL hb hc e n => u.keep b o e n (fun z => (List.mem_cons.mp (I.stkSub b z)).elim hL hb) hc) (fun b o _ _ hc e n => u.any e n hc) (fun b o hc e n => u.free b o e n hc) (fun b o hc e => u.there b o e hc) u.tups u.frzs u.tbls (fun m' hm => by
    obtain ⟨o', es', ep', ho', r'⟩ := hm
    rw [ho] at ho'; cases ho'
    exact ⟨_, es', ep', hL, r'⟩) hok hg
/-- an untracked record of ours (an iterator) has turned -/
theorem Inv.turned {t' : Nat} {it : Addr} (I : Inv X pins σ H s) (k : ∀ b o, b ≠ it → s.heap.get? b = some o → h'.get? b = some o) (hn : H it = none) (hL : it ≠ X.env.locals)
    (h1 : it ∈ X.ex ∨ X.s₀.heap.objs.size ≤ it) (h2 : ∀ x c, X.env.cells.lookup x = some c → c ≠ it) (h3 : ∀ p ∈ X.pn ++ pins, p.1 ≠ it) : Inv X pins σ H { s with heap := h', toks := t' } := by
  have nit : ∀ b u, H b = some u → b ≠ it := fun b u e z => by rw [z, hn] at e; cases e
  refine I.step (g' := s.gens) (d' := s.drawn) (ch := [it]) (fun b hb => ?_) (fun b o _ _ hc e _ => k b o (fun z => hc (by simp [z])) e) (fun b o _ _ hc e _ => ⟨o.slots, k b o (fun z => hc (by simp [z])) e⟩) (fun _ _ _ _ n => n)
    (fun b o hc e => ⟨o, k b o (fun z => hc (by simp [z])) e⟩) (fun _ _ e => e) (fun _ _ _ e => e) (fun b ps e => ⟨#[], by rw [e]; simp⟩) (fun m hm => ?_) (fun b u e => ?_) I.bare
  · have e : b = it := by simpa using hb
    subst e
    exact ⟨h1, hL, h2, h3⟩
  · obtain ⟨o, es, ep, ho, r⟩ := hm
    exact ⟨o, es, ep, k _ o (Ne.symm hL) ho, r⟩
  · refine (I.hok b u e).stay (fun c v hc q => k c v ?_ q) (fun _ q => q) fun _ _ q => q
    rcases hc with z | z
    · rw [z]; exact nit b u e
    · exact nit c _ z
theorem Inv.tok (I : Inv X pins σ H s) (t : Nat) : Inv X pins σ H { s with toks := t } := I.un (h' := s.heap) (t' := t) Un.refl I.hok
/-- all objects kept -/
theorem Inv.kept {t' : Nat} (I : Inv X pins σ H s) (k : ∀ b u, s.heap.get? b = some u → h'.get? b = some u) : Inv X pins σ H { s with heap := h', toks := t' } := I.un (Un.kept k) (I.hok.kept k)
/-- a new object laid and tracked -/
theorem Inv.laid {a : Addr} {o : HO} {t' : Nat} (I : Inv X pins σ H s) (k : ∀ b u, s.heap.get? b = some u → h'.get? b = some u) (hp : s.heap.objs.size ≤ a) (new : ObjOk X.prog X.w (upd H a o) h' a o) :
    Inv X pins σ (upd H a o) { s with heap := h', toks := t' } := I.un (Un.laid k hp (I.hok.fresh hp)) (I.hok.laid k hp new)
/-- an object written -/
theorem Inv.write {x e : Addr} {o : HO} {t' : Nat} (I : Inv X pins σ H s) (mu : Mut (H x)) (he : e = x ∨ H e = some (.own x)) (k : ∀ b u, b ≠ e → s.heap.get? b = some u → h'.get? b = some u) (heo : ∃ u, h'.get? e = some u)
    (new : ObjOk X.prog X.w (upd H x o) h' x o) : Inv X pins σ (upd H x o) { s with heap := h', toks := t' } := I.un (Un.write mu he k heo) (I.hok.write mu he k heo new)
/-- forgetting slots, pins -/
theorem Inv.weak {σ' : List (Option V)} (I : Inv X pins σ H s) (hl : σ'.length = σ.length) (w : ∀ (i : Nat) v, σ'[i]? = some (some v) → σ[i]? = some (some v)) : Inv X pins σ' H s :=
  ⟨I.ok, I.os, I.bare, I.base, let ⟨m, hn, hl'⟩ := I.loc; ⟨m, hn, fun i x v e1 e2 e3 => hl' i x v e1 (w i v e2) e3⟩, I.cell, I.free, I.freeC, I.pin, I.hok, hl.trans I.len⟩
theorem Inv.pins_of {pins' : List (Addr × Obj)} (I : Inv X pins σ H s) (h : ∀ p ∈ pins', s.heap.get? p.1 = some p.2 ∧ H p.1 = none ∧ p.1 ≠ X.env.locals ∧ p.1 ∉ X.fs ∧ ∀ v, p.2.data ≠ .cell v) : Inv X pins' σ H s :=
  ⟨I.ok, I.os, I.bare, I.base, I.loc, I.cell, I.free, I.freeC, fun p hp => (List.mem_append.mp hp).elim (fun z => I.pin p (List.mem_append_left _ z)) (h p), I.hok, I.len⟩

theorem nodup_ix {N : List Str} (hN : N.Nodup) {i j : Nat} {x : Str} (a : N[i]? = some x) (b : N[j]? = some x) : i = j := by
  obtain ⟨h1, e1⟩ := List.getElem?_eq_some_iff.mp a
  obtain ⟨h2, e2⟩ := List.getElem?_eq_some_iff.mp b
  exact (List.getElem_inj hN).mp (e1.trans e2.symm)

/-- a name is stored; what changed -/
theorem store_ok2 {M : Model} {A : Around} {E : Value → Shared → Prop} {i : Nat} {x : Str} {v : V} {u : Value} {Q : Unit → Shared → Prop} (I : Inv X pins σ H s) (hN : X.N.Nodup) (hi : X.N[i]? = some x) (hx : Loc X.env.scope x) (r : RelV v u)
    (h : ∀ s', Inv X pins (σ.set i (some v)) H s' → (∃ a, Heap.SameBut a s.heap s'.heap ∧ (a = X.env.locals ∨ X.env.cells.lookup x = some a)) → Q () s') (hf : X.fn x = true ∨ X.env.scope.names.lookup x = some .local := by first | exact .inl rfl | exact .inr rfl | assumption) : wpAny M A (storeName X.env x u) Q E s := by
  obtain ⟨m, hn, hl⟩ := id I.loc
  have hcls : (X.env.scope.kind == .class || (X.env.scope.kind == .module && X.env.locals != X.env.globals)) = false := by rw [I.ok.kind]; rfl
  have hiσ : i < σ.length := by rw [I.len]; exact (List.getElem?_eq_some_iff.mp hi).1
  have cne := I.cne
  have tracked : ∀ {a : Addr} {h' : Heap}, (∃ o, s.heap.get? a = some o ∧ H a = none) → Heap.SameBut a s.heap h' → HOk X.prog X.w H h' := fun {a h'} ha hs b ob e => by
    obtain ⟨_, _, hfree⟩ := ha
    refine (I.hok b ob e).stay (fun c w' hc q => (hs.2 c ?_).trans q) (fun _ q => q) fun _ _ q => q
    rintro rfl
    rcases hc with rfl | hc
    · rw [hfree] at e; cases e
    · rw [hfree] at hc; cases hc
  rcases hx with hk | hk
  · refine wpAny_storeName_local hk hn (fun h' hn' hs => ?_) hcls
    obtain ⟨oL, _, _, hoL, _⟩ := id hn
    refine h _ ⟨I.ok, I.os, I.bare, ⟨fun b o e n hb hx => ?_, fun b o e n hb hx => ?_, I.base.free, fun b o e hx => ?_, I.base.tups, I.base.frzs, I.base.tbls⟩, ⟨_, hn', fun j y v' e1 e2 e3 => ?_⟩, fun y c e => ?_, I.free, I.freeC, fun p hp => ?_, tracked ⟨oL, hoL, I.free⟩ hs, by simpa using I.len⟩ ⟨_, hs, .inl rfl⟩
    · exact (hs.2 b (Nat.ne_of_lt (Nat.lt_of_lt_of_le (Heap.lt_size e) I.ok.above))).trans (I.base.keep b o e n hb hx)
    · obtain ⟨sl, e1⟩ := I.base.slot b o e n hb hx
      exact ⟨sl, (hs.2 b (Nat.ne_of_lt (Nat.lt_of_lt_of_le (Heap.lt_size e) I.ok.above))).trans e1⟩
    · obtain ⟨o', e1⟩ := I.base.there b o e hx
      exact ⟨o', (hs.2 b (Nat.ne_of_lt (Nat.lt_of_lt_of_le (Heap.lt_size e) I.ok.above))).trans e1⟩
    · by_cases hj : j = i
      · subst hj
        rw [hi] at e1; cases e1
        rw [List.getElem?_set_self hiσ] at e2
        cases e2
        exact ⟨u, r, .inl ⟨hk, by simp⟩⟩
      · rw [List.getElem?_set_ne (Ne.symm hj)] at e2
        obtain ⟨u', r', q⟩ := hl j y v' e1 e2 e3
        refine ⟨u', r', ?_⟩
        rcases q with ⟨k, e⟩ | ⟨k, c, e, z⟩
        · refine .inl ⟨k, ?_⟩
          have : y ≠ x := fun e => hj (nodup_ix hN e1 (e ▸ hi))
          simp [this, e]
        · exact .inr ⟨k, c, e, z.sameBut hs (cne y c e)⟩
    · obtain ⟨w', z⟩ := I.cell y c e
      exact ⟨w', z.sameBut hs (cne y c e)⟩
    · obtain ⟨e, n, ne, nf, d⟩ := I.pin p hp
      exact ⟨(hs.2 p.1 ne).trans e, n, ne, nf, d⟩
  · have hfn : X.fn x = true := by
      rcases hf with z | z
      · exact z
      · rw [z] at hk; cases hk
    obtain ⟨c, hc⟩ := I.ok.has x (.inl hk)
    obtain ⟨w', z⟩ := I.cell x c hc
    refine wpAny_storeName_cell I.ok.kind hk hc z (fun h' hc' hs => ?_)
    obtain ⟨oc, hoc, hocd⟩ := id z
    refine h { s with heap := h' } ⟨I.ok, I.os, I.bare, ⟨fun b o e n hb hx => ?_, fun b o e n hb hx => ?_, I.base.free, fun b o e hx => ?_, I.base.tups, I.base.frzs, I.base.tbls⟩, ⟨m, hn.sameBut hs (Ne.symm (cne x c hc)), fun j y v' e1 e2 e3 => ?_⟩, fun y c' e => ?_, I.free, I.freeC, fun p hp => ?_, tracked ⟨oc, hoc, I.freeC x c hc⟩ hs, by simpa using I.len⟩ ⟨c, hs, .inr hc⟩
    · exact (hs.2 b (Nat.ne_of_lt (Nat.lt_of_lt_of_le (Heap.lt_size e) (I.ok.cab x c hfn hc)))).trans (I.base.keep b o e n hb hx)
    · obtain ⟨sl, e1⟩ := I.base.slot b o e n hb hx
      exact ⟨sl, (hs.2 b (Nat.ne_of_lt (Nat.lt_of_lt_of_le (Heap.lt_size e) (I.ok.cab x c hfn hc)))).trans e1⟩
    · obtain ⟨o', e1⟩ := I.base.there b o e hx
      exact ⟨o', (hs.2 b (Nat.ne_of_lt (Nat.lt_of_lt_of_le (Heap.lt_size e) (I.ok.cab x c hfn hc)))).trans e1⟩
    · by_cases hj : j = i
      · subst hj
        rw [hi] at e1; cases e1
        rw [List.getElem?_set_self hiσ] at e2
        cases e2
        exact ⟨u, r, .inr ⟨.inl hk, c, hc, hc'⟩⟩
      · rw [List.getElem?_set_ne (Ne.symm hj)] at e2
        obtain ⟨u', r', q⟩ := hl j y v' e1 e2 e3
        refine ⟨u', r', ?_⟩
        rcases q with q | ⟨k, c', e, z'⟩
        · exact .inl q
        · refine .inr ⟨k, c', e, z'.sameBut hs ?_⟩
          rintro rfl
          exact hj (nodup_ix hN e1 (I.ok.inj _ _ _ e hc ▸ hi))
    · by_cases hcc : c' = c
      · subst hcc; exact ⟨_, hc'⟩
      · obtain ⟨w2, z2⟩ := I.cell y c' e
        exact ⟨w2, z2.sameBut hs hcc⟩
    · obtain ⟨e, n, ne, nf, d⟩ := I.pin p hp
      refine ⟨(hs.2 p.1 ?_).trans e, n, ne, nf, d⟩
      intro q
      rw [q, hoc] at e
      have q' : oc = p.2 := Option.some.inj e
      exact d w' (by rw [← q']; exact hocd)
theorem store_ok {M : Model} {A : Around} {E : Value → Shared → Prop} {i : Nat} {x : Str} {v : V} {u : Value} {Q : Unit → Shared → Prop} (I : Inv X pins σ H s) (hN : X.N.Nodup) (hi : X.N[i]? = some x) (hx : Loc X.env.scope x) (r : RelV v u)
    (h : ∀ s', Inv X pins (σ.set i (some v)) H s' → Q () s') (hf : X.fn x = true ∨ X.env.scope.names.lookup x = some .local := by first | exact .inl rfl | exact .inr rfl | assumption) : wpAny M A (storeName X.env x u) Q E s :=
  store_ok2 I hN hi hx r (fun s' I' _ => h s' I') hf
/-- behind a call or a block, the state as it is -/
theorem Inv.call' {s' : Shared} {ch : List Addr} (I : Inv X pins σ H s) (ho : s'.os = s.os) (u : Un (frs X.stack) ch H H' s.heap s'.heap) (hok : HOk X.prog X.w H' s'.heap) (hg : AllBare s'.gens)
    (hch : ∀ b ∈ ch, (b ∈ X.ex ∨ X.s₀.heap.objs.size ≤ b) ∧ b ≠ X.env.locals ∧ (∀ x c, X.env.cells.lookup x = some c → c ≠ b) ∧ ∀ p ∈ X.pn ++ pins, p.1 ≠ b) : Inv X pins σ H' s' := by
  obtain ⟨h', g', d', t', o'⟩ := s'
  have e : o' = s.os := ho
  subst e
  exact I.call (g' := g') (t' := t') (d' := d') u hok hg hch
end

/-! ### the judgements -/
/-- an exception: its class, its own dict's address (where it has one), the abstract heap behind it -/
abbrev XK := Value → Option Addr → Hp → Prop
abbrev St := List (Option V)
abbrev VK := V → Hp → Prop
/-- an expression's reading; a test's; an argument list's -/
abbrev TE := St → Hp → VK → Prop
abbrev TT := St → Hp → (Bool → Hp → Prop) → Prop
abbrev TA := St → Hp → (List V → Hp → Prop) → Prop
/-- what is wanted behind a statement -/
structure Ends where
  nx : St → Hp → Prop
  rt : VK
  bk : St → Hp → Prop := fun _ _ => False
  ct : St → Hp → Prop := fun _ _ => False
abbrev TS := Ends → St → Hp → Prop

def EP (X : Cx) (pins : List (Addr × Obj)) (σ : St) (Q : VK) (u : Value) (s' : Shared) : Prop := ∃ v H', Inv X pins σ H' s' ∧ RelV v u ∧ Q v H'
def TP (X : Cx) (pins : List (Addr × Obj)) (σ : St) (Q : Bool → Hp → Prop) (b : Bool) (s' : Shared) : Prop := ∃ H', Inv X pins σ H' s' ∧ Q b H'
def AP (X : Cx) (pins : List (Addr × Obj)) (σ : St) (Q : List V → Hp → Prop) (us : List Value) (s' : Shared) : Prop := ∃ vs H', Inv X pins σ H' s' ∧ Vals vs us ∧ Q vs H'
def SP (X : Cx) (pins : List (Addr × Obj)) (D : Ends) (f : Flow) (s' : Shared) : Prop :=
  match f with
  | .next => ∃ σ' H', Inv X pins σ' H' s' ∧ D.nx σ' H'
  | .brk => ∃ σ' H', Inv X pins σ' H' s' ∧ D.bk σ' H'
  | .cont => ∃ σ' H', Inv X pins σ' H' s' ∧ D.ct σ' H'
  | .ret u => ∃ v σ' H', Inv X pins σ' H' s' ∧ RelV v u ∧ D.rt v H'

def PE (X : Cx) (e : Expr) (t : TE) : Prop :=
  ∀ (pins : List (Addr × Obj)) (s : Shared) (σ : St) (H : Hp) (Q : VK), Inv X pins σ H s → t σ H Q → wpAny (model X.prog X.w) X.A (eval e X.env) (EP X pins σ Q) X.xe s
def PT (X : Cx) (e : Expr) (t : TT) : Prop :=
  ∀ (pins : List (Addr × Obj)) (s : Shared) (σ : St) (H : Hp) (Q : Bool → Hp → Prop), Inv X pins σ H s → t σ H Q → wpAny (model X.prog X.w) X.A (isTrue e X.env (eval e X.env)) (TP X pins σ Q) X.xe s
/-- a test whatever its 'whole' is (and, or) -/
def PW (X : Cx) (e : Expr) (t : TT) : Prop :=
  ∀ (whole : Sem Value) (pins : List (Addr × Obj)) (s : Shared) (σ : St) (H : Hp) (Q : Bool → Hp → Prop), Inv X pins σ H s → t σ H Q → wpAny (model X.prog X.w) X.A (isTrue e X.env whole) (TP X pins σ Q) X.xe s
theorem PW.pt {X : Cx} {e : Expr} {t : TT} (h : PW X e t) : PT X e t := h _
/-- an argument list (no star), from the left -/
def PA (X : Cx) (es : List Expr) (t : TA) : Prop :=
  ∀ (pos : Pos) (pins : List (Addr × Obj)) (s : Shared) (σ : St) (H : Hp) (Q : List V → Hp → Prop), Inv X pins σ H s → t σ H Q → wpAny (model X.prog X.w) X.A (spliced (backTo pos (starEach es X.env))) (AP X pins σ Q) X.xe s
def PS (X : Cx) (st : Stmt) (t : TS) : Prop :=
  ∀ (pins : List (Addr × Obj)) (s : Shared) (σ : St) (H : Hp) (D : Ends), Inv X pins σ H s → t D σ H → wpAny (model X.prog X.w) X.A (exec st X.env) (SP X pins D) X.xe s
def PSs (X : Cx) (st : List Stmt) (t : TS) : Prop :=
  ∀ (pins : List (Addr × Obj)) (s : Shared) (σ : St) (H : Hp) (D : Ends), Inv X pins σ H s → t D σ H → wpAny (model X.prog X.w) X.A (execs st X.env) (SP X pins D) X.xe s
/-- weaken the end -/
theorem thn {α : Type} {t : Sem α} {Q Q' : α → Shared → Prop} {M : Model} {A : Around} {E : Value → Shared → Prop} {s : Shared} (h : wpAny M A t Q E s) (hQ : ∀ a s, Q a s → Q' a s) : wpAny M A t Q' E s := wpAny_mono h hQ fun _ _ x => x
end L2

namespace L2
open PySem PySem.Spec PyProof.Rows
section
variable {X : Cx}

/-- two expressions in a row -/
theorem bin {a b : Expr} {ta tb : TE} (ha : PE X a ta) (hb : PE X b tb) {pins : List (Addr × Obj)} {s : Shared} {σ : St} {H : Hp} {R : V → V → Hp → Prop} (I : Inv X pins σ H s) (h : ta σ H fun x H1 => tb σ H1 fun y H2 => R x y H2)
    {α : Type} {Q : α → Shared → Prop} {f : Value → Value → Sem α}
    (hf : ∀ v u s2 x y H2, Inv X pins σ H2 s2 → RelV x v → RelV y u → R x y H2 → wpAny (model X.prog X.w) X.A (f v u) Q X.xe s2) :
    wpAny (model X.prog X.w) X.A (eval a X.env) (fun v s₁ => wpAny (model X.prog X.w) X.A (eval b X.env) (fun u s₂ => wpAny (model X.prog X.w) X.A (f v u) Q X.xe s₂) X.xe s₁) X.xe s := by
  refine thn (ha pins s σ H _ I h) fun v s1 ⟨x, H1, I1, r1, q1⟩ => ?_
  refine thn (hb pins s1 σ H1 _ I1 q1) fun u s2 ⟨y, H2, I2, r2, q2⟩ => ?_
  exact hf v u s2 x y H2 I2 r1 r2 q2

/-! ### names and constants -/
def tVar (i : Nat) : TE := fun σ H Q => ∃ v, σ[i]? = some (some v) ∧ Q v H
def tC (v : V) : TE := fun _ H Q => Q v H
theorem pe_var {i : Nat} {x : Str} {pos : Pos} (hN : X.N[i]? = some x) (hv : Vis X.env.scope x) (hd : (x == ("__debug__" : Str)) = false := by decide) (hcd : (x == ("__classdict__" : Str)) = false := by decide) : PE X (.Name x pos) (tVar i) := by
  intro pins s σ H Q I h
  obtain ⟨v, e, h⟩ := h
  obtain ⟨m, hn, hl⟩ := I.loc
  obtain ⟨u, r, l⟩ := hl i x v hN e hv
  have fin : EP X pins σ Q u s := ⟨v, H, I, r, h⟩
  rcases l with ⟨hk, hm⟩ | ⟨hk, c, hc, hcell⟩
  · exact wpAny_Name (wpAny_loadName_local I.ok.kind hk hn hm fin) hd
  · rcases hk with hk | hk
    · exact wpAny_Name (wpAny_loadName_cell I.ok.kind hk hc hcell fin) hd
    · exact wpAny_Name (wpAny_loadName_free I.ok.kind hk hc hcell fin hcd) hd
theorem pe_int {i j pos} : PE X (.Constant (.int i) j pos) (tC (.int i)) := fun _ _ _ H _ I h => wpAny_Constant_int ⟨.int i, H, I.tok _, ⟨_, rfl⟩, h⟩
theorem pe_bl {b j pos} : PE X (.Constant (.bool b) j pos) (tC (.bl b)) := fun _ _ _ H _ I h => Constant_bool ⟨.bl b, H, I, rfl, h⟩
theorem pe_non {j pos} : PE X (.Constant .none j pos) (tC .non) := fun _ _ _ H _ I h => Constant_none ⟨.non, H, I, rfl, h⟩
theorem pe_str {x j pos} : PE X (.Constant (.str x) j pos) (tC (.str x)) := fun _ _ _ H _ I h => Calls.Constant_str ⟨.str x, H, I.tok _, ⟨_, rfl⟩, h⟩

/-- a global name of the def -/
def Gl (X : Cx) (x : Str) : Prop := X.env.kindOf x = some .globalImplicit
theorem ld_glob {E : Value → Shared → Prop} {pins : List (Addr × Obj)} {s : Shared} {σ : St} {H : Hp} {x : Str} {u : Value} {pos : Pos} {Q : Value → Shared → Prop} (I : Inv X pins σ H s) (hg : Gl X x) (hm : X.mg x = some u) (h : Q u s)
    (hd : (x == ("__debug__" : Str)) = false := by decide) : wpAny (model X.prog X.w) X.A (eval (.Name x pos) X.env) Q E s :=
  Calls.Name_function_global I.ok.kind hg (Calls.loadGlobal_global (by rw [I.ok.glob]; exact I.mod.glob.keeps I.bk) hm h) hd
theorem ld_blt {E : Value → Shared → Prop} {pins : List (Addr × Obj)} {s : Shared} {σ : St} {H : Hp} {x : Str} {u : Value} {pos : Pos} {Q : Value → Shared → Prop} (I : Inv X pins σ H s) (hg : Gl X x) (hm : X.mg x = none) (hv : bootBuiltins x = some u) (h : Q u s)
    (hn : x ≠ "__name__" := by decide) (hd : (x == ("__debug__" : Str)) = false := by decide) : wpAny (model X.prog X.w) X.A (eval (.Name x pos) X.env) Q E s := by
  obtain ⟨mb, h1, h2⟩ := I.mod.blt
  exact Calls.Name_function_global I.ok.kind hg (Calls.loadGlobal_builtin (by rw [I.ok.glob]; exact I.mod.glob.keeps I.bk) hm (by rw [I.ok.blt]; exact h1.keeps I.bk) ((h2 x hn).trans hv) h) hd
/-- a module's constant, a class, a function, as a value -/
theorem pe_glob {x : Str} {v : V} {u : Value} {pos : Pos} (hg : Gl X x) (hm : X.mg x = some u) (r : RelV v u) (hd : (x == ("__debug__" : Str)) = false := by decide) : PE X (.Name x pos) (tC v) :=
  fun _ _ _ H _ I h => ld_glob I hg hm ⟨v, H, I, r, h⟩ hd
theorem pe_bltn {x : Str} {v : V} {u : Value} {pos : Pos} (hg : Gl X x) (hm : X.mg x = none) (hv : bootBuiltins x = some u) (r : RelV v u) (hn : x ≠ "__name__" := by decide) (hd : (x == ("__debug__" : Str)) = false := by decide) : PE X (.Name x pos) (tC v) :=
  fun _ _ _ H _ I h => ld_blt I hg hm hv ⟨v, H, I, r, h⟩ hn hd

/-! ### arithmetic -/
/-- two ints -/
def t2I (ta tb : TE) (k : Int → Int → Hp → Prop) : St → Hp → Prop := fun σ H => ta σ H fun x H1 => tb σ H1 fun y H2 => ∃ i j, x = .int i ∧ y = .int j ∧ k i j H2
def tAdd (ta tb : TE) : TE := fun σ H Q => t2I ta tb (fun i j H2 => Q (.int (i + j)) H2) σ H
def tSub (ta tb : TE) : TE := fun σ H Q => t2I ta tb (fun i j H2 => Q (.int (i - j)) H2) σ H
/-- the left factor below 2^64 -/
def tMul (ta tb : TE) : TE := fun σ H Q => t2I ta tb (fun i j H2 => (-(2 ^ 64) < i ∧ i < 2 ^ 64) ∧ Q (.int (i * j)) H2) σ H
variable {a b : Expr} {ta tb : TE} {pos : Pos}
theorem pe_add (ha : PE X a ta) (hb : PE X b tb) : PE X (.BinOp a .Add b pos) (tAdd ta tb) := by
  intro pins s σ H Q I h
  refine wpAny_BinOp (bin ha hb I h fun v u s2 x y H2 I2 rx ry q => ?_)
  obtain ⟨i, j, rfl, rfl, q⟩ := q
  obtain ⟨t, rfl⟩ := rx
  obtain ⟨t', rfl⟩ := ry
  exact add_int ⟨.int _, H2, I2.tok _, ⟨_, rfl⟩, q⟩
theorem pe_sub (ha : PE X a ta) (hb : PE X b tb) : PE X (.BinOp a .Sub b pos) (tSub ta tb) := by
  intro pins s σ H Q I h
  refine wpAny_BinOp (bin ha hb I h fun v u s2 x y H2 I2 rx ry q => ?_)
  obtain ⟨i, j, rfl, rfl, q⟩ := q
  obtain ⟨t, rfl⟩ := rx
  obtain ⟨t', rfl⟩ := ry
  exact sub_int ⟨.int _, H2, I2.tok _, ⟨_, rfl⟩, q⟩
theorem pe_mul (ha : PE X a ta) (hb : PE X b tb) : PE X (.BinOp a .Mult b pos) (tMul ta tb) := by
  intro pins s σ H Q I h
  refine wpAny_BinOp (bin ha hb I h fun v u s2 x y H2 I2 rx ry q => ?_)
  obtain ⟨i, j, rfl, rfl, ⟨q1, q2⟩, q⟩ := q
  obtain ⟨t, rfl⟩ := rx
  obtain ⟨t', rfl⟩ := ry
  exact mul_int ⟨.int _, H2, I2.tok _, ⟨_, rfl⟩, q⟩ (.of_left (intBits_le_64 q1 q2))

/-! ### comparisons -/
def PC (X : Cx) (op : CmpOp) (a b : Expr) (t : TE) : Prop :=
  ∀ (pins : List (Addr × Obj)) (s : Shared) (σ : St) (H : Hp) (Q : VK), Inv X pins σ H s → t σ H Q →
    wpAny (model X.prog X.w) X.A (eval a X.env) (fun v s₁ => wpAny (model X.prog X.w) X.A (eval b X.env) (fun u s₂ => wpAny (model X.prog X.w) X.A (compareOp op v u) (EP X pins σ Q) X.xe s₂) X.xe s₁) X.xe s
theorem nobehind (b : Expr) {op : CmpOp} (h : op ≠ .In) (h2 : op ≠ .NotIn) : behindInMarks op b = false := by
  have e1 : (op == CmpOp.In) = false := by cases op <;> first | rfl | exact absurd rfl h
  have e2 : (op == CmpOp.NotIn) = false := by cases op <;> first | rfl | exact absurd rfl h2
  cases b <;> simp [behindInMarks, e1, e2]
def tCmp (p : Int → Int → Bool) (ta tb : TE) : TE := fun σ H Q => t2I ta tb (fun i j H2 => Q (.bl (p i j)) H2) σ H
abbrev tLt : TE → TE → TE := tCmp fun i j => decide (i < j)
abbrev tLe : TE → TE → TE := tCmp fun i j => decide (i ≤ j)
abbrev tGt : TE → TE → TE := tCmp fun i j => decide (j < i)
abbrev tGe : TE → TE → TE := tCmp fun i j => decide (j ≤ i)
abbrev tEqI : TE → TE → TE := tCmp fun i j => decide (i = j)
abbrev tNeI : TE → TE → TE := tCmp fun i j => !decide (i = j)
/-- a comparison of two ints, by its rule -/
theorem pc_int {op : CmpOp} {p : Int → Int → Bool} (ha : PE X a ta) (hb : PE X b tb)
    (rule : ∀ (i j : Int) (t u : Tok) (Q : Value → Shared → Prop) (s : Shared), Q (.bool (p i j)) s → wpAny (model X.prog X.w) X.A (compareOp op (.int i t) (.int j u)) Q X.xe s) : PC X op a b (tCmp p ta tb) := by
  intro pins s σ H Q I h
  refine bin ha hb I h fun v u s2 x y H2 I2 rx ry q => ?_
  obtain ⟨i, j, rfl, rfl, q⟩ := q
  obtain ⟨t, rfl⟩ := rx
  obtain ⟨t', rfl⟩ := ry
  exact rule i j t t' _ s2 ⟨.bl _, H2, I2, rfl, q⟩
theorem pc_lt (ha : PE X a ta) (hb : PE X b tb) : PC X .Lt a b (tLt ta tb) := pc_int ha hb fun _ _ _ _ _ _ h => lt_int h
theorem pc_le (ha : PE X a ta) (hb : PE X b tb) : PC X .LtE a b (tLe ta tb) := pc_int ha hb fun _ _ _ _ _ _ h => le_int h
theorem pc_gt (ha : PE X a ta) (hb : PE X b tb) : PC X .Gt a b (tGt ta tb) := pc_int ha hb fun _ _ _ _ _ _ h => gt_int h
theorem pc_ge (ha : PE X a ta) (hb : PE X b tb) : PC X .GtE a b (tGe ta tb) := pc_int ha hb fun _ _ _ _ _ _ h => ge_int h
theorem pc_eqI (ha : PE X a ta) (hb : PE X b tb) : PC X .Eq a b (tEqI ta tb) := pc_int ha hb fun _ _ _ _ _ _ h => eq_int (by rw [Bool.beq_eq_decide_eq]; exact h)
theorem pc_neI (ha : PE X a ta) (hb : PE X b tb) : PC X .NotEq a b (tNeI ta tb) := pc_int ha hb fun _ _ _ _ _ _ h => ne_int (by rw [bne, Bool.beq_eq_decide_eq]; exact h)
/-- is None -/
def tIsN (ta : TE) : TE := fun σ H Q => ta σ H fun x H1 => Q (.bl (decide (x = .non))) H1
def tNotN (ta : TE) : TE := fun σ H Q => ta σ H fun x H1 => Q (.bl (!decide (x = .non))) H1
theorem RelV.none_iff {x : V} {v : Value} (r : RelV x v) : (v == Value.none) = decide (x = .non) := by
  cases x with
  | non => cases r; rfl
  | bl _ => cases r; rfl
  | int _ => obtain ⟨t, rfl⟩ := r; rfl
  | str _ => obtain ⟨t, rfl⟩ := r; rfl
  | byt _ => obtain ⟨t, rfl⟩ := r; rfl
  | flt _ => obtain ⟨t, rfl⟩ := r; rfl
  | ref _ => cases r; rfl
  | ty _ => cases r; rfl
theorem pc_isN {j pos'} (ha : PE X a ta) : PC X .Is a (.Constant .none j pos') (tIsN ta) := by
  intro pins s σ H Q I h
  refine thn (ha pins s σ H _ I h) fun v s1 ⟨x, H1, I1, r1, q1⟩ => ?_
  exact Constant_none (is_none_gen ⟨.bl _, H1, I1, by rw [r1.none_iff]; rfl, q1⟩)
theorem pc_notN {j pos'} (ha : PE X a ta) : PC X .IsNot a (.Constant .none j pos') (tNotN ta) := by
  intro pins s σ H Q I h
  refine thn (ha pins s σ H _ I h) fun v s1 ⟨x, H1, I1, r1, q1⟩ => ?_
  exact Constant_none (isnot_none_gen ⟨.bl _, H1, I1, by rw [r1.none_iff]; rfl, q1⟩)
/-- a comparison as a value, as a test -/
def tB (t : TE) : TT := fun σ H Q => t σ H fun x H1 => ∃ c, x = .bl c ∧ Q c H1
theorem pe_cmp {op : CmpOp} {t : TE} (h : PC X op a b t) (h1 : behindInMarks op b = false := by first | exact nobehind _ (by decide) (by decide) | rfl) : PE X (.Compare a [op] [b] pos) t := fun pins s σ H Q I hw => wpAny_Compare1 (h pins s σ H Q I hw) h1
theorem pt_cmp {op : CmpOp} {t : TE} (h : PC X op a b t) (h1 : behindInMarks op b = false := by first | exact nobehind _ (by decide) (by decide) | rfl) : PT X (.Compare a [op] [b] pos) (tB t) := by
  intro pins s σ H Q I hw
  refine wpAny_isTrue_Compare1 (thn (h pins s σ H _ I hw) fun v s1 h1 => thn h1 fun u s2 h2 => thn h2 fun c s3 ⟨x, H1, I1, r1, q1⟩ => ?_) h1
  obtain ⟨d, rfl, q⟩ := q1
  cases r1
  exact wpAny_truthy_bool ⟨H1, I1, q⟩
/-- an expression whose value is a bool, as a test -/
theorem pt_val {e : Expr} {t : TE} (h : PE X e t) (he : ∀ whole, isTrue e X.env whole = (do let v ← whole; standAt e.pos; holding [v] (truthy v)) := by intro _; rfl) : PT X e (tB t) := by
  intro pins s σ H Q I hw
  refine isTrue_plain (thn (h pins s σ H _ I hw) fun v s1 ⟨x, H1, I1, r1, q1⟩ => ?_) (he _)
  obtain ⟨d, rfl, q⟩ := q1
  cases r1
  exact wpAny_truthy_bool ⟨H1, I1, q⟩

/-! ### and, or, not -/
variable {tA tB' : TT} {rest : List Expr}
def tAnd (t u : TT) : TT := fun σ H Q => t σ H fun c H1 => if c = true then u σ H1 Q else Q false H1
def tOr (t u : TT) : TT := fun σ H Q => t σ H fun c H1 => if c = true then Q true H1 else u σ H1 Q
def tNot (t : TT) : TT := fun σ H Q => t σ H fun c H1 => Q (!c) H1
theorem pw_and1 (ha : PT X a tA) : PW X (.BoolOp .And [a] pos) tA := by
  intro wh pins s σ H Q I h
  refine isTrue_and (thn (ha pins s σ H Q I h) fun c s1 e => ?_)
  cases c with
  | true => exact isTrue_and_nil e
  | false => exact e
theorem pw_or1 (ha : PT X a tA) : PW X (.BoolOp .Or [a] pos) tA := by
  intro wh pins s σ H Q I h
  refine isTrue_or (thn (ha pins s σ H Q I h) fun c s1 e => ?_)
  cases c with
  | false => exact isTrue_or_nil e
  | true => exact e
theorem pw_and (ha : PT X a tA) (hb : PW X (.BoolOp .And (b :: rest) pos) tB') : PW X (.BoolOp .And (a :: b :: rest) pos) (tAnd tA tB') := by
  intro wh pins s σ H Q I h
  refine isTrue_and (thn (ha pins s σ H _ I h) fun c s1 ⟨H1, I1, q1⟩ => ?_)
  cases c with
  | true => exact hb wh pins s1 σ H1 Q I1 q1
  | false => exact ⟨H1, I1, q1⟩
theorem pw_or (ha : PT X a tA) (hb : PW X (.BoolOp .Or (b :: rest) pos) tB') : PW X (.BoolOp .Or (a :: b :: rest) pos) (tOr tA tB') := by
  intro wh pins s σ H Q I h
  refine isTrue_or (thn (ha pins s σ H _ I h) fun c s1 ⟨H1, I1, q1⟩ => ?_)
  cases c with
  | true => exact ⟨H1, I1, q1⟩
  | false => exact hb wh pins s1 σ H1 Q I1 q1
theorem pt_not (ha : PT X a tA) : PT X (.UnaryOp .Not a pos) (tNot tA) := by
  intro pins s σ H Q I h
  exact isTrue_not (ha pins s σ H (fun c H1 => Q (!c) H1) I h)
/-- .. as values (bools) -/
def tAndV (ta tb : TE) : TE := fun σ H Q => ta σ H fun x H1 => ∃ c, x = .bl c ∧ if c = true then tb σ H1 Q else Q (.bl false) H1
def tOrV (ta tb : TE) : TE := fun σ H Q => ta σ H fun x H1 => ∃ c, x = .bl c ∧ if c = true then Q (.bl true) H1 else tb σ H1 Q
def tNotV (ta : TE) : TE := fun σ H Q => ta σ H fun x H1 => ∃ c, x = .bl c ∧ Q (.bl (!c)) H1
theorem pe_one {op} {t : TE} (h : PE X a t) : PE X (.BoolOp op [a] pos) t := fun pins s σ H Q I hw => BoolOp_one (h pins s σ H Q I hw)
theorem pe_and (ha : PE X a ta) (hb : PE X (.BoolOp .And (b :: rest) pos) tb) : PE X (.BoolOp .And (a :: b :: rest) pos) (tAndV ta tb) := by
  intro pins s σ H Q I h
  refine BoolOp_and (thn (ha pins s σ H _ I h) fun v s1 ⟨x, H1, I1, r1, q1⟩ => ?_)
  obtain ⟨c, rfl, q1⟩ := q1
  cases r1
  refine wpAny_truthy_bool ?_
  cases c with
  | true => exact hb pins s1 σ H1 Q I1 q1
  | false => exact ⟨.bl false, H1, I1, rfl, q1⟩
theorem pe_or (ha : PE X a ta) (hb : PE X (.BoolOp .Or (b :: rest) pos) tb) : PE X (.BoolOp .Or (a :: b :: rest) pos) (tOrV ta tb) := by
  intro pins s σ H Q I h
  refine BoolOp_or (thn (ha pins s σ H _ I h) fun v s1 ⟨x, H1, I1, r1, q1⟩ => ?_)
  obtain ⟨c, rfl, q1⟩ := q1
  cases r1
  refine wpAny_truthy_bool ?_
  cases c with
  | false => exact hb pins s1 σ H1 Q I1 q1
  | true => exact ⟨.bl true, H1, I1, rfl, q1⟩
theorem pe_not (ha : PE X a ta) : PE X (.UnaryOp .Not a pos) (tNotV ta) := by
  intro pins s σ H Q I h
  refine UnaryOp_ (thn (ha pins s σ H _ I h) fun v s1 ⟨x, H1, I1, r1, q1⟩ => ?_)
  obtain ⟨c, rfl, q1⟩ := q1
  cases r1
  exact not_of (wpAny_truthy_bool ⟨.bl (!c), H1, I1, rfl, q1⟩)
/-- a if t else b -/
def tIf (t : TT) (ta tb : TE) : TE := fun σ H Q => t σ H fun c H1 => if c = true then ta σ H1 Q else tb σ H1 Q
theorem pe_ifExp {c : Expr} (hc : PT X c tA) (ha : PE X a ta) (hb : PE X b tb) : PE X (.IfExp c a b pos) (tIf tA ta tb) := by
  intro pins s σ H Q I h
  refine wpAny_IfExp (thn (hc pins s σ H _ I h) fun d s1 ⟨H1, I1, q1⟩ => ?_)
  cases d with
  | true => exact ha pins s1 σ H1 Q I1 q1
  | false => exact hb pins s1 σ H1 Q I1 q1
end
end L2

namespace L2
open PySem PySem.Spec PyProof.Rows

/-! ### a list, a tuple that is read: tracked, frozen, or an object of the module -/
def SqL (K : PySem.W.Frag) (H : Hp) (a : Addr) (xs : List V) : Prop :=
  Rd H a (.lst xs) ∨
    ∃ (o : Obj) (its : Array Value) (n : Nat), K.lookup a = some o ∧ o.cls = .type "list" ∧ o.dict = none ∧ o.data = .seq its n ∧ its.size ≤ sizeLine ∧ Vals xs its.toList
def SqT (K : PySem.W.Frag) (H : Hp) (a : Addr) (xs : List V) : Prop :=
  Rd H a (.tup xs) ∨
    ∃ (o : Obj) (its : Array Value) (n : Nat), K.lookup a = some o ∧ o.cls = .type "tuple" ∧ o.data = .seq its n ∧ its.size ≤ sizeLine ∧ Vals xs its.toList
def absV : Value → Option V
  | .none => some .non
  | .bool b => some (.bl b)
  | .int i _ => some (.int i)
  | .str x _ => some (.str x)
  | .bytes b _ => some (.byt b)
  | .float b _ => some (.flt b)
  | .ref a => some (.ref a)
  | .type n => some (.ty n)
  | _ => none
theorem RelV.abs {x : V} {u : Value} (r : RelV x u) : absV u = some x := by
  cases x with
  | non => cases r; rfl
  | bl _ => cases r; rfl
  | int _ => obtain ⟨t, rfl⟩ := r; rfl
  | str _ => obtain ⟨t, rfl⟩ := r; rfl
  | byt _ => obtain ⟨t, rfl⟩ := r; rfl
  | flt _ => obtain ⟨t, rfl⟩ := r; rfl
  | ref _ => cases r; rfl
  | ty _ => cases r; rfl
theorem RelV.inj {x y : V} {u : Value} (r : RelV x u) (q : RelV y u) : x = y := Option.some.inj (r.abs.symm.trans q.abs)
theorem Vals.inj : ∀ {xs ys : List V} {us : List Value}, Vals xs us → Vals ys us → xs = ys
  | _, _, _, .nil, .nil => rfl
  | _, _, _, .cons r t, .cons r' t' => by rw [r.inj r', Vals.inj t t']
section
variable {X : Cx} {pins : List (Addr × Obj)} {σ : St} {H : Hp} {s : Shared} {a : Addr} {xs ys : List V}
theorem SqL.of {K : PySem.W.Frag} (h : H a = some (.lst xs)) : SqL K H a xs := .inl (.inl h)
theorem SqT.of {K : PySem.W.Frag} (h : H a = some (.tup xs)) : SqT K H a xs := .inl (.inl h)
theorem Inv.list (I : Inv X pins σ H s) (h : SqL X.K H a xs) : ∃ its : List Value, Vals xs its ∧ PlainL s.heap a its.toArray ∧ xs.length ≤ sizeLine := by
  rcases h with h | ⟨o, its, n, hk, hc, hd, hs, hz, r⟩
  · obtain ⟨z, its, n, r, e⟩ := h.ok I.hok
    exact ⟨its, r, ⟨_, n, e, rfl, rfl, rfl⟩, z⟩
  · refine ⟨its.toList, r, ⟨o, n, I.kIn a o hk, hc, hd, by simpa using hs⟩, ?_⟩
    have e := r.length
    simp only [Array.length_toList] at e
    omega
theorem Inv.tuple (I : Inv X pins σ H s) (h : SqT X.K H a xs) : ∃ its : List Value, Vals xs its ∧ IsTup s.heap a its.toArray ∧ xs.length ≤ sizeLine := by
  rcases h with h | ⟨o, its, n, hk, hc, hs, hz, r⟩
  · obtain ⟨z, its, r, p⟩ := h.ok I.hok
    exact ⟨its, r, p, z⟩
  · refine ⟨its.toList, r, ⟨o, I.kIn a o hk, hc, n, by simpa using hs⟩, ?_⟩
    have e := r.length
    simp only [Array.length_toList] at e
    omega
theorem Inv.list_inj (I : Inv X pins σ H s) (h : SqL X.K H a xs) (h' : SqL X.K H a ys) : xs = ys := by
  obtain ⟨its, r, ⟨o, n, e, _, _, d⟩, _⟩ := I.list h
  obtain ⟨its', r', ⟨o', n', e', _, _, d'⟩, _⟩ := I.list h'
  rw [e] at e'; cases e'
  rw [d] at d'
  injection d' with d1 _
  have : its = its' := by simpa using congrArg Array.toList d1
  subst this
  exact r.inj r'
theorem Inv.tuple_inj (I : Inv X pins σ H s) (h : SqT X.K H a xs) (h' : SqT X.K H a ys) : xs = ys := by
  obtain ⟨its, r, ⟨o, e, _, n, d⟩, _⟩ := I.tuple h
  obtain ⟨its', r', ⟨o', e', _, n', d'⟩, _⟩ := I.tuple h'
  rw [e] at e'; cases e'
  rw [d] at d'
  injection d' with d1 _
  have : its = its' := by simpa using congrArg Array.toList d1
  subst this
  exact r.inj r'
end

/-! ### another wish about exceptions -/
abbrev Cx.wish (X : Cx) (E : Value → Shared → Prop) : Cx := { X with xe := E }
/-- no exception leaves -/
abbrev Cx.nox (X : Cx) : Cx := X.wish fun _ _ => False
theorem Cx.Ok.wish {X : Cx} (ok : X.Ok) (E : Value → Shared → Prop) : (X.wish E).Ok :=
  ⟨ok.mod, ok.kind, ok.glob, ok.blt, ok.above, ok.inj, ok.has, ok.cab, ok.hd, ok.frames, ok.stk, ok.exf, ok.bs, ok.bsz, ok.noex, ok.exfs, ok.funs, ok.frf⟩
theorem Cx.Ok.unwish {X : Cx} {E : Value → Shared → Prop} (ok : (X.wish E).Ok) : X.Ok :=
  ⟨ok.mod, ok.kind, ok.glob, ok.blt, ok.above, ok.inj, ok.has, ok.cab, ok.hd, ok.frames, ok.stk, ok.exf, ok.bs, ok.bsz, ok.noex, ok.exfs, ok.funs, ok.frf⟩
section
variable {X : Cx} {pins : List (Addr × Obj)} {σ : St} {H : Hp} {s : Shared} {E : Value → Shared → Prop}
theorem Inv.wish (I : Inv X pins σ H s) (E : Value → Shared → Prop) : Inv (X.wish E) pins σ H s := ⟨I.ok.wish E, I.os, I.bare, I.base, I.loc, I.cell, I.free, I.freeC, I.pin, I.hok, I.len⟩
theorem Inv.unwish (I : Inv (X.wish E) pins σ H s) : Inv X pins σ H s := ⟨I.ok.unwish, I.os, I.bare, I.base, I.loc, I.cell, I.free, I.freeC, I.pin, I.hok, I.len⟩
theorem SP.unwish {D : Ends} {f : Flow} {s' : Shared} (h : SP (X.wish E) pins D f s') : SP X pins D f s' := by
  cases f with
  | next => obtain ⟨σ', H', I, q⟩ := h; exact ⟨σ', H', I.unwish, q⟩
  | brk => obtain ⟨σ', H', I, q⟩ := h; exact ⟨σ', H', I.unwish, q⟩
  | cont => obtain ⟨σ', H', I, q⟩ := h; exact ⟨σ', H', I.unwish, q⟩
  | ret u => obtain ⟨v, σ', H', I, r, q⟩ := h; exact ⟨v, σ', H', I.unwish, r, q⟩
theorem PE.nox {e : Expr} {t : TE} (h : PE X.nox e t) : PE X e t := fun pins s σ H Q I hw =>
  wpAny_mono (h pins s σ H Q (I.wish _) hw) (fun _ _ ⟨v, H', I', r, q⟩ => ⟨v, H', I'.unwish, r, q⟩) fun _ _ z => False.elim z
theorem PT.nox {e : Expr} {t : TT} (h : PT X.nox e t) : PT X e t := fun pins s σ H Q I hw =>
  wpAny_mono (h pins s σ H Q (I.wish _) hw) (fun _ _ ⟨H', I', q⟩ => ⟨H', I'.unwish, q⟩) fun _ _ z => False.elim z
theorem PSs.nox {st : List Stmt} {t : TS} (h : PSs X.nox st t) : PSs X st t := fun pins s σ H D I hw =>
  wpAny_mono (h pins s σ H D (I.wish _) hw) (fun _ _ q => q.unwish) fun _ _ z => False.elim z
end

/-! ### blocks and small statements -/
section
variable {X : Cx} {st : Stmt} {rest : List Stmt} {t u : TS} {e : Expr} {te : TE} {pos : Pos}
def tNext : TS := fun D σ H => D.nx σ H
def tSeq (t u : TS) : TS := fun D σ H => t { D with nx := u D } σ H
theorem pss_nil : PSs X [] tNext := fun _ _ σ H _ I h => wpAny_execs_nil ⟨σ, H, I, h⟩
theorem pss_cons (h1 : PS X st t) (h2 : PSs X rest u) : PSs X (st :: rest) (tSeq t u) := by
  intro pins s σ H D I h
  refine wpAny_execs_cons (thn (h1 pins s σ H { D with nx := u D } I h) fun f s1 q => ?_)
  cases f with
  | next =>
    obtain ⟨σ', H', I', q⟩ := q
    exact h2 pins s1 σ' H' D I' q
  | ret v => exact q
  | brk => exact q
  | cont => exact q
theorem pss_one (h1 : PS X st t) : PSs X [st] t := by
  intro pins s σ H D I h
  refine wpAny_execs_cons (thn (h1 pins s σ H D I h) fun f s1 q => ?_)
  cases f with
  | next => exact wpAny_execs_nil q
  | ret v => exact q
  | brk => exact q
  | cont => exact q
def tBreak : TS := fun D σ H => D.bk σ H
def tCont : TS := fun D σ H => D.ct σ H
theorem ps_pass : PS X (.Pass pos) tNext := fun _ _ σ H _ I h => wpAny_Pass ⟨σ, H, I, h⟩
theorem ps_break : PS X (.Break pos) tBreak := fun _ _ σ H _ I h => wpAny_Break ⟨σ, H, I, h⟩
theorem ps_continue : PS X (.Continue pos) tCont := fun _ _ σ H _ I h => wpAny_Continue ⟨σ, H, I, h⟩
/-- in a def's body nothing is shown -/
theorem Inv.quiet {pins : List (Addr × Obj)} {σ : St} {H : Hp} {s : Shared} (I : Inv X pins σ H s) : interactive X.env = false := by simp [interactive, I.ok.kind]
/-- a docstring -/
theorem ps_doc {x j pos pos'} : PS X (.Expr (.Constant (.str x) j pos) pos') tNext := fun _ s σ H _ I h => wpAny_Expr (Calls.Constant_str (show SP X _ _ .next { s with toks := s.toks + 1 } from ⟨σ, H, I.tok _, h⟩)) I.quiet
/-- an expression whose value is dropped -/
def tDrop (te : TE) : TS := fun D σ H => te σ H fun _ H1 => D.nx σ H1
theorem ps_expr (he : PE X e te) (hs : swapsWith e none pos.line X.env = pure false := by rfl) : PS X (.Expr e pos) (tDrop te) := by
  intro pins s σ H D I h
  exact wpAny_Expr_any (thn (he pins s σ H _ I h) fun v s1 ⟨x, H1, I1, r1, q1⟩ => ⟨σ, H1, I1, q1⟩) I.quiet hs
def tRet (te : TE) : TS := fun D σ H => te σ H D.rt
theorem ps_ret (he : PE X e te) : PS X (.Return (some e) pos) (tRet te) := by
  intro pins s σ H D I h
  exact wpAny_Return_some (thn (he pins s σ H _ I h) fun v s1 ⟨x, H1, I1, r1, q1⟩ => ⟨x, σ, H1, I1, r1, q1⟩)
def tRetN : TS := fun D _ H => D.rt .non H
theorem ps_retN : PS X (.Return none pos) tRetN := fun _ _ σ H _ I h => wpAny_Return_none ⟨.non, σ, H, I, rfl, h⟩
def tIfS (c : TT) (t u : TS) : TS := fun D σ H => c σ H fun b H1 => if b = true then t D σ H1 else u D σ H1
theorem ps_if {c : Expr} {a b : List Stmt} {tc : TT} (hc : PT X c tc) (ha : PSs X a t) (hb : PSs X b u) : PS X (.If c a b pos) (tIfS tc t u) := by
  intro pins s σ H D I h
  refine wpAny_If (thn (hc pins s σ H _ I h) fun d s1 ⟨H1, I1, q1⟩ => ?_)
  cases d with
  | true => exact ha pins s1 σ H1 D I1 q1
  | false => exact hb pins s1 σ H1 D I1 q1
/-- code that the proof never comes to -/
def tNever : TS := fun _ _ _ => False
theorem ps_never : PS X st tNever := fun _ _ _ _ _ _ h => h.elim
theorem pss_never {sts : List Stmt} : PSs X sts tNever := fun _ _ _ _ _ _ h => h.elim
end

/-! ### targets -/
abbrev TG := V → St → Hp → (St → Hp → Prop) → Prop
abbrev TGs := List V → St → Hp → (St → Hp → Prop) → Prop
def PG (X : Cx) (target : Expr) (t : TG) : Prop :=
  ∀ (pins : List (Addr × Obj)) (s : Shared) (σ : St) (H : Hp) (v : V) (u : Value) (Q : St → Hp → Prop), Inv X pins σ H s → RelV v u → t v σ H Q →
    wpAny (model X.prog X.w) X.A (assign target X.env u) (fun _ s' => ∃ σ' H', Inv X pins σ' H' s' ∧ Q σ' H') X.xe s
/-- several targets, one after another -/
def PGs (X : Cx) (ts : List Expr) (t : TGs) : Prop :=
  ∀ (pins : List (Addr × Obj)) (s : Shared) (σ : St) (H : Hp) (vs : List V) (us : List Value) (Q : St → Hp → Prop), Inv X pins σ H s → Vals vs us → t vs σ H Q →
    wpAny (model X.prog X.w) X.A (assignInOrder ((assignEach ts X.env).map (·.2)) us) (fun _ s' => ∃ σ' H', Inv X pins σ' H' s' ∧ Q σ' H') X.xe s
/-- o[i] = v, by values -/
abbrev TSet := V → V → V → Hp → (Hp → Prop) → Prop
def PSet (X : Cx) (t : TSet) : Prop :=
  ∀ (pins : List (Addr × Obj)) (s : Shared) (σ : St) (H : Hp) (o i v : V) (ov iv u : Value) (Q : Hp → Prop), Inv X pins σ H s → RelV o ov → RelV i iv → RelV v u → t o i v H Q →
    wpAny (model X.prog X.w) X.A (setItem ov iv u) (fun _ s' => ∃ H', Inv X pins σ H' s' ∧ Q H') X.xe s
/-- a op= b, by values -/
abbrev TIp := V → V → Hp → VK → Prop
def PIp (X : Cx) (op : Operator) (t : TIp) : Prop :=
  ∀ (pins : List (Addr × Obj)) (s : Shared) (σ : St) (H : Hp) (x y : V) (v u : Value) (Q : VK), Inv X pins σ H s → RelV x v → RelV y u → t x y H Q →
    wpAny (model X.prog X.w) X.A (inplaceOp op v u) (EP X pins σ Q) X.xe s
section
variable {X : Cx} {pos : Pos}
def gName (i : Nat) : TG := fun v σ H Q => Q (σ.set i (some v)) H
theorem pg_name {i : Nat} {x : Str} (hN : X.N.Nodup) (hi : X.N[i]? = some x) (hx : Loc X.env.scope x) (hf : X.fn x = true ∨ X.env.scope.names.lookup x = some .local := by first | exact .inl rfl | exact .inr rfl | assumption) : PG X (.Name x pos) (gName i) := by
  intro pins s σ H v u Q I r h
  exact wpAny_assign_Name (store_ok I hN hi hx r (fun s' I' => ⟨_, H, I', h⟩) hf)
def gNil : TGs := fun vs σ H Q => vs = [] ∧ Q σ H
def gCons (t : TG) (u : TGs) : TGs := fun vs σ H Q => ∃ v r, vs = v :: r ∧ t v σ H fun σ' H' => u r σ' H' Q
theorem pgs_nil : PGs X [] gNil := by
  intro pins s σ H vs us Q I r h
  obtain ⟨e, h⟩ := h
  subst e
  cases r
  exact assignInOrder_nil ⟨σ, H, I, h⟩
theorem pgs_cons {e : Expr} {es : List Expr} {t : TG} {u : TGs} (h1 : PG X e t) (h2 : PGs X es u)
    (hs : (assignEach (e :: es) X.env).map (·.2) = assign e X.env :: (assignEach es X.env).map (·.2) := by rfl) : PGs X (e :: es) (gCons t u) := by
  intro pins s σ H vs us Q I r h
  obtain ⟨v, vr, e1, h⟩ := h
  subst e1
  cases r with
  | cons r rr =>
    rw [hs]
    refine assignInOrder_cons (thn (h1 pins s σ H _ _ _ I r h) fun _ s1 ⟨σ1, H1, I1, q1⟩ => ?_)
    exact h2 pins s1 σ1 H1 _ _ Q I1 rr q1
/-- (a, b, ..) = a tuple of that length -/
def gTup (K : PySem.W.Frag) (n : Nat) (t : TGs) : TG := fun v σ H Q => ∃ a xs, v = .ref a ∧ SqT K H a xs ∧ xs.length = n ∧ t xs σ H Q
theorem pg_tup {es : List Expr} {k : Nat} {t : TGs} {n : Nat} (hc : X.calm = true) (h : PGs X es t)
    (hn : (assignEach es X.env).length = n := by rfl) (hst : (assignEach es X.env).findIdx? (·.1) = none := by rfl) : PG X (.Tuple es k pos) (gTup X.K n t) := by
  intro pins s σ H v u Q I r hw
  obtain ⟨a, xs, e1, hq, hl, hw⟩ := hw
  subst e1
  cases r
  obtain ⟨its, rv, ht, hz⟩ := I.tuple hq
  refine assign_Tuple_tuple (I.ok.hd hc) ht (by simp [hn, ← hl, rv.length]) hst fun h' hx => ?_
  have I1 : Inv X pins σ H { s with heap := h' } := I.kept (t' := s.toks) fun b o e => hx b o (Nat.ne_of_lt (Heap.lt_size e)) e
  exact h pins _ σ H xs _ Q I1 (by simpa using rv) hw
/-- o[i] = .. -/
def gSub (to ti : TE) (t : TSet) : TG := fun v σ H Q => to σ H fun o H1 => ti σ H1 fun i H2 => t o i v H2 fun H3 => Q σ H3
theorem pg_sub {o i : Expr} {to ti : TE} {t : TSet} (ho : PE X o to) (hi : PE X i ti) (hs : PSet X t)
    (ha : ∀ v, assign (.Subscript o i pos) X.env v = (do
      let ov ← holding [v] (eval o X.env)
      let iv ← holding [v, ov] (eval i X.env)
      standAt pos
      holding [v, ov, iv] (setItem ov iv v)
      release [v, ov, iv] []) := by intro _; rfl) : PG X (.Subscript o i pos) (gSub to ti t) := by
  intro pins s σ H v u Q I r h
  rw [ha]
  refine wpAny_bind (wpAny_holding (thn (ho pins s σ H _ I h) fun ov s1 ⟨x, H1, I1, r1, q1⟩ => ?_))
  refine wpAny_bind (wpAny_holding (thn (hi pins s1 σ H1 _ I1 q1) fun iv s2 ⟨y, H2, I2, r2, q2⟩ => ?_))
  refine wpAny_bind (wpAny_standAt (wpAny_bind (wpAny_holding (thn (hs pins s2 σ H2 x y v ov iv u _ I2 r1 r2 r q2) fun _ s3 ⟨H3, I3, q3⟩ => ?_))))
  exact wpAny_release ⟨σ, H3, I3, q3⟩
/-- target = value -/
def tAsg (te : TE) (g : TG) : TS := fun D σ H => te σ H fun x H1 => g x σ H1 D.nx
theorem ps_asg {tg e : Expr} {te : TE} {g : TG} (he : PE X e te) (hg : PG X tg g) (hs : swapsWithSole [tg] e pos.line X.env = pure false := by rfl) (hw : swappedStores [tg] e X.env = pure none := by rfl)
    (h1 : (assignEach [tg] X.env).map (·.2) = [assign tg X.env] := by rfl) : PS X (.Assign [tg] e pos) (tAsg te g) := by
  intro pins s σ H D I h
  refine wpAny_Assign_stores (thn (he pins s σ H _ I h) fun v s1 ⟨x, H1, I1, r1, q1⟩ => ?_) hs hw
  rw [h1]
  exact thn (hg pins s1 σ H1 x v _ I1 r1 q1) fun _ s2 q => q
/-- name = value -/
theorem ps_set {i : Nat} {x : Str} {e : Expr} {te : TE} {pos' : Pos} (hN : X.N.Nodup) (hi : X.N[i]? = some x) (hx : Loc X.env.scope x) (he : PE X e te) (hs : swapsWith e (some (.Name x pos')) pos.line X.env = pure false := by rfl) (hf : X.fn x = true ∨ X.env.scope.names.lookup x = some .local := by first | exact .inl rfl | exact .inr rfl | assumption) :
    PS X (.Assign [.Name x pos'] e pos) (tAsg te (gName i)) := by
  intro pins s σ H D I h
  refine wpAny_Assign_Name (thn (he pins s σ H _ I h) fun v s1 ⟨y, H1, I1, r1, q1⟩ => ?_) hs
  exact store_ok I1 hN hi hx r1 (fun s2 I2 => ⟨_, H1, I2, q1⟩) hf
/-- a, b = x, y with plain local names: stored from the right; the pair itself is not tracked (the opening rows as in PyProof/Rows/TupAssign.lean:23) -/
def tPar (i j : Nat) (ta : TA) : TS := fun D σ H => ta σ H fun vs H1 => ∃ v w, vs = [v, w] ∧ D.nx ((σ.set i (some v)).set j (some w)) H1
theorem ps_par {i j : Nat} {x y : Str} {a b : Expr} {ta : TA} {px py pt : Pos} {kt k2 pt2} (hc : X.calm = true) (hN : X.N.Nodup) (hi : X.N[i]? = some x) (hj : X.N[j]? = some y) (hij : i ≠ j)
    (hx : X.env.scope.names.lookup x = some .local) (hy : X.env.scope.names.lookup y = some .local) (ha : PA X [a, b] ta)
    (hw : swappedStores [.Tuple [.Name x px, .Name y py] kt pt] (.Tuple [a, b] k2 pt2) X.env = pure (some [x, y]))
    (hs : swapsWithSole [.Tuple [.Name x px, .Name y py] kt pt] (.Tuple [a, b] k2 pt2) pos.line X.env = pure false := by rfl) :
    PS X (.Assign [.Tuple [.Name x px, .Name y py] kt pt] (.Tuple [a, b] k2 pt2) pos) (tPar i j ta) := by
  intro pins s σ H D I h
  rw [exec_Assign_arm]
  refine wpAny_bind (wpAny_standAt ?_)
  rw [hs]
  refine wpAny_bind (wpAny_pure ?_)
  rw [if_neg (by decide)]
  refine wpAny_bind (Tuple_ (thn (ha _ pins s σ H _ I h) fun us s1 ⟨vs, H1, I1, r1, q1⟩ => ?_))
  obtain ⟨v, w, e1, q1⟩ := q1
  subst e1
  obtain ⟨u1, u2, rfl, rv, rw'⟩ : ∃ u1 u2, us = [u1, u2] ∧ RelV v u1 ∧ RelV w u2 := by
    cases r1 with
    | cons p q =>
      cases q with
      | cons p' q' =>
        cases q'
        exact ⟨_, _, rfl, p, p'⟩
  refine wpAny_newObj_type ?_ (by show 2 ≤ sizeLine; decide)
  have I2 : Inv X pins σ H1 { s1 with heap := s1.heap.push { cls := .type "tuple", data := .seq [u1, u2].toArray } } := I1.kept (t' := s1.toks) fun b o e => Heap.get?_push_of_some _ e
  rw [hw]
  refine wpAny_bind (wpAny_pure ?_)
  show wpAny (model X.prog X.w) X.A (do rule "assign.swapped-stores"; let items ← unpackItems (.ref s1.heap.objs.size) 2 none; assignInOrder [fun v => bindName X.env y v, fun v => bindName X.env x v] items.reverse; pure Flow.next) _ _ _
  refine wpAny_bind (wpAny_rule (wpAny_bind (unpackItems_tuple (items := #[u1, u2]) (I.ok.hd hc) (IsTup.new s1.heap _) fun h' hx' => ?_)))
  have I3 := I2.kept (h' := h') (t' := s1.toks) fun b o e => hx' b o (Nat.ne_of_lt (Heap.lt_size e)) e
  show wpAny _ _ (assignInOrder [fun v => bindName X.env y v, fun v => bindName X.env x v] [u2, u1] >>= fun _ => pure Flow.next) _ _ _
  refine wpAny_bind (assignInOrder_cons (wpAny_bindName (store_ok I3 hN hj (.inl hy) rw' (fun s2 I4 => ?_) (.inr hy))))
  refine assignInOrder_cons (wpAny_bindName (store_ok I4 hN hi (.inl hx) rv (fun s3 I5 => assignInOrder_nil (wpAny_pure ?_)) (.inr hx)))
  rw [List.set_comm _ _ (Ne.symm hij)] at I5
  exact ⟨_, H1, I5, q1⟩
/-- name op= e -/
def tAug (i : Nat) (te : TE) (ti : TIp) : TS := fun D σ H => ∃ x, σ[i]? = some (some x) ∧ te σ H fun y H1 => ti x y H1 fun z H2 => D.nx (σ.set i (some z)) H2
theorem ps_aug {i : Nat} {x : Str} {e : Expr} {te : TE} {op : Operator} {ti : TIp} {pos' : Pos} (hN : X.N.Nodup) (hi : X.N[i]? = some x) (hx : Loc X.env.scope x) (he : PE X e te) (ho : PIp X op ti) (hf : X.fn x = true ∨ X.env.scope.names.lookup x = some .local := by first | exact .inl rfl | exact .inr rfl | assumption) :
    PS X (.AugAssign (.Name x pos') op e pos) (tAug i te ti) := by
  intro pins s σ H D I h
  obtain ⟨v, e1, h⟩ := h
  obtain ⟨m, hn, hl⟩ := I.loc
  have vis : Vis X.env.scope x := by rcases hx with k | k; exact .inl k; exact .inr (.inl k)
  obtain ⟨u, r, l⟩ := hl i x v hi e1 vis
  refine wpAny_AugAssign_Name ?_
  have go : wpAny (model X.prog X.w) X.A (eval e X.env) (fun w s₂ => wpAny (model X.prog X.w) X.A (inplaceOp op u w) (fun r s₃ => wpAny (model X.prog X.w) X.A (storeName X.env x r) (fun _ => SP X pins D .next) X.xe s₃) X.xe s₂) X.xe s := by
    refine thn (he pins s σ H _ I h) fun w s1 ⟨y, H1, I1, r1, q1⟩ => ?_
    refine thn (ho pins s1 σ H1 v y u w _ I1 r r1 q1) fun z s2 ⟨zv, H2, I2, r2, q2⟩ => ?_
    exact store_ok I2 hN hi hx r2 (fun s3 I3 => ⟨_, H2, I3, q2⟩) hf
  rcases l with ⟨hk, hm⟩ | ⟨hk, c, hc, hcell⟩
  · exact wpAny_loadName_local I.ok.kind hk hn hm go
  · rcases hk with hk | hk
    · exact wpAny_loadName_cell I.ok.kind hk hc hcell go
    · rcases hx with k | k
      · have : X.env.scope.names.lookup x = some .free := hk
        rw [k] at this; cases this
      · have : X.env.scope.names.lookup x = some .free := hk
        rw [k] at this; cases this
/-- o[i] op= e -/
def tAugS (to ti te : TE) (tget : V → V → Hp → VK → Prop) (tip : TIp) (tset : TSet) : TS := fun D σ H => to σ H fun o H1 => ti σ H1 fun i H2 => tget o i H2 fun x H3 => te σ H3 fun y H4 => tip x y H4 fun z H5 => tset o i z H5 fun H6 => D.nx σ H6
/-- o[i], by values -/
def PGet (X : Cx) (t : V → V → Hp → VK → Prop) : Prop :=
  ∀ (pins : List (Addr × Obj)) (s : Shared) (σ : St) (H : Hp) (o i : V) (ov iv : Value) (Q : VK), Inv X pins σ H s → RelV o ov → RelV i iv → t o i H Q →
    wpAny (model X.prog X.w) X.A (getItem ov iv) (EP X pins σ Q) X.xe s
theorem ps_augS {o i e : Expr} {to ti te : TE} {tget : V → V → Hp → VK → Prop} {tip : TIp} {tset : TSet} {op : Operator} {tpos : Pos} (ho : PE X o to) (hi : PE X i ti) (hg : PGet X tget) (he : PE X e te) (hp : PIp X op tip) (hs : PSet X tset)
    (ha : ∀ ov iv new, augStore i ov iv new = (do holding [new, ov, iv] (setItem ov iv new); release [new, ov, iv] []; pure .next) := by intros; rfl) : PS X (.AugAssign (.Subscript o i tpos) op e pos) (tAugS to ti te tget tip tset) := by
  intro pins s σ H D I h
  refine wpAny_AugAssign_SubscriptAny (thn (ho pins s σ H _ I h) fun ov s1 ⟨x1, H1, I1, r1, q1⟩ => ?_) ha
  refine thn (hi pins s1 σ H1 _ I1 q1) fun iv s2 ⟨x2, H2, I2, r2, q2⟩ => ?_
  refine thn (hg pins s2 σ H2 x1 x2 ov iv _ I2 r1 r2 q2) fun old s3 ⟨x3, H3, I3, r3, q3⟩ => ?_
  refine thn (he pins s3 σ H3 _ I3 q3) fun v s4 ⟨x4, H4, I4, r4, q4⟩ => ?_
  refine thn (hp pins s4 σ H4 x3 x4 old v _ I4 r3 r4 q4) fun new s5 ⟨x5, H5, I5, r5, q5⟩ => ?_
  exact thn (hs pins s5 σ H5 x1 x2 x5 ov iv new _ I5 r1 r2 r5 q5) fun _ s6 ⟨H6, I6, q6⟩ => ⟨σ, H6, I6, q6⟩
/-- ints -/
def ipI (f : Int → Int → Int) : TIp := fun x y H Q => ∃ i j, x = .int i ∧ y = .int j ∧ Q (.int (f i j)) H
theorem ip_add : PIp X .Add (ipI fun i j => i + j) := by
  intro pins s σ H x y v u Q I r1 r2 h
  obtain ⟨i, j, e1, e2, q⟩ := h
  subst e1; subst e2
  obtain ⟨t, rfl⟩ := r1
  obtain ⟨t', rfl⟩ := r2
  exact iadd_int ⟨.int _, H, I.tok _, ⟨_, rfl⟩, q⟩
theorem ip_sub : PIp X .Sub (ipI fun i j => i - j) := by
  intro pins s σ H x y v u Q I r1 r2 h
  obtain ⟨i, j, e1, e2, q⟩ := h
  subst e1; subst e2
  obtain ⟨t, rfl⟩ := r1
  obtain ⟨t', rfl⟩ := r2
  exact isub_int ⟨.int _, H, I.tok _, ⟨_, rfl⟩, q⟩
end

/-! ### while -/
section
variable {X : Cx} {pos : Pos}
/-- the invariant W with its measure -/
def tWhile (c : TT) (tb : TS) : TS := fun D σ H => ∃ W : Nat → St → Hp → Prop, (∃ m, W m σ H) ∧ ∀ m σ H, W m σ H →
  c σ H fun b H1 => if b = true then ∃ N : St → Hp → Prop, (∀ σ' H', N σ' H' → ∃ m', m' < m ∧ W m' σ' H') ∧ tb { D with nx := N, ct := N, bk := D.nx } σ H1 else D.nx σ H1
theorem ps_while {c : Expr} {body : List Stmt} {tc : TT} {tb : TS} (hp : PassesOwn (model X.prog X.w) X.A X.env X.xe) (hc : PT X c tc) (hb : PSs X body tb) : PS X (.While c body [] pos) (tWhile tc tb) := by
  intro pins s σ H D I h
  obtain ⟨W, ⟨m0, w0⟩, turn⟩ := h
  refine wpAny_While (codeAny_whileLoop (fun n s' => ∃ σ' H', Inv X pins σ' H' s' ∧ W n σ' H') ?_ m0 ⟨σ, H, I, w0⟩)
  rintro n s1 ⟨σ1, H1, I1, w1⟩
  refine wpAny_passesOwn hp (thn (hc pins s1 σ1 H1 _ I1 (turn n σ1 H1 w1)) fun b s2 ⟨H2, I2, q2⟩ => ?_)
  cases b with
  | true =>
    obtain ⟨N, hN, q2⟩ := q2
    rw [if_pos rfl]
    refine wpAny_passesOwn hp (thn (hb pins s2 σ1 H2 _ I2 q2) fun f s3 q3 => ?_)
    cases f with
    | next =>
      obtain ⟨σ3, H3, I3, n3⟩ := q3
      obtain ⟨m', hm, w3⟩ := hN σ3 H3 n3
      exact ⟨m', hm, σ3, H3, I3, w3⟩
    | cont =>
      obtain ⟨σ3, H3, I3, n3⟩ := q3
      obtain ⟨m', hm, w3⟩ := hN σ3 H3 n3
      exact ⟨m', hm, σ3, H3, I3, w3⟩
    | brk => exact q3
    | ret v => exact q3
  | false =>
    rw [if_neg Bool.false_ne_true]
    exact wpAny_execs_nil ⟨σ1, H2, I2, q2⟩
end

/-! ### what a loop or a comprehension walks -/
/-- at turn i: it yields x (the heap may grow), or it stops -/
structure It where
  go : Nat → Hp → Prop
  yld : Nat → Hp → V → Hp → Prop
  stop : Nat → Hp → Prop
/-- the iterator's own objects may turn: they are not the frame's, not pinned, younger than the entry (or a comprehension's own) -/
def FpOk (X : Cx) (pins : List (Addr × Obj)) (H : Hp) (b : Addr) : Prop :=
  H b = none ∧ b ≠ X.env.locals ∧ b ∉ X.fs ∧ (b ∈ X.ex ∨ X.s₀.heap.objs.size ≤ b) ∧ (∀ x c, X.env.cells.lookup x = some c → c ≠ b) ∧ ∀ p ∈ X.pn ++ pins, p.1 ≠ b
theorem Inv.fpOk {X : Cx} {pins : List (Addr × Obj)} {σ : St} {H H' : Hp} {s : Shared} {b : Addr} (I : Inv X pins σ H s) (hb : s.heap.objs.size ≤ b) (hn : H' b = none) : FpOk X pins H' b := by
  refine ⟨hn, Nat.ne_of_gt (Nat.lt_of_lt_of_le I.lt hb), I.nofs hb, .inr (Nat.le_trans I.sz hb), fun x c e z => ?_, fun p hp z => ?_⟩
  · obtain ⟨v, q⟩ := I.cell x c e
    exact absurd (Nat.lt_of_lt_of_le q.lt (by rw [z]; exact hb)) (Nat.lt_irrefl _)
  · exact absurd (Nat.lt_of_lt_of_le (Heap.lt_size (I.pin p hp).1) (by rw [z]; exact hb)) (Nat.lt_irrefl _)
structure Turn (P : Program) (w : World) (K : PySem.W.Frag) (tg : Expr) (J : It) (fp : List Addr) (it : Addr) (tn : Nat → Heap → Prop) : Prop where
  mem : it ∈ fp
  obj : ∀ i h, tn i h → ∀ b ∈ fp, ∃ o, h.get? b = some o ∧ ∀ v, o.data ≠ .cell v
  keep : ∀ i h h', tn i h → (∀ b ∈ fp, ∀ o, h.get? b = some o → h'.get? b = some o) → tn i h'
  item : ∀ (X : Cx), X.prog = P → X.w = w → X.K = K → X.calm = true → ∀ (i : Nat) (pins : List (Addr × Obj)) (s : Shared) (σ : St) (H : Hp) (E : Value → Shared → Prop), Inv X pins σ H s → (∀ b ∈ fp, FpOk X pins H b) → tn i s.heap → J.go i H →
    wpAny (model P w) X.A (pyNext (.ref it)) (fun r s1 => ∃ u, r = some u ∧
      wpAny (model P w) X.A (letOwnedTupleGo tg (.ref it) u) (fun _ s2 => ∃ x H', Inv X pins σ H' s2 ∧ RelV x u ∧ J.yld i H x H' ∧ tn (i + 1) s2.heap ∧ ∀ b ∈ fp, H' b = none) E s1) E s
  done : ∀ (X : Cx), X.prog = P → X.w = w → X.K = K → X.calm = true → ∀ (i : Nat) (pins : List (Addr × Obj)) (s : Shared) (σ : St) (H : Hp) (E : Value → Shared → Prop), Inv X pins σ H s → (∀ b ∈ fp, FpOk X pins H b) → tn i s.heap → J.stop i H →
    wpAny (model P w) X.A (pyNext (.ref it)) (fun r s1 => r = none ∧ Inv X pins σ H s1) E s
  self : ∀ (A : Around) (i : Nat) (s : Shared) (Q : Value → Shared → Prop) (E : Value → Shared → Prop), tn i s.heap → Q (.ref it) s → wpAny (model P w) A (pyIter (.ref it)) Q E s
abbrev TI := St → Hp → (It → Hp → Prop) → Prop
/-- an iterator has come -/
def PIE (X : Cx) (pins : List (Addr × Obj)) (σ : St) (tg : Expr) (R : It → Hp → Prop) (itv : Value) (s2 : Shared) : Prop :=
  ∃ (it : Addr) (fp : List Addr) (tn : Nat → Heap → Prop) (J : It) (H' : Hp), itv = .ref it ∧ Inv X pins σ H' s2 ∧ Turn X.prog X.w X.K tg J fp it tn ∧ tn 0 s2.heap ∧ (∀ b ∈ fp, FpOk X pins H' b) ∧ R J H'
def PI (X : Cx) (tg iter : Expr) (wi : TI) : Prop :=
  ∀ (pins : List (Addr × Obj)) (s : Shared) (σ : St) (H : Hp) (R : It → Hp → Prop), Inv X pins σ H s → wi σ H R →
    wpAny (model X.prog X.w) X.A (eval iter X.env) (fun v s1 => wpAny (model X.prog X.w) X.A (pyIter v) (PIE X pins σ tg R) X.xe s1) X.xe s

/-- the step ahead of the store is nothing for an iterator that keeps no tuple -/
theorem go_of {M : Model} {A : Around} {E : Value → Shared → Prop} {s : Shared} {tg : Expr} {it : Addr} {u : Value} {o : Obj} {n : String} {vs : Array Value} {Q : Unit → Shared → Prop} (ho : s.heap.get? it = some o) (hc : o.cls = .type n) (hd : o.data = .fields vs)
    (hn : ["enumerate", "zip", "dict_itemiterator", "dict_reverseitemiterator", "odict_iterator", "itertools.zip_longest", "itertools.pairwise"].contains n = false) (hQ : Q () s) : wpAny M A (letOwnedTupleGo tg (.ref it) u) Q E s := by
  unfold letOwnedTupleGo
  cases tg <;> first
    | exact wpAny_pure hQ
    | (cases u <;> first
        | exact wpAny_pure hQ
        | (refine wpAny_bind (wpAny_load ho ?_)
           rw [hc, hd]
           show wpAny M A (if (["enumerate", "zip", "dict_itemiterator", "dict_reverseitemiterator", "odict_iterator", "itertools.zip_longest", "itertools.pairwise"].contains n && vs[0]? == some (rawInt _)) = true then _ else _) Q E s
           rw [if_neg (by intro h; rw [hn, Bool.false_and] at h; cases h)]
           exact wpAny_pure hQ))

/-- the list at a, as it stands at each turn (a loop may append to it) -/
def Itl (K : PySem.W.Frag) (a : Addr) : It :=
  ⟨fun i H => ∃ xs x, SqL K H a xs ∧ xs[i]? = some x, fun i H x H' => H' = H ∧ ∀ xs, SqL K H a xs → xs[i]? = some x, fun i H => ∃ xs, SqL K H a xs ∧ xs.length ≤ i⟩
def Itt (K : PySem.W.Frag) (a : Addr) : It :=
  ⟨fun i H => ∃ xs x, SqT K H a xs ∧ xs[i]? = some x, fun i H x H' => H' = H ∧ ∀ xs, SqT K H a xs → xs[i]? = some x, fun i H => ∃ xs, SqT K H a xs ∧ xs.length ≤ i⟩
/-- lo, lo + 1, .. (n of them) -/
def Itr (lo : Int) (n : Nat) : It := ⟨fun i _ => i < n, fun i H x H' => H' = H ∧ x = .int (lo + i), fun i _ => n ≤ i⟩
theorem turn_list {P : Program} {w : World} {K : PySem.W.Frag} {tg : Expr} (a it : Addr) : Turn P w K tg (Itl K a) [it] it (fun i h => h.IsListIter it a i) where
  mem := by simp
  obj := fun i h st b hb => by
    have e : b = it := by simpa using hb
    subst e
    obtain ⟨o, e, c, d⟩ := st
    exact ⟨o, e, fun v z => by rw [d] at z; cases z⟩
  keep := fun i h h' st k => st.at fun o e => k it (by simp) o e
  item := by
    intro X hP hw hK hc i pins s σ H E I hf st hg
    subst hP hw hK
    obtain ⟨xs, x, hq, hx⟩ := hg
    obtain ⟨its, rv, p, hz⟩ := I.list hq
    obtain ⟨u, hu, ru⟩ := rv.get hx
    obtain ⟨f0, f1, f2, f3, f4, f5⟩ := hf it (by simp)
    refine wpAny_pyNext_list_item st p.isList (x := u) (by simpa using hu) fun h' st' sb => ?_
    have I1 : Inv X pins σ H { s with heap := h' } := I.turned (t' := s.toks) (fun b o hb e => (sb.2 b hb).trans e) f0 f1 f3 f4 f5
    obtain ⟨o, e, c, d⟩ := id st'
    exact ⟨u, rfl, go_of (s := { s with heap := h' }) e c d (by decide) ⟨x, H, I1, ru, ⟨rfl, fun ys hy => by rw [I.list_inj hy hq]; exact hx⟩, st', fun b hb => (hf b hb).1⟩⟩
  done := by
    intro X hP hw hK hc i pins s σ H E I hf st hg
    subst hP hw hK
    obtain ⟨xs, hq, hx⟩ := hg
    obtain ⟨its, rv, p, hz⟩ := I.list hq
    obtain ⟨f0, f1, f2, f3, f4, f5⟩ := hf it (by simp)
    have hl := rv.length
    exact wpAny_pyNext_list_end (I.ok.hd hc) st p.isList (by simp; omega) fun h' eb => ⟨rfl, I.turned (t' := s.toks) (fun b o hb e => eb b o hb e) f0 f1 f3 f4 f5⟩
  self := fun _ _ _ _ _ st h => wpAny_pyIter_listiter st h
theorem turn_tuple {P : Program} {w : World} {K : PySem.W.Frag} {tg : Expr} (a it : Addr) : Turn P w K tg (Itt K a) [it] it (fun i h => h.IsTupleIter it a i) where
  mem := by simp
  obj := fun i h st b hb => by
    have e : b = it := by simpa using hb
    subst e
    obtain ⟨o, e, c, d⟩ := st
    exact ⟨o, e, fun v z => by rw [d] at z; cases z⟩
  keep := fun i h h' st k => st.at fun o e => k it (by simp) o e
  item := by
    intro X hP hw hK hc i pins s σ H E I hf st hg
    subst hP hw hK
    obtain ⟨xs, x, hq, hx⟩ := hg
    obtain ⟨its, rv, p, hz⟩ := I.tuple hq
    obtain ⟨u, hu, ru⟩ := rv.get hx
    obtain ⟨f0, f1, f2, f3, f4, f5⟩ := hf it (by simp)
    refine wpAny_pyNext_tuple_item st (show s.heap.IsTuple a its.toArray from p) (x := u) (by simpa using hu) fun h' st' sb => ?_
    have I1 : Inv X pins σ H { s with heap := h' } := I.turned (t' := s.toks) (fun b o hb e => (sb.2 b hb).trans e) f0 f1 f3 f4 f5
    obtain ⟨o, e, c, d⟩ := id st'
    exact ⟨u, rfl, go_of (s := { s with heap := h' }) e c d (by decide) ⟨x, H, I1, ru, ⟨rfl, fun ys hy => by rw [I.tuple_inj hy hq]; exact hx⟩, st', fun b hb => (hf b hb).1⟩⟩
  done := by
    intro X hP hw hK hc i pins s σ H E I hf st hg
    subst hP hw hK
    obtain ⟨xs, hq, hx⟩ := hg
    obtain ⟨its, rv, p, hz⟩ := I.tuple hq
    obtain ⟨f0, f1, f2, f3, f4, f5⟩ := hf it (by simp)
    have hl := rv.length
    exact wpAny_pyNext_tuple_end (I.ok.hd hc) st (show s.heap.IsTuple a its.toArray from p) (by simp; omega) fun h' eb => ⟨rfl, I.turned (t' := s.toks) (fun b o hb e => eb b o hb e) f0 f1 f3 f4 f5⟩
  self := fun _ _ _ _ _ st h => wpAny_pyIter_tupleiter st h
theorem turn_range {P : Program} {w : World} {K : PySem.W.Frag} {tg : Expr} (it : Addr) (lo : Int) (n : Nat) : Turn P w K tg (Itr lo n) [it] it (fun i h => IsRangeIter h it (lo + (i : Nat) * 1) ((n : Int) - (i : Nat)) 1) where
  mem := by simp
  obj := fun i h st b hb => by
    have e : b = it := by simpa using hb
    subst e
    exact ⟨_, st, fun v z => by
      have z' : Data.fields _ = Data.cell v := z
      cases z'⟩
  keep := fun i h h' st k => k it (by simp) _ st
  item := by
    intro X hP hw hK hc i pins s σ H E I hf st hg
    subst hP hw hK
    obtain ⟨f0, f1, f2, f3, f4, f5⟩ := hf it (by simp)
    have W := Walks.range (prog := X.prog) (w := X.w) (I.ok.hd hc) it lo 1 n
    refine W.item i s _ _ hg st fun v h' tk hv st' kk => ?_
    obtain ⟨t, rfl⟩ := hv
    have I1 : Inv X pins σ H { s with heap := h', toks := tk } := I.turned (fun b o hb e => kk b o (by simpa using hb) e) f0 f1 f3 f4 f5
    refine ⟨_, rfl, go_of (s := { s with heap := h', toks := tk }) (n := "range_iterator") st' rfl rfl (by decide) ⟨.int (lo + i), H, I1, ⟨t, ?_⟩, ⟨rfl, rfl⟩, st', fun b hb => (hf b hb).1⟩⟩
    rw [Int.mul_one]
  done := by
    intro X hP hw hK hc i pins s σ H E I hf st hg
    subst hP hw hK
    obtain ⟨f0, f1, f2, f3, f4, f5⟩ := hf it (by simp)
    exact wpAny_pyNext_range_end (I.ok.hd hc) st (by have : n ≤ i := hg; omega) fun h' eb => ⟨rfl, I.turned (t' := s.toks) (fun b o hb e => eb b o hb e) f0 f1 f3 f4 f5⟩
  self := fun _ _ _ _ _ st h => wpAny_pyIter_rangeiter st h
end L2

namespace L2
open PySem PySem.Spec PyProof.Rows
section
variable {X : Cx} {tg : Expr}
def iList (K : PySem.W.Frag) (tl : TE) : TI := fun σ H R => tl σ H fun x H1 => ∃ a, x = .ref a ∧ (∃ xs, SqL K H1 a xs) ∧ R (Itl K a) H1
def iTup (K : PySem.W.Frag) (tl : TE) : TI := fun σ H R => tl σ H fun x H1 => ∃ a, x = .ref a ∧ (∃ xs, SqT K H1 a xs) ∧ R (Itt K a) H1
theorem pi_list {l : Expr} {tl : TE} (hl : PE X l tl) : PI X tg l (iList X.K tl) := by
  intro pins s σ H R I h
  refine thn (hl pins s σ H _ I h) fun v s1 ⟨x, H1, I1, r1, q1⟩ => ?_
  obtain ⟨a, e, ⟨xs, hq⟩, q⟩ := q1
  subst e
  cases r1
  obtain ⟨its, rv, p, hz⟩ := I1.list hq
  refine wpAny_pyIter_list p.isList ?_
  refine ⟨s1.heap.objs.size, [s1.heap.objs.size], _, _, H1, rfl, I1.kept (t' := s1.toks) fun b o e => Heap.get?_push_of_some _ e, turn_list a _, ⟨_, Heap.get?_push_size _ rfl, rfl, rfl⟩, fun b hb => ?_, q⟩
  have e : b = s1.heap.objs.size := by simpa using hb
  subst e
  exact I1.fpOk (Nat.le_refl _) (I1.hok.fresh (Nat.le_refl _))
theorem pi_tup {l : Expr} {tl : TE} (hl : PE X l tl) : PI X tg l (iTup X.K tl) := by
  intro pins s σ H R I h
  refine thn (hl pins s σ H _ I h) fun v s1 ⟨x, H1, I1, r1, q1⟩ => ?_
  obtain ⟨a, e, ⟨xs, hq⟩, q⟩ := q1
  subst e
  cases r1
  obtain ⟨its, rv, p, hz⟩ := I1.tuple hq
  refine wpAny_pyIter_tuple (show s1.heap.IsTuple a its.toArray from p) ?_
  refine ⟨s1.heap.objs.size, [s1.heap.objs.size], _, _, H1, rfl, I1.kept (t' := s1.toks) fun b o e => Heap.get?_push_of_some _ e, turn_tuple a _, ⟨_, Heap.get?_push_size _ rfl, rfl, rfl⟩, fun b hb => ?_, q⟩
  have e : b = s1.heap.objs.size := by simpa using hb
  subst e
  exact I1.fpOk (Nat.le_refl _) (I1.hok.fresh (Nat.le_refl _))
/-- a range object just made, walked -/
theorem range_it {pins : List (Addr × Obj)} {σ : St} {H : Hp} {s : Shared} {R : It → Hp → Prop} {E : Value → Shared → Prop} {lo hi : Int} {t u v : Tok} {tk : Nat} (I : Inv X pins σ H s) (h1 : -(2 ^ 62) ≤ lo) (h2 : lo < 2 ^ 62) (h3 : -(2 ^ 62) ≤ hi) (h4 : hi < 2 ^ 62)
    (q : R (Itr lo (hi - lo).toNat) H) : wpAny (model X.prog X.w) X.A (pyIter (.ref s.heap.objs.size)) (PIE X pins σ tg R) E { s with heap := s.heap.push { cls := .type "range", data := .fields #[.int lo t, .int hi u, .int 1 v] }, toks := tk } := by
  refine wpAny_pyIter_range (IsRange.new ..) (small_one h1 h2 h3 h4) ?_
  have I1 : Inv X pins σ H { s with heap := s.heap.push { cls := .type "range", data := .fields #[.int lo t, .int hi u, .int 1 v] }, toks := tk } := I.kept fun b o e => Heap.get?_push_of_some _ e
  refine ⟨(s.heap.push { cls := .type "range", data := .fields #[.int lo t, .int hi u, .int 1 v] }).objs.size, [(s.heap.push { cls := .type "range", data := .fields #[.int lo t, .int hi u, .int 1 v] }).objs.size], _, _, H, rfl,
    I1.kept (t' := tk) fun b o e => Heap.get?_push_of_some _ e, turn_range _ lo (hi - lo).toNat, ?_, fun b hb => ?_, q⟩
  · have e1 : lo + ((0 : Nat) : Int) * 1 = lo := by simp
    have e2 : (((hi - lo).toNat : Nat) : Int) - ((0 : Nat) : Int) = Builtin.Range.rangeSize lo hi 1 := by rw [rangeSize_one]; split <;> omega
    show IsRangeIter _ _ (lo + ((0 : Nat) : Int) * 1) ((((hi - lo).toNat : Nat) : Int) - ((0 : Nat) : Int)) 1
    rw [e1, e2]
    exact Heap.get?_push_size _ rfl
  · have e : b = (s.heap.push { cls := .type "range", data := .fields #[.int lo t, .int hi u, .int 1 v] }).objs.size := by simpa using hb
    subst e
    exact I1.fpOk (Nat.le_refl _) (I1.hok.fresh (Nat.le_refl _))
def iRng1 (ta : TA) : TI := fun σ H R => ta σ H fun vs H1 => ∃ j : Int, vs = [.int j] ∧ -(2 ^ 62) ≤ j ∧ j < 2 ^ 62 ∧ R (Itr 0 j.toNat) H1
def iRng2 (ta : TA) : TI := fun σ H R => ta σ H fun vs H1 => ∃ i j : Int, vs = [.int i, .int j] ∧ (-(2 ^ 62) ≤ i ∧ i < 2 ^ 62 ∧ -(2 ^ 62) ≤ j ∧ j < 2 ^ 62) ∧ R (Itr i (j - i).toNat) H1
theorem pi_range1 {a : Expr} {ta : TA} {p pos : Pos} (hg : Gl X "range") (hm : X.mg "range" = none) (ha : PA X [a] ta) (hs : starEach [a] X.env = [(false, eval a X.env)] := by rfl) : PI X tg (.Call (.Name "range" p) [a] [] pos) (iRng1 ta) := by
  intro pins s σ H R I h
  refine Call_ (ld_blt I hg hm boot_range (PyProof.Rows.callWith_type1 (thn (ha pos pins s σ H _ I h) fun us s1 ⟨vs, H1, I1, r1, q1⟩ => ?_) hs rfl))
  obtain ⟨j, e, q1, q2, q⟩ := q1
  subst e
  cases r1 with
  | cons r rr =>
    cases rr
    obtain ⟨t, rfl⟩ := r
    exact call_range_1 (range_it I1 (by omega) (by omega) q1 q2 (by simpa using q))
theorem pi_range2 {a b : Expr} {ta : TA} {p pos : Pos} (hg : Gl X "range") (hm : X.mg "range" = none) (ha : PA X [a, b] ta) (hs : starEach [a, b] X.env = [(false, eval a X.env), (false, eval b X.env)] := by rfl) (hs2 : starEach [b] X.env = [(false, eval b X.env)] := by rfl) :
    PI X tg (.Call (.Name "range" p) [a, b] [] pos) (iRng2 ta) := by
  intro pins s σ H R I h
  refine Call_ (ld_blt I hg hm boot_range (PyProof.Rows.callWith_type1 (thn (ha pos pins s σ H _ I h) fun us s1 ⟨vs, H1, I1, r1, q1⟩ => ?_) (by rw [hs, hs2]) (by rw [hs2]; rfl)))
  obtain ⟨i, j, e, ⟨q1, q2, q3, q4⟩, q⟩ := q1
  subst e
  cases r1 with
  | cons r rr =>
    cases rr with
    | cons r' rr =>
      cases rr
      obtain ⟨t, rfl⟩ := r
      obtain ⟨t', rfl⟩ := r'
      exact call_range_2 (range_it I1 q1 q2 q3 q4 q)

/-! ### for -/
/-- W: the invariant by the turn and a measure; N: what the body is to reach -/
def tFor (wi : TI) (g : TG) (tb : TS) : TS := fun D σ H => wi σ H fun J H1 => ∃ W : Nat → Nat → St → Hp → Prop, (∃ m, W 0 m σ H1) ∧ ∀ i m σ H, W i m σ H →
  (J.stop i H ∧ D.nx σ H) ∨ (J.go i H ∧ ∃ N : St → Hp → Prop, (∀ σ' H', N σ' H' → ∃ m', m' < m ∧ W (i + 1) m' σ' H') ∧ ∀ x H', J.yld i H x H' → g x σ H' fun σ2 H2 => tb { D with nx := N, ct := N, bk := D.nx } σ2 H2)
/-- the records at fp as they stand -/
def pinsAt (fp : List Addr) (h : Heap) : List (Addr × Obj) := fp.filterMap fun b => (h.get? b).map fun o => (b, o)
theorem mem_pinsAt {fp : List Addr} {h : Heap} {b : Addr} {o : Obj} (hb : b ∈ fp) (e : h.get? b = some o) : (b, o) ∈ pinsAt fp h := List.mem_filterMap.mpr ⟨b, hb, by rw [e]; rfl⟩
theorem of_pinsAt {fp : List Addr} {h : Heap} {p : Addr × Obj} (hp : p ∈ pinsAt fp h) : p.1 ∈ fp ∧ h.get? p.1 = some p.2 := by
  obtain ⟨b, hb, e⟩ := List.mem_filterMap.mp hp
  cases q : h.get? b with
  | none => rw [q] at e; cases e
  | some o =>
    rw [q] at e
    have e' : (b, o) = p := Option.some.inj e
    subst e'
    exact ⟨hb, q⟩
theorem Inv.pinned {pins : List (Addr × Obj)} {σ : St} {H : Hp} {s : Shared} {fp : List Addr} (I : Inv X pins σ H s) (hf : ∀ b ∈ fp, FpOk X pins H b) (ho : ∀ b ∈ fp, ∃ o, s.heap.get? b = some o ∧ ∀ v, o.data ≠ .cell v) : Inv X (pins ++ pinsAt fp s.heap) σ H s :=
  I.pins_of fun p hp => (List.mem_append.mp hp).elim (fun z => I.pin p (List.mem_append_right _ z)) fun z => by
    obtain ⟨hb, e⟩ := of_pinsAt z
    obtain ⟨f0, f1, f2, _⟩ := hf p.1 hb
    obtain ⟨o, e', d⟩ := ho p.1 hb
    rw [e] at e'; cases e'
    exact ⟨e, f0, f1, f2, d⟩
theorem Inv.unpinned {pins pl : List (Addr × Obj)} {σ : St} {H : Hp} {s : Shared} (I : Inv X (pins ++ pl) σ H s) : Inv X pins σ H s := I.pins_of fun p hp => I.pin p (List.mem_append_right _ (List.mem_append_left _ hp))
theorem ps_for {iter : Expr} {body : List Stmt} {wi : TI} {g : TG} {tb : TS} {pos : Pos} (hp : PassesOwn (model X.prog X.w) X.A X.env X.xe) (hc : X.calm = true) (hi : PI X tg iter wi) (hg : PG X tg g) (hb : PSs X body tb)
    (hs : ∀ x, foldedSetIterable iter X.env x = pure x := by intro _; rfl) : PS X (.For tg iter body [] pos) (tFor wi g tb) := by
  intro pins s σ H D I h
  refine wpAny_For (thn (hi pins s σ H _ I h) fun v s1 h1 => thn h1 fun itv s2 h2 => ?_) hs
  obtain ⟨it, fp, tn, J, H2, e, I2, T, st2, f2, W, ⟨m0, w0⟩, turn⟩ := h2
  subst e
  -- what stays true of the iterator's objects through the loop
  have stat : ∀ {H' : Hp}, (∀ b ∈ fp, H' b = none) → ∀ b ∈ fp, FpOk X pins H' b := fun hn b hb => ⟨hn b hb, (f2 b hb).2⟩
  refine codeAny_forLoop_any (fun n s' => ∃ i σ' H', Inv X pins σ' H' s' ∧ tn i s'.heap ∧ (∀ b ∈ fp, H' b = none) ∧ W i n σ' H') ?_ m0 ⟨0, σ, H2, I2, st2, fun b hb => (f2 b hb).1, w0⟩
  rintro n s3 ⟨i, σ3, H3, I3, st3, fr3, w3⟩
  rcases turn i n σ3 H3 w3 with ⟨stop, qn⟩ | ⟨go, N, hN, step⟩
  · refine wpAny_passesOwn hp (thn (T.done X rfl rfl rfl hc i pins s3 σ3 H3 X.xe I3 (stat fr3) st3 stop) fun r s4 ⟨hr, I4⟩ => ?_)
    subst hr
    exact wpAny_execs_nil ⟨σ3, H3, I4, qn⟩
  · refine wpAny_passesOwn hp (thn (T.item X rfl rfl rfl hc i pins s3 σ3 H3 X.xe I3 (stat fr3) st3 go) fun r s4 ⟨u, hr, h4⟩ => ?_)
    subst hr
    refine wpAny_passesOwn hp (thn h4 fun _ s5 ⟨x, H5, I5, r5, y5, st5, fr5⟩ => ?_)
    have I5' := I5.pinned (stat fr5) (T.obj _ _ st5)
    refine wpAny_passesOwn hp (thn (hg _ s5 σ3 H5 x u _ I5' r5 (step x H5 y5)) fun _ s6 ⟨σ6, H6, I6, q6⟩ => ?_)
    refine wpAny_passesOwn hp (thn (hb _ s6 σ6 H6 _ I6 q6) fun f s7 q7 => ?_)
    have again : ∀ {σ7 : St} {H7 : Hp}, Inv X (pins ++ pinsAt fp s5.heap) σ7 H7 s7 → N σ7 H7 → ∃ m, m < n ∧ ∃ i σ' H', Inv X pins σ' H' s7 ∧ tn i s7.heap ∧ (∀ b ∈ fp, H' b = none) ∧ W i m σ' H' := fun {σ7 H7} I7 n7 => by
      obtain ⟨m', hm, w7⟩ := hN σ7 H7 n7
      refine ⟨m', hm, i + 1, σ7, H7, I7.unpinned, T.keep _ _ _ st5 fun b hb o e => (I7.pin (b, o) (List.mem_append_right _ (List.mem_append_right _ (mem_pinsAt hb e)))).1, fun b hb => ?_, w7⟩
      obtain ⟨o, e, d⟩ := T.obj _ _ st5 b hb
      exact (I7.pin (b, o) (List.mem_append_right _ (List.mem_append_right _ (mem_pinsAt hb e)))).2.1
    cases f with
    | next => obtain ⟨σ7, H7, I7, n7⟩ := q7; exact again I7 n7
    | cont => obtain ⟨σ7, H7, I7, n7⟩ := q7; exact again I7 n7
    | brk => obtain ⟨σ7, H7, I7, q7⟩ := q7; exact ⟨σ7, H7, I7.unpinned, q7⟩
    | ret v => obtain ⟨x7, σ7, H7, I7, r7, q7⟩ := q7; exact ⟨x7, σ7, H7, I7.unpinned, r7, q7⟩
end

/-! ### the forms one uses -/
/-- over a list that the body leaves as it is -/
theorem for_list {K : PySem.W.Frag} {a : Addr} {xs : List V} {g : TG} {tb : TS} {D : Ends} {σ : St} {H : Hp} (Pv : Nat → St → Hp → Prop) (h0 : Pv 0 σ H) (hl : ∀ i σ H, i ≤ xs.length → Pv i σ H → SqL K H a xs)
    (hs : ∀ i x σ H, xs[i]? = some x → Pv i σ H → g x σ H fun σ2 H2 => tb { D with nx := Pv (i + 1), ct := Pv (i + 1), bk := D.nx } σ2 H2) (hd : ∀ σ H, Pv xs.length σ H → D.nx σ H) :
    ∃ W : Nat → Nat → St → Hp → Prop, (∃ m, W 0 m σ H) ∧ ∀ i m σ H, W i m σ H →
      ((Itl K a).stop i H ∧ D.nx σ H) ∨ ((Itl K a).go i H ∧ ∃ N : St → Hp → Prop, (∀ σ' H', N σ' H' → ∃ m', m' < m ∧ W (i + 1) m' σ' H') ∧ ∀ x H', (Itl K a).yld i H x H' → g x σ H' fun σ2 H2 => tb { D with nx := N, ct := N, bk := D.nx } σ2 H2) := by
  refine ⟨fun i m σ H => m = xs.length - i ∧ i ≤ xs.length ∧ Pv i σ H, ⟨xs.length, by simp, Nat.zero_le _, h0⟩, ?_⟩
  rintro i m σ H ⟨rfl, hi, p⟩
  have q := hl i σ H hi p
  by_cases hlt : i < xs.length
  · refine .inr ⟨⟨xs, xs[i], q, by simp [hlt]⟩, Pv (i + 1), fun σ' H' p' => ⟨xs.length - (i + 1), by omega, rfl, hlt, p'⟩, fun x H' y => ?_⟩
    obtain ⟨e, y⟩ := y
    subst e
    exact hs i x σ _ (y xs q) p
  · have e : i = xs.length := by omega
    subst e
    exact .inl ⟨⟨xs, q, Nat.le_refl _⟩, hd σ H p⟩
theorem for_tup {K : PySem.W.Frag} {a : Addr} {xs : List V} {g : TG} {tb : TS} {D : Ends} {σ : St} {H : Hp} (Pv : Nat → St → Hp → Prop) (h0 : Pv 0 σ H) (hl : ∀ i σ H, i ≤ xs.length → Pv i σ H → SqT K H a xs)
    (hs : ∀ i x σ H, xs[i]? = some x → Pv i σ H → g x σ H fun σ2 H2 => tb { D with nx := Pv (i + 1), ct := Pv (i + 1), bk := D.nx } σ2 H2) (hd : ∀ σ H, Pv xs.length σ H → D.nx σ H) :
    ∃ W : Nat → Nat → St → Hp → Prop, (∃ m, W 0 m σ H) ∧ ∀ i m σ H, W i m σ H →
      ((Itt K a).stop i H ∧ D.nx σ H) ∨ ((Itt K a).go i H ∧ ∃ N : St → Hp → Prop, (∀ σ' H', N σ' H' → ∃ m', m' < m ∧ W (i + 1) m' σ' H') ∧ ∀ x H', (Itt K a).yld i H x H' → g x σ H' fun σ2 H2 => tb { D with nx := N, ct := N, bk := D.nx } σ2 H2) := by
  refine ⟨fun i m σ H => m = xs.length - i ∧ i ≤ xs.length ∧ Pv i σ H, ⟨xs.length, by simp, Nat.zero_le _, h0⟩, ?_⟩
  rintro i m σ H ⟨rfl, hi, p⟩
  have q := hl i σ H hi p
  by_cases hlt : i < xs.length
  · refine .inr ⟨⟨xs, xs[i], q, by simp [hlt]⟩, Pv (i + 1), fun σ' H' p' => ⟨xs.length - (i + 1), by omega, rfl, hlt, p'⟩, fun x H' y => ?_⟩
    obtain ⟨e, y⟩ := y
    subst e
    exact hs i x σ _ (y xs q) p
  · have e : i = xs.length := by omega
    subst e
    exact .inl ⟨⟨xs, q, Nat.le_refl _⟩, hd σ H p⟩
theorem for_range {lo : Int} {n : Nat} {g : TG} {tb : TS} {D : Ends} {σ : St} {H : Hp} (Pv : Nat → St → Hp → Prop) (h0 : Pv 0 σ H)
    (hs : ∀ i σ H, i < n → Pv i σ H → g (.int (lo + i)) σ H fun σ2 H2 => tb { D with nx := Pv (i + 1), ct := Pv (i + 1), bk := D.nx } σ2 H2) (hd : ∀ σ H, Pv n σ H → D.nx σ H) :
    ∃ W : Nat → Nat → St → Hp → Prop, (∃ m, W 0 m σ H) ∧ ∀ i m σ H, W i m σ H →
      ((Itr lo n).stop i H ∧ D.nx σ H) ∨ ((Itr lo n).go i H ∧ ∃ N : St → Hp → Prop, (∀ σ' H', N σ' H' → ∃ m', m' < m ∧ W (i + 1) m' σ' H') ∧ ∀ x H', (Itr lo n).yld i H x H' → g x σ H' fun σ2 H2 => tb { D with nx := N, ct := N, bk := D.nx } σ2 H2) := by
  refine ⟨fun i m σ H => m = n - i ∧ i ≤ n ∧ Pv i σ H, ⟨n, by simp, Nat.zero_le _, h0⟩, ?_⟩
  rintro i m σ H ⟨rfl, hi, p⟩
  by_cases hlt : i < n
  · refine .inr ⟨hlt, Pv (i + 1), fun σ' H' p' => ⟨n - (i + 1), by omega, rfl, hlt, p'⟩, fun x H' y => ?_⟩
    obtain ⟨e, y⟩ := y
    subst e y
    exact hs i σ _ hlt p
  · have e : i = n := by omega
    subst e
    exact .inl ⟨Nat.le_refl _, hd σ H p⟩
/-- while, by a word and a measure of the state -/
theorem while_by {c : TT} {tb : TS} {D : Ends} {σ : St} {H : Hp} (Pv : St → Hp → Prop) (μ : St → Hp → Nat) (h0 : Pv σ H)
    (hs : ∀ σ H, Pv σ H → c σ H fun b H1 => if b = true then tb { D with nx := fun σ' H' => Pv σ' H' ∧ μ σ' H' < μ σ H, ct := fun σ' H' => Pv σ' H' ∧ μ σ' H' < μ σ H, bk := D.nx } σ H1 else D.nx σ H1)
    (mono : ∀ σ H Q Q', (∀ b H1, Q b H1 → Q' b H1) → c σ H Q → c σ H Q') : tWhile c tb D σ H := by
  refine ⟨fun m σ H => m = μ σ H ∧ Pv σ H, ⟨_, rfl, h0⟩, ?_⟩
  rintro m σ H ⟨rfl, p⟩
  refine mono σ H _ _ (fun b H1 q => ?_) (hs σ H p)
  cases b with
  | true => exact ⟨_, fun σ' H' ⟨p', l⟩ => ⟨_, l, rfl, p'⟩, q⟩
  | false => exact q
end L2

namespace L2
open PySem PySem.Spec PyProof.Rows

abbrev R2 := V → V → Hp → VK → Prop
/-- a two-place operation on values: f is binaryOp op, inplaceOp op or compareOp op -/
def OpR (X : Cx) (f : Value → Value → Sem Value) (r : R2) : Prop :=
  ∀ (pins : List (Addr × Obj)) (s : Shared) (σ : St) (H : Hp) (x y : V) (v u : Value) (Q : VK), Inv X pins σ H s → RelV x v → RelV y u → r x y H Q →
    wpAny (model X.prog X.w) X.A (f v u) (EP X pins σ Q) X.xe s
/-- a one-place operation -/
def UnR (X : Cx) (f : Value → Sem Value) (r : V → Hp → VK → Prop) : Prop :=
  ∀ (pins : List (Addr × Obj)) (s : Shared) (σ : St) (H : Hp) (x : V) (v : Value) (Q : VK), Inv X pins σ H s → RelV x v → r x H Q →
    wpAny (model X.prog X.w) X.A (f v) (EP X pins σ Q) X.xe s
/-- a call of a value that is known (a builtin, a type) with values -/
def CallR (X : Cx) (f : Value) (r : List V → Hp → VK → Prop) : Prop :=
  ∀ (pins : List (Addr × Obj)) (s : Shared) (σ : St) (H : Hp) (xs : List V) (us : List Value) (Q : VK), Inv X pins σ H s → Vals xs us → r xs H Q →
    wpAny (model X.prog X.w) X.A (call f us) (EP X pins σ Q) X.xe s
/-- a value's truth -/
def TruR (X : Cx) (r : V → Hp → (Bool → Hp → Prop) → Prop) : Prop :=
  ∀ (pins : List (Addr × Obj)) (s : Shared) (σ : St) (H : Hp) (x : V) (v : Value) (Q : Bool → Hp → Prop), Inv X pins σ H s → RelV x v → r x H Q →
    wpAny (model X.prog X.w) X.A (truthy v) (TP X pins σ Q) X.xe s

def tOp (r : R2) (ta tb : TE) : TE := fun σ H Q => ta σ H fun x H1 => tb σ H1 fun y H2 => r x y H2 Q
def tUn (r : V → Hp → VK → Prop) (ta : TE) : TE := fun σ H Q => ta σ H fun x H1 => r x H1 Q
/-- ints in, under C, and a value out -/
def rI (C : Int → Int → Prop) (g : Int → Int → V) : R2 := fun x y H Q => ∃ i j, x = .int i ∧ y = .int j ∧ C i j ∧ Q (g i j) H
def rI0 (g : Int → Int → V) : R2 := fun x y H Q => ∃ i j, x = .int i ∧ y = .int j ∧ Q (g i j) H
def rU (g : Int → V) : V → Hp → VK → Prop := fun x H Q => ∃ i, x = .int i ∧ Q (g i) H

section
variable {X : Cx} {a b c : Expr} {ta tb tc : TE} {pos : Pos}

theorem binT (ha : PE X a ta) (hb : PE X b tb) {pins : List (Addr × Obj)} {s : Shared} {σ : St} {H : Hp} {R : V → V → Hp → Prop} (I : Inv X pins σ H s)
    (h : ta σ H fun x H1 => tb σ H1 fun y H2 => R x y H2) {Q : Value → Shared → Prop} {f : Value → Value → Sem Value}
    (hf : ∀ v u s2 x y H2, Inv X pins σ H2 s2 → RelV x v → RelV y u → R x y H2 → wpAny (model X.prog X.w) X.A (f v u) Q X.xe s2) :
    wpAny (model X.prog X.w) X.A (eval a X.env) (fun v s₁ => wpAny (model X.prog X.w) X.A (eval b X.env) (fun u s₂ => wpAny (model X.prog X.w) X.A (f v u) Q X.xe s₂) X.xe s₁) X.xe s := by
  refine thn (ha pins s σ H _ I h) fun v s1 ⟨x, H1, I1, r1, q1⟩ => ?_
  refine thn (hb pins s1 σ H1 _ I1 q1) fun u s2 ⟨y, H2, I2, r2, q2⟩ => ?_
  exact hf v u s2 x y H2 I2 r1 r2 q2

theorem pe_op {op : Operator} {r : R2} (ho : OpR X (binaryOp op) r) (ha : PE X a ta) (hb : PE X b tb) : PE X (.BinOp a op b pos) (tOp r ta tb) := by
  intro pins s σ H Q I h
  exact wpAny_BinOp (binT ha hb I h fun v u s2 x y H2 I2 rx ry q => ho pins s2 σ H2 x y v u Q I2 rx ry q)
theorem pe_un {op : UnaryOp} {r : V → Hp → VK → Prop} (ho : UnR X (unaryOp op) r) (ha : PE X a ta) : PE X (.UnaryOp op a pos) (tUn r ta) := by
  intro pins s σ H Q I h
  exact UnaryOp_ (thn (ha pins s σ H _ I h) fun v s1 ⟨x, H1, I1, r1, q1⟩ => ho pins s1 σ H1 x v Q I1 r1 q1)
/-- a op= e at a name: the name's slot i -/
theorem augR {op : Operator} {r : R2} (ho : OpR X (inplaceOp op) r) {pins : List (Addr × Obj)} {s : Shared} {σ : St} {H : Hp} {x y : V} {v u : Value} {Q : VK} (I : Inv X pins σ H s)
    (rx : RelV x v) (ry : RelV y u) (q : r x y H Q) : wpAny (model X.prog X.w) X.A (inplaceOp op v u) (EP X pins σ Q) X.xe s := ho pins s σ H x y v u Q I rx ry q

/-! ### ints -/
theorem opI {f : Value → Value → Sem Value} {C : Int → Int → Prop} {g : Int → Int → Int}
    (rule : ∀ (i j : Int) (t u : Tok) (s : Shared) (Q : Value → Shared → Prop) (E : Value → Shared → Prop), C i j → Q (.int (g i j) s.toks) { s with toks := s.toks + 1 } → wpAny (model X.prog X.w) X.A (f (.int i t) (.int j u)) Q E s) :
    OpR X f (rI C fun i j => .int (g i j)) := by
  intro pins s σ H x y v u Q I rx ry h
  obtain ⟨i, j, rfl, rfl, hc, q⟩ := h
  obtain ⟨t, rfl⟩ := rx
  obtain ⟨t', rfl⟩ := ry
  exact rule i j t t' s _ _ hc ⟨.int (g i j), H, I.tok _, ⟨_, rfl⟩, q⟩
theorem opI0 {f : Value → Value → Sem Value} {g : Int → Int → Int}
    (rule : ∀ (i j : Int) (t u : Tok) (s : Shared) (Q : Value → Shared → Prop) (E : Value → Shared → Prop), Q (.int (g i j) s.toks) { s with toks := s.toks + 1 } → wpAny (model X.prog X.w) X.A (f (.int i t) (.int j u)) Q E s) :
    OpR X f (rI0 fun i j => .int (g i j)) := by
  intro pins s σ H x y v u Q I rx ry h
  obtain ⟨i, j, rfl, rfl, q⟩ := h
  obtain ⟨t, rfl⟩ := rx
  obtain ⟨t', rfl⟩ := ry
  exact rule i j t t' s _ _ ⟨.int (g i j), H, I.tok _, ⟨_, rfl⟩, q⟩
theorem opB0 {f : Value → Value → Sem Value} {g : Int → Int → Bool}
    (rule : ∀ (i j : Int) (t u : Tok) (s : Shared) (Q : Value → Shared → Prop) (E : Value → Shared → Prop), Q (.bool (g i j)) s → wpAny (model X.prog X.w) X.A (f (.int i t) (.int j u)) Q E s) :
    OpR X f (rI0 fun i j => .bl (g i j)) := by
  intro pins s σ H x y v u Q I rx ry h
  obtain ⟨i, j, rfl, rfl, q⟩ := h
  obtain ⟨t, rfl⟩ := rx
  obtain ⟨t', rfl⟩ := ry
  exact rule i j t t' s _ _ ⟨.bl (g i j), H, I, rfl, q⟩

def CDiv (i j : Int) : Prop := 0 < j ∧ j < 1073741824
def CDivN (i j : Int) : Prop := j ≠ 0 ∧ j.natAbs < 1073741824
def CPow (i j : Int) : Prop := 0 ≤ j ∧ j ≤ 1000000 ∧ i.natAbs < 2 ^ 64
def CMul (i j : Int) : Prop := (-(2 ^ 64) < i ∧ i < 2 ^ 64) ∨ (-(2 ^ 64) < j ∧ j < 2 ^ 64)
theorem CMul.ok {i j : Int} (h : CMul i j) : IntMulOk i j := by
  rcases h with ⟨h1, h2⟩ | ⟨h1, h2⟩
  · exact .of_left (intBits_le_64 h1 h2)
  · exact .of_right (intBits_le_64 h1 h2)
theorem two_pow_nn (k : Nat) : (0 : Int) ≤ 2 ^ k := by
  rw [two_pow_cast]
  exact Int.natCast_nonneg _

theorem op_add : OpR X (binaryOp .Add) (rI0 fun i j => .int (i + j)) := opI0 fun _ _ _ _ _ _ _ q => add_int q
theorem op_sub : OpR X (binaryOp .Sub) (rI0 fun i j => .int (i - j)) := opI0 fun _ _ _ _ _ _ _ q => sub_int q
theorem op_mul : OpR X (binaryOp .Mult) (rI CMul fun i j => .int (i * j)) := opI fun _ _ _ _ _ _ _ hc q => mul_int q hc.ok
/-- // by a positive divisor -/
theorem op_fdiv : OpR X (binaryOp .FloorDiv) (rI CDiv fun i j => .int (i / j)) := opI fun i j _ _ _ _ _ hc q => by
  have h1 : (0 : Int) < j := hc.1
  have h2 : j < 1073741824 := hc.2
  exact floordiv_int (by omega) (by rw [Int.fdiv_eq_ediv_of_nonneg i (by omega)]; exact q) (.inl (PyProof.noPylong_small (by omega)))
theorem op_fdivN : OpR X (binaryOp .FloorDiv) (rI CDivN fun i j => .int (i.fdiv j)) := opI fun _ _ _ _ _ _ _ hc q => floordiv_int hc.1 q (.inl (PyProof.noPylong_small hc.2))
/-- % by a positive divisor of any size -/
theorem op_mod : OpR X (binaryOp .Mod) (rI (fun _ j => 0 < j) fun i j => .int (i % j)) := opI fun i j _ _ _ _ _ hc q => by
  have h1 : (0 : Int) < j := hc
  exact mod_int' (by omega) (by rw [Int.fmod_eq_emod_of_nonneg i (by omega)]; exact q)
theorem op_modN : OpR X (binaryOp .Mod) (rI (fun _ j => j ≠ 0) fun i j => .int (i.fmod j)) := opI fun _ _ _ _ _ _ _ hc q => mod_int' hc q
theorem op_pow : OpR X (binaryOp .Pow) (rI CPow fun i j => .int (i ^ j.toNat)) := opI fun _ _ _ _ _ _ _ hc q => pow_int_small hc.1 hc.2.1 hc.2.2 q
theorem op_shl : OpR X (binaryOp .LShift) (rI CPow fun i j => .int (i * 2 ^ j.toNat)) := opI fun _ _ _ _ _ _ _ hc q => lshift_int_small hc.1 hc.2.1 hc.2.2 q
theorem op_shr : OpR X (binaryOp .RShift) (rI (fun _ j => 0 ≤ j) fun i j => .int (i / 2 ^ j.toNat)) := opI fun i j _ _ _ _ _ hc q =>
  rshift_int hc (by rw [Int.fdiv_eq_ediv_of_nonneg i (two_pow_nn _)]; exact q)
theorem op_and : OpR X (binaryOp .BitAnd) (rI0 fun i j => .int (Builtin.bitAnd i j)) := opI0 fun _ _ _ _ _ _ _ q => and_int q
theorem op_or : OpR X (binaryOp .BitOr) (rI0 fun i j => .int (Builtin.bitOr i j)) := opI0 fun _ _ _ _ _ _ _ q => or_int q
theorem op_xor : OpR X (binaryOp .BitXor) (rI0 fun i j => .int (Builtin.bitXor i j)) := opI0 fun _ _ _ _ _ _ _ q => xor_int q

theorem iop_add : OpR X (inplaceOp .Add) (rI0 fun i j => .int (i + j)) := opI0 fun _ _ _ _ _ _ _ q => iadd_int q
theorem iop_sub : OpR X (inplaceOp .Sub) (rI0 fun i j => .int (i - j)) := opI0 fun _ _ _ _ _ _ _ q => isub_int q
theorem iop_mul : OpR X (inplaceOp .Mult) (rI CMul fun i j => .int (i * j)) := opI fun _ _ _ _ _ _ _ hc q => imul_int q hc.ok
theorem iop_fdiv : OpR X (inplaceOp .FloorDiv) (rI CDiv fun i j => .int (i / j)) := opI fun i j _ _ _ _ _ hc q => by
  have h1 : (0 : Int) < j := hc.1
  have h2 : j < 1073741824 := hc.2
  exact ifloordiv_int (by omega) (by rw [Int.fdiv_eq_ediv_of_nonneg i (by omega)]; exact q) (.inl (PyProof.noPylong_small (by omega)))
theorem iop_mod : OpR X (inplaceOp .Mod) (rI (fun _ j => 0 < j) fun i j => .int (i % j)) := opI fun i j _ _ _ _ _ hc q => by
  have h1 : (0 : Int) < j := hc
  exact imod_int (by omega) (by rw [Int.fmod_eq_emod_of_nonneg i (by omega)]; exact q)
theorem iop_shl : OpR X (inplaceOp .LShift) (rI CPow fun i j => .int (i * 2 ^ j.toNat)) := opI fun _ _ _ _ _ _ _ hc q => ilshift_int_small hc.1 hc.2.1 hc.2.2 q
theorem iop_shr : OpR X (inplaceOp .RShift) (rI (fun _ j => 0 ≤ j) fun i j => .int (i / 2 ^ j.toNat)) := opI fun i j _ _ _ _ _ hc q =>
  irshift_int hc (by rw [Int.fdiv_eq_ediv_of_nonneg i (two_pow_nn _)]; exact q)
theorem iop_and : OpR X (inplaceOp .BitAnd) (rI0 fun i j => .int (Builtin.bitAnd i j)) := opI0 fun _ _ _ _ _ _ _ q => iand_int q
theorem iop_or : OpR X (inplaceOp .BitOr) (rI0 fun i j => .int (Builtin.bitOr i j)) := opI0 fun _ _ _ _ _ _ _ q => ior_int q
theorem iop_xor : OpR X (inplaceOp .BitXor) (rI0 fun i j => .int (Builtin.bitXor i j)) := opI0 fun _ _ _ _ _ _ _ q => ixor_int q

theorem unI {f : Value → Sem Value} {g : Int → Int}
    (rule : ∀ (i : Int) (t : Tok) (s : Shared) (Q : Value → Shared → Prop) (E : Value → Shared → Prop), Q (.int (g i) s.toks) { s with toks := s.toks + 1 } → wpAny (model X.prog X.w) X.A (f (.int i t)) Q E s) :
    UnR X f (rU fun i => .int (g i)) := by
  intro pins s σ H x v Q I rx h
  obtain ⟨i, rfl, q⟩ := h
  obtain ⟨t, rfl⟩ := rx
  exact rule i t s _ _ ⟨.int (g i), H, I.tok _, ⟨_, rfl⟩, q⟩
theorem un_neg : UnR X (unaryOp .USub) (rU fun i => .int (-i)) := unI fun _ _ _ _ _ q => neg_int q
theorem un_inv : UnR X (unaryOp .Invert) (rU fun i => .int (Builtin.bitNot i)) := unI fun _ _ _ _ _ q => invert_int q

/-! ### bools among ints: n += (a < b) -/
theorem op_add_ib : OpR X (binaryOp .Add) (fun x y H Q => ∃ i k, x = .int i ∧ y = .bl k ∧ Q (.int (i + b2i k)) H) := by
  intro pins s σ H x y v u Q I rx ry h
  obtain ⟨i, k, rfl, rfl, q⟩ := h
  obtain ⟨t, rfl⟩ := rx
  cases ry
  exact add_int_bool ⟨.int (i + b2i k), H, I.tok _, ⟨_, rfl⟩, q⟩
end

/-! ### comparisons -/
/-- the scalars that == tells apart as data does -/
def scal : V → V → Bool
  | .non, .non => true | .non, .int _ => true | .int _, .non => true | .non, .bl _ => true | .bl _, .non => true | .non, .str _ => true | .str _, .non => true
  | .int _, .int _ => true | .bl _, .bl _ => true | .str _, .str _ => true | .byt _, .byt _ => true
  | .int _, .str _ => true | .str _, .int _ => true | .bl _, .str _ => true | .str _, .bl _ => true
  | _, _ => false
def rEq : R2 := fun x y H Q => scal x y = true ∧ Q (.bl (decide (x = y))) H
def rNe : R2 := fun x y H Q => scal x y = true ∧ Q (.bl (!decide (x = y))) H

theorem dec_int {i j : Int} : decide (V.int i = V.int j) = (i == j) := by
  rw [Bool.eq_iff_iff]
  simp
theorem dec_bl {i j : Bool} : decide (V.bl i = V.bl j) = (i == j) := by
  rw [Bool.eq_iff_iff]
  simp
theorem dec_str {i j : Str} : decide (V.str i = V.str j) = (i == j) := by
  rw [Bool.eq_iff_iff]
  simp
theorem dec_byt {i j : Array UInt8} : decide (V.byt i = V.byt j) = (i.toList == j.toList) := by
  rw [Bool.eq_iff_iff]
  cases i
  cases j
  simp

section
variable {X : Cx} {a b c : Expr} {ta tb tc : TE} {pos : Pos}
theorem fin_bl {pins : List (Addr × Obj)} {σ : St} {H : Hp} {s : Shared} {Q : VK} {k k' : Bool} (I : Inv X pins σ H s) (q : Q (.bl k) H) (e : k = k') : EP X pins σ Q (.bool k') s := by
  subst e
  exact ⟨.bl k, H, I, rfl, q⟩
theorem op_eq : OpR X (compareOp .Eq) rEq := by
  intro pins s σ H x y v u Q I rx ry h
  obtain ⟨hs, q⟩ := h
  cases x with
  | non =>
    cases rx
    cases y with
    | non => cases ry; exact PySem.EqNone.eq_none_none (fin_bl I q (by simp))
    | bl j => cases ry; exact PySem.EqNone.eq_none_bool (fin_bl I q (by simp))
    | int j => obtain ⟨t', rfl⟩ := ry; exact PySem.EqNone.eq_none_int (fin_bl I q (by simp))
    | str j => obtain ⟨t', rfl⟩ := ry; exact PySem.EqNone.eq_none_str (fin_bl I q (by simp))
    | _ => exact absurd (show false = true from hs) Bool.false_ne_true
  | bl i =>
    cases rx
    cases y with
    | non => cases ry; exact PySem.EqNone.eq_bool_none (fin_bl I q (by simp))
    | bl j => cases ry; exact eq_bool (fin_bl I q dec_bl)
    | str j => obtain ⟨t', rfl⟩ := ry; exact PySem.EqMixed.eq_bool_str (fin_bl I q (by simp))
    | _ => exact absurd (show false = true from hs) Bool.false_ne_true
  | int i =>
    obtain ⟨t, rfl⟩ := rx
    cases y with
    | non => cases ry; exact PySem.EqNone.eq_int_none (fin_bl I q (by simp))
    | int j => obtain ⟨t', rfl⟩ := ry; exact eq_int (fin_bl I q dec_int)
    | str j => obtain ⟨t', rfl⟩ := ry; exact PySem.EqMixed.eq_int_str (fin_bl I q (by simp))
    | _ => exact absurd (show false = true from hs) Bool.false_ne_true
  | str i =>
    obtain ⟨t, rfl⟩ := rx
    cases y with
    | non => cases ry; exact PySem.EqNone.eq_str_none (fin_bl I q (by simp))
    | bl j => cases ry; exact PySem.EqMixed.eq_str_bool (fin_bl I q (by simp))
    | int j => obtain ⟨t', rfl⟩ := ry; exact PySem.EqMixed.eq_str_int (fin_bl I q (by simp))
    | str j => obtain ⟨t', rfl⟩ := ry; exact eq_str (fin_bl I q dec_str)
    | _ => exact absurd (show false = true from hs) Bool.false_ne_true
  | byt i =>
    obtain ⟨t, rfl⟩ := rx
    cases y with
    | byt j => obtain ⟨t', rfl⟩ := ry; exact PySem.W.eq_bytes (fin_bl I q dec_byt)
    | _ => exact absurd (show false = true from hs) Bool.false_ne_true
  | _ => cases y <;> exact absurd (show false = true from hs) Bool.false_ne_true
theorem op_ne : OpR X (compareOp .NotEq) rNe := by
  intro pins s σ H x y v u Q I rx ry h
  obtain ⟨hs, q⟩ := h
  cases x with
  | non =>
    cases rx
    cases y with
    | non => cases ry; exact PySem.EqNone.ne_none_none (fin_bl I q (by simp))
    | bl j => cases ry; exact PySem.EqNone.ne_none_bool (fin_bl I q (by simp))
    | int j => obtain ⟨t', rfl⟩ := ry; exact PySem.EqNone.ne_none_int (fin_bl I q (by simp))
    | str j => obtain ⟨t', rfl⟩ := ry; exact PySem.EqNone.ne_none_str (fin_bl I q (by simp))
    | _ => exact absurd (show false = true from hs) Bool.false_ne_true
  | bl i =>
    cases rx
    cases y with
    | non => cases ry; exact PySem.EqNone.ne_bool_none (fin_bl I q (by simp))
    | bl j => cases ry; exact ne_bool (fin_bl I q (congrArg not dec_bl))
    | str j => obtain ⟨t', rfl⟩ := ry; exact PySem.EqMixed.ne_bool_str (fin_bl I q (by simp))
    | _ => exact absurd (show false = true from hs) Bool.false_ne_true
  | int i =>
    obtain ⟨t, rfl⟩ := rx
    cases y with
    | non => cases ry; exact PySem.EqNone.ne_int_none (fin_bl I q (by simp))
    | int j => obtain ⟨t', rfl⟩ := ry; exact ne_int (fin_bl I q (congrArg not dec_int))
    | str j => obtain ⟨t', rfl⟩ := ry; exact PySem.EqMixed.ne_int_str (fin_bl I q (by simp))
    | _ => exact absurd (show false = true from hs) Bool.false_ne_true
  | str i =>
    obtain ⟨t, rfl⟩ := rx
    cases y with
    | non => cases ry; exact PySem.EqNone.ne_str_none (fin_bl I q (by simp))
    | bl j => cases ry; exact PySem.EqMixed.ne_str_bool (fin_bl I q (by simp))
    | int j => obtain ⟨t', rfl⟩ := ry; exact PySem.EqMixed.ne_str_int (fin_bl I q (by simp))
    | str j => obtain ⟨t', rfl⟩ := ry; exact ne_str (fin_bl I q (congrArg not dec_str))
    | _ => exact absurd (show false = true from hs) Bool.false_ne_true
  | byt i =>
    obtain ⟨t, rfl⟩ := rx
    cases y with
    | byt j => obtain ⟨t', rfl⟩ := ry; exact PySem.W.ne_bytes (fin_bl I q (congrArg not dec_byt))
    | _ => exact absurd (show false = true from hs) Bool.false_ne_true
  | _ => cases y <;> exact absurd (show false = true from hs) Bool.false_ne_true

theorem op_lt : OpR X (compareOp .Lt) (rI0 fun i j => .bl (decide (i < j))) := opB0 fun _ _ _ _ _ _ _ q => lt_int q
theorem op_le : OpR X (compareOp .LtE) (rI0 fun i j => .bl (decide (i ≤ j))) := opB0 fun _ _ _ _ _ _ _ q => le_int q
theorem op_gt : OpR X (compareOp .Gt) (rI0 fun i j => .bl (decide (j < i))) := opB0 fun _ _ _ _ _ _ _ q => gt_int q
theorem op_ge : OpR X (compareOp .GtE) (rI0 fun i j => .bl (decide (j ≤ i))) := opB0 fun _ _ _ _ _ _ _ q => ge_int q
theorem op_lt_str : OpR X (compareOp .Lt) (fun x y H Q => ∃ i j, x = .str i ∧ y = .str j ∧ Q (.bl (decide (i.cps.toList < j.cps.toList))) H) := by
  intro pins s σ H x y v u Q I rx ry h
  obtain ⟨i, j, rfl, rfl, q⟩ := h
  obtain ⟨t, rfl⟩ := rx
  obtain ⟨t', rfl⟩ := ry
  exact lt_str (fin_bl I q rfl)
/-- the one string within the other -/
theorem op_in_str : OpR X (compareOp .In) (fun x y H Q => ∃ i j, x = .str i ∧ y = .str j ∧ Q (.bl (!(Builtin.Str.occurrences j i 0 j.length 1).isEmpty)) H) := by
  intro pins s σ H x y v u Q I rx ry h
  obtain ⟨i, j, rfl, rfl, q⟩ := h
  obtain ⟨t, rfl⟩ := rx
  obtain ⟨t', rfl⟩ := ry
  exact in_str (fin_bl I q rfl)

/-- is None, is not None: the right side a value none -/
theorem op_isN : OpR X (compareOp .Is) (fun x y H Q => y = .non ∧ Q (.bl (decide (x = .non))) H) := by
  intro pins s σ H x y v u Q I rx ry h
  obtain ⟨rfl, q⟩ := h
  cases ry
  refine is_none_gen (fin_bl I q ?_)
  cases x <;> first
    | (cases rx; rfl)
    | (obtain ⟨t, rfl⟩ := rx; rfl)
theorem op_notN : OpR X (compareOp .IsNot) (fun x y H Q => y = .non ∧ Q (.bl (!decide (x = .non))) H) := by
  intro pins s σ H x y v u Q I rx ry h
  obtain ⟨rfl, q⟩ := h
  cases ry
  refine isnot_none_gen (fin_bl I q ?_)
  cases x <;> first
    | (cases rx; rfl)
    | (obtain ⟨t, rfl⟩ := rx; rfl)

theorem op_notin_str : OpR X (compareOp .NotIn) (fun x y H Q => ∃ i j, x = .str i ∧ y = .str j ∧ Q (.bl (!(!(Builtin.Str.occurrences j i 0 j.length 1).isEmpty))) H) := by
  intro pins s σ H x y v u Q I rx ry h
  obtain ⟨i, j, rfl, rfl, q⟩ := h
  obtain ⟨t, rfl⟩ := rx
  obtain ⟨t', rfl⟩ := ry
  exact notIn_str (fin_bl I q rfl)
/-- is, is not of two objects that are tracked lists or instances -/
def isObj : HO → Bool
  | .lst _ => true
  | .ins _ _ _ => true
  | _ => false
theorem obj_there {pins : List (Addr × Obj)} {s : Shared} {σ : St} {H : Hp} {a : Addr} {o : HO} (I : Inv X pins σ H s) (h : H a = some o) (p : isObj o = true) : ∃ ob, s.heap.get? a = some ob ∧ ob.cls ≠ .type "tuple" := by
  cases o with
  | lst xs =>
    obtain ⟨_, its, n, _, e⟩ : xs.length ≤ sizeLine ∧ ∃ (its : List Value) (n : Nat), Vals xs its ∧ s.heap.get? a = some { cls := .type "list", data := .seq its.toArray n } := I.hok a _ h
    exact ⟨_, e, (by show Value.type "list" ≠ .type "tuple"; decide +kernel)⟩
  | ins C dx fs =>
    have x := I.hok a _ h
    obtain ⟨_, _, _, e, _⟩ := x
    exact ⟨_, e, (by show Value.ref C ≠ .type "tuple"; exact fun z => by cases z)⟩
  | _ => exact absurd (show false = true from p) Bool.false_ne_true
theorem op_is_ref : OpR X (compareOp .Is) (fun x y H Q => ∃ a b oa ob, x = .ref a ∧ y = .ref b ∧ H a = some oa ∧ isObj oa = true ∧ H b = some ob ∧ isObj ob = true ∧ Q (.bl (decide (a = b))) H) := by
  intro pins s σ H x y v u Q I rx ry h
  obtain ⟨a, b, oa, ob, rfl, rfl, ha, pa, hb, pb, q⟩ := h
  cases rx
  cases ry
  obtain ⟨o1, e1, n1⟩ := obj_there I ha pa
  obtain ⟨o2, e2, _⟩ := obj_there I hb pb
  by_cases z : a = b
  · subst z
    exact wpAny_is_ref_self (fin_bl I q (by simp))
  · exact wpAny_is_ref_other z e1 e2 n1 (fin_bl I q (by simp [z]))
theorem op_isnot_ref : OpR X (compareOp .IsNot) (fun x y H Q => ∃ a b oa ob, x = .ref a ∧ y = .ref b ∧ H a = some oa ∧ isObj oa = true ∧ H b = some ob ∧ isObj ob = true ∧ Q (.bl (!decide (a = b))) H) := by
  intro pins s σ H x y v u Q I rx ry h
  obtain ⟨a, b, oa, ob, rfl, rfl, ha, pa, hb, pb, q⟩ := h
  cases rx
  cases ry
  obtain ⟨o1, e1, n1⟩ := obj_there I ha pa
  obtain ⟨o2, e2, _⟩ := obj_there I hb pb
  by_cases z : a = b
  · subst z
    exact wpAny_isNot_ref_self (fin_bl I q (by simp))
  · exact wpAny_isNot_ref_other z e1 e2 n1 (fin_bl I q (by simp [z]))

/-- two rules for one operation: by cases -/
theorem OpR.or {f : Value → Value → Sem Value} {r r' : R2} (h : OpR X f r) (h' : OpR X f r') : OpR X f (fun x y H Q => r x y H Q ∨ r' x y H Q) := by
  intro pins s σ H x y v u Q I rx ry q
  rcases q with q | q
  · exact h pins s σ H x y v u Q I rx ry q
  · exact h' pins s σ H x y v u Q I rx ry q

theorem nomark (b : Expr) {op : CmpOp} (h : op ≠ .In := by decide) (h2 : op ≠ .NotIn := by decide) : behindInMarks op b = false := by
  have e1 : (op == CmpOp.In) = false := by cases op <;> first | rfl | exact absurd rfl h
  have e2 : (op == CmpOp.NotIn) = false := by cases op <;> first | rfl | exact absurd rfl h2
  cases b <;> simp [behindInMarks, e1, e2]
/-- a comparison as a value; hm: nomark b, or (for in, not in) by with_unfolding_all rfl -/
theorem pe_cmpR {op : CmpOp} {r : R2} (ho : OpR X (compareOp op) r) (ha : PE X a ta) (hb : PE X b tb) (hm : behindInMarks op b = false) : PE X (.Compare a [op] [b] pos) (tOp r ta tb) := by
  intro pins s σ H Q I h
  exact wpAny_Compare1 (binT ha hb I h fun v u s2 x y H2 I2 rx ry q => ho pins s2 σ H2 x y v u Q I2 rx ry q) hm
/-- a reading of a value as a test -/
def tTest (t : TE) : TT := fun σ H Q => t σ H fun x H' => ∃ k, x = .bl k ∧ Q k H'
theorem pt_cmpR {op : CmpOp} {r : R2} (ho : OpR X (compareOp op) r) (ha : PE X a ta) (hb : PE X b tb) (hm : behindInMarks op b = false) : PT X (.Compare a [op] [b] pos) (tTest (tOp r ta tb)) := by
  intro pins s σ H Q I h
  refine wpAny_isTrue_Compare1 (thn (ha pins s σ H _ I h) fun v s1 ⟨x, H1, I1, r1, q1⟩ => thn (hb pins s1 σ H1 _ I1 q1) fun u s2 ⟨y, H2, I2, r2, q2⟩ =>
    thn (ho pins s2 σ H2 x y v u _ I2 r1 r2 q2) fun c s3 ⟨z, H3, I3, r3, k, e, q3⟩ => ?_) hm
  subst e
  cases r3
  exact wpAny_truthy_bool ⟨H3, I3, q3⟩
/-- a op1 b op2 c -/
def tChain (r r' : R2) (ta tb tc : TE) : TE := fun σ H Q => ta σ H fun x H1 => tb σ H1 fun y H2 => r x y H2 fun z H3 => ∃ k, z = .bl k ∧
  (if k = true then tc σ H3 fun w' H4 => r' y w' H4 Q else Q (.bl false) H3)
theorem pe_chain {op op' : CmpOp} {r r' : R2} (ho : OpR X (compareOp op) r) (ho' : OpR X (compareOp op') r') (ha : PE X a ta) (hb : PE X b tb) (hc : PE X c tc)
    (hm : lastMarks [op, op'] [b, c] = false := by with_unfolding_all rfl) : PE X (.Compare a [op, op'] [b, c] pos) (tChain r r' ta tb tc) := by
  intro pins s σ H Q I h
  refine Compare_chain (thn (ha pins s σ H _ I h) fun v s1 ⟨x, H1, I1, r1, q1⟩ => chain_link (thn (hb pins s1 σ H1 _ I1 q1) fun u s2 ⟨y, H2, I2, r2, q2⟩ =>
    thn (ho pins s2 σ H2 x y v u _ I2 r1 r2 q2) fun d s3 ⟨z, H3, I3, r3, k, e, q3⟩ => ?_)) hm
  subst e
  cases r3
  refine wpAny_truthy_bool ?_
  cases k with
  | false => exact ite_ff ⟨.bl false, H3, I3, rfl, q3⟩
  | true => exact ite_tt (chain_last (thn (hc pins s3 σ H3 _ I3 q3) fun w' s4 ⟨z', H4, I4, r4, q4⟩ => ho' pins s4 σ H4 y z' u w' Q I4 r2 r4 q4))
theorem pt_chain {op op' : CmpOp} {r r' : R2} (ho : OpR X (compareOp op) r) (ho' : OpR X (compareOp op') r') (ha : PE X a ta) (hb : PE X b tb) (hc : PE X c tc)
    (hm : lastMarks [op, op'] [b, c] = false := by with_unfolding_all rfl) : PT X (.Compare a [op, op'] [b, c] pos) (tTest (tChain r r' ta tb tc)) := by
  intro pins s σ H Q I h
  refine isTrue_chain (thn (ha pins s σ H _ I h) fun v s1 ⟨x, H1, I1, r1, q1⟩ => test_link (thn (hb pins s1 σ H1 _ I1 q1) fun u s2 ⟨y, H2, I2, r2, q2⟩ =>
    thn (ho pins s2 σ H2 x y v u _ I2 r1 r2 q2) fun d s3 ⟨z, H3, I3, r3, k, e, q3⟩ => ?_)) hm
  subst e
  cases r3
  refine wpAny_truthy_bool ?_
  cases k with
  | false =>
    obtain ⟨k', e', q'⟩ := q3
    cases e'
    exact ite_ff ⟨H3, I3, q'⟩
  | true =>
    refine ite_tt (test_last (thn (hc pins s3 σ H3 _ I3 q3) fun w' s4 ⟨z', H4, I4, r4, q4⟩ => thn (ho' pins s4 σ H4 y z' u w' _ I4 r2 r4 q4) fun d' s5 ⟨z2, H5, I5, r5, k2, e2, q5⟩ => ?_))
    subst e2
    cases r5
    exact wpAny_truthy_bool ⟨H5, I5, q5⟩

/-! ### truth -/
/-- a value's truth by the abstract heap -/
def TruV (K : PySem.W.Frag) (x : V) (H : Hp) (k : Bool) : Prop :=
  match x with
  | .non => k = false
  | .bl b => k = b
  | .int i => k = (i != 0)
  | .str y => y.length ≤ sizeLine ∧ k = ((y.length : Int) != 0)
  | .byt y => y.size ≤ sizeLine ∧ k = ((y.size : Int) != 0)
  | .ref p => (∃ xs, SqL K H p xs ∧ k = !xs.isEmpty) ∨ (∃ xs, SqT K H p xs ∧ k = !xs.isEmpty) ∨ ∃ kvs, H p = some (.dK kvs) ∧ k = !kvs.isEmpty
  | _ => False
theorem isEmpty_kv {κ : Type} {kvs : List (κ × V)} {vs : List (κ × Value)} (r : KV kvs vs) : (!vs.isEmpty) = !kvs.isEmpty := by
  cases r <;> rfl
theorem isEmpty_of {xs : List V} {its : List Value} (r : Vals xs its) : (!its.toArray.isEmpty) = !xs.isEmpty := by
  cases r <;> simp
theorem line63 : (sizeLine : Nat) < 2 ^ 63 := by rw [sizeLine_eq]; decide
theorem tru_ok : TruR X (fun x H Q => ∃ k, TruV X.K x H k ∧ Q k H) := by
  intro pins s σ H x v Q I rx h
  obtain ⟨k, e, q⟩ := h
  have hl := line63
  have hs : sizeLine = 16777216 := sizeLine_eq
  cases x with
  | non =>
    cases rx
    have e' : k = false := e
    subst e'
    exact truthy_none ⟨H, I, q⟩
  | bl b =>
    cases rx
    have e' : k = b := e
    subst e'
    exact wpAny_truthy_bool ⟨H, I, q⟩
  | int i =>
    obtain ⟨t, rfl⟩ := rx
    have e' : k = (i != 0) := e
    subst e'
    exact PySem.P.truthy_int ⟨H, I, q⟩
  | str y =>
    obtain ⟨t, rfl⟩ := rx
    obtain ⟨hy, e'⟩ : y.length ≤ sizeLine ∧ k = ((y.length : Int) != 0) := e
    subst e'
    exact PySem.P.truthy_str (by omega) ⟨H, I.tok _, q⟩
  | byt y =>
    obtain ⟨t, rfl⟩ := rx
    obtain ⟨hy, e'⟩ : y.size ≤ sizeLine ∧ k = ((y.size : Int) != 0) := e
    subst e'
    exact PySem.W.truthy_bytes (by omega) ⟨H, I.tok _, q⟩
  | ref p =>
    cases rx
    have e' : (∃ xs, SqL X.K H p xs ∧ k = !xs.isEmpty) ∨ (∃ xs, SqT X.K H p xs ∧ k = !xs.isEmpty) ∨ ∃ kvs, H p = some (.dK kvs) ∧ k = !kvs.isEmpty := e
    rcases e' with ⟨xs, hx, e'⟩ | ⟨xs, hx, e'⟩ | ⟨kvs, hx, e'⟩
    · subst e'
      obtain ⟨its, r, pl, hz⟩ := I.list hx
      have hlen := r.length
      exact wpAny_truthy_list pl.isList (by simp only [List.size_toArray]; omega) ⟨H, I.tok _, by rw [isEmpty_of r]; exact q⟩
    · subst e'
      obtain ⟨its, r, pl, hz⟩ := I.tuple hx
      have hlen := r.length
      exact truthy_tuple pl (by simp only [List.size_toArray]; omega) ⟨H, I.tok _, by rw [isEmpty_of r]; exact q⟩
    · subst e'
      obtain ⟨hz, hS, vs, r, m⟩ : kvs.length ≤ sizeLine ∧ (p == sysModules) = false ∧ ∃ vs, KV kvs vs ∧ s.heap.DictOf (mixKind X.prog X.w) p vs := I.hok p _ hx
      have hlen : kvs.length = vs.length := Paired.length r
      exact wpAny_truthy_dict hS m (by omega) ⟨H, I.tok _, by rw [isEmpty_kv r]; exact q⟩
  | _ => exact (show False from e).elim
/-- any expression whose test is its value's truth (a name, a call, a subscript, a field ..: he by fun _ => rfl) -/
theorem pt_truth (ha : PE X a ta) (he : ∀ whole, isTrue a X.env whole = (do let v ← whole; standAt a.pos; holding [v] (truthy v))) :
    PT X a (fun σ H Q => ta σ H fun x H' => ∃ k, TruV X.K x H' k ∧ Q k H') := by
  intro pins s σ H Q I h
  exact isTrue_plain (thn (ha pins s σ H _ I h) fun v s1 ⟨x, H1, I1, r1, q1⟩ => tru_ok pins s1 σ H1 x v Q I1 r1 q1) (he _)

/-! ### strs and bytes -/
theorem pe_byt {x : List UInt8} {k : Nat} : PE X (.Constant (.bytes x) k pos) (fun _ H Q => Q (.byt x.toArray) H) := fun _ _ _ H _ I h => PySem.W.Constant_bytes ⟨.byt x.toArray, H, I.tok _, ⟨_, rfl⟩, h⟩
theorem op_add_str : OpR X (binaryOp .Add) (fun x y H Q => ∃ i j, x = .str i ∧ y = .str j ∧ i.length + j.length ≤ sizeLine ∧ Q (.str (i ++ j)) H) := by
  intro pins s σ H x y v u Q I rx ry h
  obtain ⟨i, j, rfl, rfl, hz, q⟩ := h
  obtain ⟨t, rfl⟩ := rx
  obtain ⟨t', rfl⟩ := ry
  exact add_str (fun t' tk => ⟨.str (i ++ j), H, I.tok _, ⟨_, rfl⟩, q⟩) hz
theorem iop_add_str : OpR X (inplaceOp .Add) (fun x y H Q => ∃ i j, x = .str i ∧ y = .str j ∧ i.length + j.length ≤ sizeLine ∧ Q (.str (i ++ j)) H) := by
  intro pins s σ H x y v u Q I rx ry h
  obtain ⟨i, j, rfl, rfl, hz, q⟩ := h
  obtain ⟨t, rfl⟩ := rx
  obtain ⟨t', rfl⟩ := ry
  exact iadd_str (fun t' tk => ⟨.str (i ++ j), H, I.tok _, ⟨_, rfl⟩, q⟩) hz
theorem op_add_byt : OpR X (binaryOp .Add) (fun x y H Q => ∃ i j, x = .byt i ∧ y = .byt j ∧ i.size + j.size ≤ 16777216 ∧ Q (.byt (i ++ j)) H) := by
  intro pins s σ H x y v u Q I rx ry h
  obtain ⟨i, j, rfl, rfl, hz, q⟩ := h
  obtain ⟨t, rfl⟩ := rx
  obtain ⟨t', rfl⟩ := ry
  exact PySem.W.KBy.add_bytes hz (fun t' tk => ⟨.byt (i ++ j), H, I.tok _, ⟨_, rfl⟩, q⟩)

def PlainIxT (b : Expr) : Prop := ∀ o i, subscripted b false o i = operate [o, i] (getItem o i)
/-- s[i], 0 ≤ i < len -/
theorem pe_item_str (ha : PE X a ta) (hb : PE X b tb) (hs : PlainIxT b) :
    PE X (.Subscript a b pos) (tOp (fun x y H Q => ∃ z i c, x = .str z ∧ y = .int i ∧ 0 ≤ i ∧ i < 2 ^ 63 ∧ i < z.length ∧ z.cps[i.toNat]? = some c ∧ Q (.str ⟨#[c]⟩) H) ta tb) := by
  intro pins s σ H Q I h
  refine Subscript_ (binT ha hb I h fun v u s2 x y H2 I2 rx ry q => ?_)
  obtain ⟨z, i, c, rfl, rfl, h0, h63, h1, hc, q⟩ := q
  obtain ⟨t, rfl⟩ := rx
  obtain ⟨t', rfl⟩ := ry
  have e : seqIndex? i z.length = some i.toNat := PySem.StrLaws.seqIndex_nonneg h0 h1
  exact tail_any (typeIs_str s2 z t) slot_str_getitem.lookup (getItem_str (c := c) (by
    have e1 : decide (i < -(2 ^ 63 : Int)) = false := decide_eq_false (by omega)
    have e2 : decide (i ≥ 2 ^ 63) = false := decide_eq_false (by omega)
    rw [e1, e2] <;> rfl) (by rw [e]; exact hc) ⟨.str ⟨#[c]⟩, H2, I2.tok _, ⟨_, rfl⟩, q⟩) (hs _ _)
/-- b[i], 0 ≤ i < len -/
theorem pe_item_byt (ha : PE X a ta) (hb : PE X b tb) (hs : PlainIxT b) :
    PE X (.Subscript a b pos) (tOp (fun x y H Q => ∃ (z : List UInt8) (i : Int), x = .byt z.toArray ∧ y = .int i ∧ z.length ≤ sizeLine ∧ 0 ≤ i ∧ i < z.length ∧ Q (.int ((z.getD i.toNat 0).toNat : Nat)) H) ta tb) := by
  intro pins s σ H Q I h
  refine Subscript_ (binT ha hb I h fun v u s2 x y H2 I2 rx ry q => ?_)
  obtain ⟨z, i, rfl, rfl, hz, h0, h1, q⟩ := q
  obtain ⟨t, rfl⟩ := rx
  obtain ⟨t', rfl⟩ := ry
  have hl : sizeLine = 16777216 := sizeLine_eq
  exact tail_any (PySem.W.typeIs_bytes s2 z.toArray t) PySem.W.FB.slot_bytes_getitem.lookup (PySem.W.getItem_bytes (by omega) h0 h1 ⟨.int ((z.getD i.toNat 0).toNat : Nat), H2, I2.tok _, ⟨_, rfl⟩, q⟩) (hs _ _)

/-! ### scalar builtins, by CallR -/
theorem vals1 {x : V} {us : List Value} (r : Vals [x] us) : ∃ u, us = [u] ∧ RelV x u := by
  cases r with
  | cons r1 r2 => cases r2; exact ⟨_, rfl, r1⟩
theorem vals2 {x y : V} {us : List Value} (r : Vals [x, y] us) : ∃ u w', us = [u, w'] ∧ RelV x u ∧ RelV y w' := by
  cases r with
  | cons r1 r2 =>
    cases r2 with
    | cons r3 r4 => cases r4; exact ⟨_, _, rfl, r1, r3⟩
theorem call_abs : CallR X (.builtin "abs") (fun xs H Q => ∃ i, xs = [.int i] ∧ Q (.int (if i < 0 then -i else i)) H) := by
  intro pins s σ H xs us Q I r h
  obtain ⟨i, rfl, q⟩ := h
  obtain ⟨u, rfl, t, rfl⟩ := vals1 r
  exact call_abs_int fun u tk => ⟨.int (if i < 0 then -i else i), H, I.tok _, ⟨_, rfl⟩, q⟩
theorem call_max2 (hc : X.calm = true) : CallR X (.builtin "max") (fun xs H Q => ∃ i j, xs = [.int i, .int j] ∧ Q (.int (if j > i then j else i)) H) := by
  intro pins s σ H xs us Q I r h
  obtain ⟨i, j, rfl, q⟩ := h
  obtain ⟨u, w', rfl, ⟨t, rfl⟩, ⟨t', rfl⟩⟩ := vals2 r
  refine max_two_ints (I.ok.hd hc) fun h' tk k => ⟨_, H, I.kept k, ?_, q⟩
  by_cases hj : j > i
  · rw [if_pos hj, if_pos hj]; exact ⟨_, rfl⟩
  · rw [if_neg hj, if_neg hj]; exact ⟨_, rfl⟩
theorem call_min2 (hc : X.calm = true) : CallR X (.builtin "min") (fun xs H Q => ∃ i j, xs = [.int i, .int j] ∧ Q (.int (if j < i then j else i)) H) := by
  intro pins s σ H xs us Q I r h
  obtain ⟨i, j, rfl, q⟩ := h
  obtain ⟨u, w', rfl, ⟨t, rfl⟩, ⟨t', rfl⟩⟩ := vals2 r
  refine min_two_ints (I.ok.hd hc) fun h' tk k => ⟨_, H, I.kept k, ?_, q⟩
  by_cases hj : j < i
  · rw [if_pos hj, if_pos hj]; exact ⟨_, rfl⟩
  · rw [if_neg hj, if_neg hj]; exact ⟨_, rfl⟩
theorem call_int1 : CallR X (.type "int") (fun xs H Q => (∃ i, xs = [.int i] ∧ Q (.int i) H) ∨ ∃ k, xs = [.bl k] ∧ Q (.int (if k then 1 else 0)) H) := by
  intro pins s σ H xs us Q I r h
  rcases h with ⟨i, rfl, q⟩ | ⟨k, rfl, q⟩
  · obtain ⟨u, rfl, t, rfl⟩ := vals1 r
    exact call_int_int ⟨.int i, H, I, ⟨_, rfl⟩, q⟩
  · obtain ⟨u, rfl, r1⟩ := vals1 r
    cases r1
    exact call_int_bool ⟨.int (if k then 1 else 0), H, I.tok _, ⟨_, rfl⟩, q⟩
theorem call_bool1 : CallR X (.type "bool") (fun xs H Q => (∃ i, xs = [.int i] ∧ Q (.bl (i != 0)) H) ∨ ∃ k, xs = [.bl k] ∧ Q (.bl k) H) := by
  intro pins s σ H xs us Q I r h
  rcases h with ⟨i, rfl, q⟩ | ⟨k, rfl, q⟩
  · obtain ⟨u, rfl, t, rfl⟩ := vals1 r
    exact call_bool_int ⟨.bl (i != 0), H, I, rfl, q⟩
  · obtain ⟨u, rfl, r1⟩ := vals1 r
    cases r1
    exact call_bool_bool ⟨.bl k, H, I, rfl, q⟩
theorem call_str_int : CallR X (.type "str") (fun xs H Q => ∃ i, xs = [.int i] ∧ i.natAbs.log2 < 1920 ∧ Q (.str (toString i)) H) := by
  intro pins s σ H xs us Q I r h
  obtain ⟨i, rfl, hz, q⟩ := h
  obtain ⟨u, rfl, t, rfl⟩ := vals1 r
  exact PySem.P.str_of_int hz ⟨.str _, H, I.tok _, ⟨_, rfl⟩, q⟩
theorem call_ord : CallR X (.builtin "ord") (fun xs H Q => ∃ x, xs = [.str x] ∧ x.length = 1 ∧ Q (.int (x.cps.getD 0 0 : Nat)) H) := by
  intro pins s σ H xs us Q I r h
  obtain ⟨x, rfl, hz, q⟩ := h
  obtain ⟨u, rfl, t, rfl⟩ := vals1 r
  exact ord_of_one hz ⟨.int _, H, I.tok _, ⟨_, rfl⟩, q⟩
theorem call_chr : CallR X (.builtin "chr") (fun xs H Q => ∃ i, xs = [.int i] ∧ 0 ≤ i ∧ i ≤ 1114111 ∧ Q (.str ⟨#[i.toNat]⟩) H) := by
  intro pins s σ H xs us Q I r h
  obtain ⟨i, rfl, h0, h1, q⟩ := h
  obtain ⟨u, rfl, t, rfl⟩ := vals1 r
  exact chr_of_range h0 h1 ⟨.str _, H, I.tok _, ⟨_, rfl⟩, q⟩
/-- len of a str, a bytes, a list, a tuple -/
def LenV (K : PySem.W.Frag) (x : V) (H : Hp) (n : Nat) : Prop :=
  match x with
  | .str y => y.length ≤ sizeLine ∧ n = y.length
  | .byt y => y.size ≤ sizeLine ∧ n = y.size
  | .ref p => (∃ xs, SqL K H p xs ∧ n = xs.length) ∨ ∃ xs, SqT K H p xs ∧ n = xs.length
  | _ => False
theorem call_len : CallR X (.builtin "len") (fun xs H Q => ∃ x n, xs = [x] ∧ LenV X.K x H n ∧ Q (.int n) H) := by
  intro pins s σ H xs us Q I r h
  obtain ⟨x, n, rfl, e, q⟩ := h
  obtain ⟨u, rfl, rx⟩ := vals1 r
  have hl := line63
  have hs : sizeLine = 16777216 := sizeLine_eq
  cases x with
  | str y =>
    obtain ⟨t, rfl⟩ := rx
    obtain ⟨hy, e'⟩ : y.length ≤ sizeLine ∧ n = y.length := e
    subst e'
    exact len_str (by omega) ⟨.int _, H, I.tok _, ⟨_, rfl⟩, q⟩
  | byt y =>
    obtain ⟨t, rfl⟩ := rx
    obtain ⟨hy, e'⟩ : y.size ≤ sizeLine ∧ n = y.size := e
    subst e'
    exact PySem.W.len_bytes (by omega) ⟨.int _, H, I.tok _, ⟨_, rfl⟩, q⟩
  | ref p =>
    cases rx
    have e' : (∃ xs, SqL X.K H p xs ∧ n = xs.length) ∨ ∃ xs, SqT X.K H p xs ∧ n = xs.length := e
    rcases e' with ⟨xs, hx, e'⟩ | ⟨xs, hx, e'⟩
    · subst e'
      obtain ⟨its, r', pl, hz⟩ := I.list hx
      have hlen := r'.length
      exact Calls.call_len_list pl.isList (by simp only [List.size_toArray]; omega) ⟨.int xs.length, H, I.tok _, ⟨_, by simp only [List.size_toArray]; rw [hlen]⟩, q⟩
    · subst e'
      obtain ⟨its, r', pl, hz⟩ := I.tuple hx
      have hlen := r'.length
      exact len_tuple pl (by simp only [List.size_toArray]; omega) ⟨.int xs.length, H, I.tok _, ⟨_, by simp only [List.size_toArray]; rw [hlen]⟩, q⟩
  | _ => exact (show False from e).elim
/-- divmod: a new tuple -/
theorem call_divmod : CallR X (.builtin "divmod") (fun xs H Q => ∃ i j, xs = [.int i, .int j] ∧ CDiv i j ∧ ∀ p, H p = none → Q (.ref p) (upd H p (.tup [.int (i / j), .int (i % j)]))) := by
  intro pins s σ H xs us Q I r h
  obtain ⟨i, j, rfl, ⟨h1, h2⟩, q⟩ := h
  obtain ⟨u, w', rfl, ⟨t, rfl⟩, ⟨t', rfl⟩⟩ := vals2 r
  refine divmod_int (by omega) ?_ (.inl (PyProof.noPylong_small (by omega)))
  rw [Int.fdiv_eq_ediv_of_nonneg i (by omega), Int.fmod_eq_emod_of_nonneg i (by omega)]
  have hn : H s.heap.objs.size = none := I.hok.fresh (Nat.le_refl _)
  refine ⟨.ref s.heap.objs.size, _, ?_, rfl, q _ hn⟩
  refine I.laid (fun b o e => Heap.get?_push_of_some _ e) (Nat.le_refl _) ⟨by simp only [List.length_cons, List.length_nil]; rw [sizeLine_eq]; decide, [.int (i / j) s.toks, .int (i % j) (s.toks + 1)], .cons ⟨_, rfl⟩ (.cons ⟨_, rfl⟩ .nil), ?_⟩
  exact ⟨_, Heap.get?_push_size s.heap rfl, rfl, 0, rfl⟩
end
end L2

namespace L2
open PySem PySem.Spec PyProof.Rows

/-! ### an instance, its attributes a map -/
structure ObjM (h : Heap) (x dx C : Addr) (mA : Str → Option Value) : Prop where
  obj : h.get? x = some (PySem.W.instObj C dx)
  ns : h.Ns1 dx mA
  ne : dx ≠ x

theorem lookIn_ns {h : Heap} {dx : Addr} {mA : Str → Option Value} (n : h.Ns1 dx mA) : ∃ od, h.get? dx = some od ∧ ∀ name, PySem.W.lookIn name od = some (mA name) := by
  obtain ⟨o, es, ep, ho, hd, hk, _, hm⟩ := n
  refine ⟨o, ho, fun name => ?_⟩
  have e := hm name
  unfold nsFind findBy at e
  rw [← Array.find?_toList] at e
  unfold PySem.W.lookIn
  rw [hd]
  dsimp only
  split
  · rename_i y q
    rw [q] at e
    exact congrArg some e
  · rename_i q
    rw [q] at e
    have a : es.toList.any (·.refKey) = false := by
      rw [List.any_eq_false]
      intro y hy
      obtain ⟨z, t, hkey⟩ := hk y (Array.mem_toList_iff.mp hy)
      simp [DictEntry.refKey, hkey]
    have a' : ¬ es.toList.any (·.refKey) = true := by rw [a]; exact Bool.false_ne_true
    rw [if_neg a']
    exact congrArg some e

theorem ObjM.look {h : Heap} {x dx C : Addr} {mA : Str → Option Value} (I : ObjM h x dx C mA) : ∃ od, PySem.W.InstAt h x (PySem.W.instObj C dx) C (some od) ∧ ∀ name, PySem.W.lookIn name od = some (mA name) :=
  let ⟨od, ho, hl⟩ := lookIn_ns I.ns
  ⟨od, ⟨I.obj, rfl, rfl, ho⟩, hl⟩

section
variable {prog : Program} {w : World} {A : Around} {E : Value → Shared → Prop} {s : Shared} {K : PySem.W.Frag} {x dx C f : Addr} {mA : Str → Option Value} {name : Str} {v : Value}

theorem get_map {expr : Bool} {Q : Value → Shared → Prop} (X : K.In s.heap) (I : ObjM s.heap x dx C mA) (hg : PySem.W.plainGet K C name = true) (hh : PySem.W.hasDictIn K C = true)
    (ha : PySem.W.findIn K (.ref C) name = some none) (hv : mA name = some v) (hv' : PySem.W.handedIn v = true) (h : Q v { s with toks := s.toks + 1 }) :
    wpAny (model prog w) A (getAttr (.ref x) name expr) Q E s := by
  obtain ⟨od, J, hl⟩ := I.look
  exact PySem.W.get_value X J (PySem.W.plainGet_of hg).1 (PySem.W.findObj_own hh ha rfl (by rw [hl, hv])) hv' h

theorem get_const {expr : Bool} {a : Value} {Q : Value → Shared → Prop} (X : K.In s.heap) (I : ObjM s.heap x dx C mA) (hg : PySem.W.plainGet K C name = true) (hh : PySem.W.hasDictIn K C = true)
    (ha : PySem.W.findIn K (.ref C) name = some (some a)) (hn : PySem.W.specialIn K a "__get__" = some none) (hc : PySem.W.copiedNames.contains name = false) (hv : mA name = none) (hv' : PySem.W.handedIn a = true)
    (h : Q a { s with toks := s.toks + 1 }) : wpAny (model prog w) A (getAttr (.ref x) name expr) Q E s := by
  obtain ⟨od, J, hl⟩ := I.look
  exact PySem.W.get_value X J (PySem.W.plainGet_of hg).1 (PySem.W.findObj_cls hh ha hn hv' hc (by rw [hl, hv])) hv' h

theorem get_meth {pl : Sem Bool} {Q : Value × List Value → Shared → Prop} (X : K.In s.heap) (I : ObjM s.heap x dx C mA) (hg : PySem.W.plainGet K C name = true)
    (hf : PySem.W.findIn K (.ref C) name = some (some (.ref f))) (ht : PySem.W.isFn K (.ref f) = true) (hv : mA name = none) (h : Q (.ref f, [.ref x]) s) :
    wpAny (model prog w) A (getMethod (.ref x) name pl) Q E s := by
  obtain ⟨od, J, hl⟩ := I.look
  exact PySem.W.method_fn X J (PySem.W.plainGet_of hg).1 (PySem.W.plainGet_of hg).2 hf (beq_iff_eq.mp ht) (by show (PySem.W.lookIn name od).map (·.isSome) = some false; rw [hl, hv]; rfl) h

theorem set_map {ns : List Str} {Q : Unit → Shared → Prop} (X : K.In s.heap) (I : ObjM s.heap x dx C mA)
    (hs : PySem.W.findIn K (.ref C) "__setattr__" = some (some (.builtin "object.__setattr__"))) (hp : PySem.W.plainOver K C = true) (ht : PySem.W.takerIn K C name = some none) (hh : PySem.W.hasDictIn K C = true)
    (hw : PySem.Within mA ns) (hsz : ns.length ≤ sizeLine)
    (h : ∀ h', ObjM h' x dx C (fun y => if y = name then some v else mA y) → Heap.SameBut dx s.heap h' → Q () { s with heap := h', toks := s.toks + 2 }) :
    wpAny (model prog w) A (setAttr (.ref x) name v) Q E s := by
  obtain ⟨od, J, hl⟩ := I.look
  refine PySem.W.set_plain X J hs (PySem.W.osa_open (s := { s with toks := s.toks + 1 }) (r := none) X J hp ht fun b => ?_)
  obtain ⟨cd, hc, hd'⟩ := PySem.W.any_some hh
  have hx : s.heap.get? x = some ⟨.ref C, some dx, .plain, #[]⟩ := I.obj
  refine wpAny_bind (wpAny_pure (wpAny_bind (wpAny_bind (wpAny_loadPart hx (wpAny_bind (PySem.W.Looks.here (s := { s with toks := s.toks + 1 }) (PySem.W.looks_clsIn X hc) ?_))))))
  rw [hd']
  refine wpAny_pure (a := some dx) (wpAny_bind (wpAny_pure (wpAny_bind ?_)))
  refine wpAny_nsSet1 (s := { s with toks := s.toks + 1 }) I.ns fun h' hn2 hs2 => ?_
  obtain ⟨oD, esD, epD, hoD, hdD, hcD⟩ := hn2.count (PySem.Within.cons name v hw)
  refine wpAny_bind (wpAny_lookBehind hoD (by rw [hdD]; exact pastItsLine_dict (Nat.le_trans hcD (by rw [List.length_cons]; omega))) ?_)
  exact wpAny_pure (h _ ⟨(hs2.2 _ (Ne.symm I.ne)).trans I.obj, hn2, I.ne⟩ hs2)

/-- C(..): the dict at the heap's end, the instance behind it; then its __init__ -/
theorem make_map {R : Result → Shared → Prop} {vs : List Value} {kw : List (Str × Value)} (X : K.In s.heap) (hm : PySem.W.makesIn K C = true)
    (hi : PySem.W.findIn K (.ref C) "__init__" = some (some (.ref f))) (hf : PySem.W.typeIn K (.ref f) = some (.type "function"))
    (h : codeAny (model prog w) (A.under (.builtin "type.__call__" ⟨.ref C :: vs, kw⟩)) (.call (.ref f) ⟨.ref (s.heap.objs.size + 1) :: vs, kw⟩) (PySem.W.InitBack (s.heap.objs.size + 1) R)
      { s with heap := (s.heap.push PySem.W.emptyDict).push (PySem.W.instObj C s.heap.objs.size) }) :
    codeAny (model prog w) A (.call (.ref C) ⟨vs, kw⟩) R s := by
  obtain ⟨hh, g, d, t, os⟩ := s
  exact PySem.W.make_core (PySem.W.makes_of X hm) (PySem.W.looks_findIn X hi) (fun self => PySem.W.bind_fn X self hf) (.inl rfl) h
/-- C() where there is no __init__ but object's -/
theorem make_map0 {R : Result → Shared → Prop} (X : K.In s.heap) (hm : PySem.W.makesIn K C = true)
    (hi : PySem.W.findIn K (.ref C) "__init__" = some (some (.builtin "object.__init__")))
    (hb : ∀ self, PySem.W.Looks (model prog w) s.heap (bindSpecial (.builtin "object.__init__") self) (.builtin "object.__init__", [self]))
    (h : codeAny (model prog w) (A.under (.builtin "type.__call__" ⟨[.ref C], []⟩)) (.call (.builtin "object.__init__") ⟨[.ref (s.heap.objs.size + 1)], []⟩) (PySem.W.InitBack (s.heap.objs.size + 1) R)
      { s with heap := (s.heap.push PySem.W.emptyDict).push (PySem.W.instObj C s.heap.objs.size) }) :
    codeAny (model prog w) A (.call (.ref C) ⟨[], []⟩) R s := by
  obtain ⟨hh, g, d, t, os⟩ := s
  exact PySem.W.make_core (PySem.W.makes_of X hm) (PySem.W.looks_findIn X hi) hb (.inr ⟨rfl, rfl⟩) h
end

/-! ### the attributes as a list of pairs -/
def putF (f : Str) (v : V) : List (Str × V) → List (Str × V)
  | [] => [(f, v)]
  | (g, x) :: r => if g = f then (g, v) :: r else (g, x) :: putF f v r
theorem lookup_putF (f g : Str) (v : V) : ∀ fs : List (Str × V), (putF f v fs).lookup g = if g = f then some v else fs.lookup g
  | [] => by
    show List.lookup g [(f, v)] = _
    by_cases h : g = f
    · have hb : (g == f) = true := beq_iff_eq.mpr h
      simp only [List.lookup, hb, if_pos h]
    · have hb : (g == f) = false := beq_eq_false_iff_ne.mpr h
      simp only [List.lookup, hb, if_neg h]
  | (k, x) :: r => by
    have ih := lookup_putF f g v r
    rw [show putF f v ((k, x) :: r) = (if k = f then (k, v) :: r else (k, x) :: putF f v r) from rfl]
    by_cases hk : k = f
    · rw [if_pos hk]
      by_cases h : g = k
      · have hb : (g == k) = true := beq_iff_eq.mpr h
        simp only [List.lookup, hb, if_pos (h.trans hk)]
      · have hb : (g == k) = false := beq_eq_false_iff_ne.mpr h
        simp only [List.lookup, hb, if_neg (fun e : g = f => h (e.trans hk.symm))]
    · rw [if_neg hk]
      by_cases h : g = k
      · have hb : (g == k) = true := beq_iff_eq.mpr h
        simp only [List.lookup, hb, if_neg (fun e : g = f => hk (h.symm.trans e))]
      · have hb : (g == k) = false := beq_eq_false_iff_ne.mpr h
        simp only [List.lookup, hb]
        exact ih
theorem keys_putF (f : Str) (v : V) : ∀ fs : List (Str × V), f ∈ (putF f v fs).map (·.1) ∧ ∀ g, g ∈ fs.map (·.1) → g ∈ (putF f v fs).map (·.1)
  | [] => ⟨by simp [putF], fun g h => by simp at h⟩
  | (k, x) :: r => by
    obtain ⟨i1, i2⟩ := keys_putF f v r
    rw [show putF f v ((k, x) :: r) = (if k = f then (k, v) :: r else (k, x) :: putF f v r) from rfl]
    by_cases hk : k = f
    · rw [if_pos hk]
      subst hk
      exact ⟨by simp, fun g h => by simpa using h⟩
    · rw [if_neg hk]
      refine ⟨?_, fun g h => ?_⟩
      · rw [List.map_cons]
        exact List.mem_cons_of_mem _ i1
      · rw [List.map_cons] at h ⊢
        rcases List.mem_cons.mp h with e | e
        · exact List.mem_cons.mpr (.inl e)
        · exact List.mem_cons_of_mem _ (i2 g e)
theorem length_putF (f : Str) (v : V) : ∀ fs : List (Str × V), (putF f v fs).length ≤ fs.length + 1
  | [] => by simp [putF]
  | (k, x) :: r => by
    have ih := length_putF f v r
    rw [show putF f v ((k, x) :: r) = (if k = f then (k, v) :: r else (k, x) :: putF f v r) from rfl]
    by_cases hk : k = f
    · rw [if_pos hk, List.length_cons, List.length_cons]; omega
    · rw [if_neg hk, List.length_cons, List.length_cons]; omega

theorem RelO.some_of {v : V} {o : Option Value} (r : RelO (some v) o) : ∃ u, o = some u ∧ RelV v u := by
  cases o with
  | none => exact (show False from r).elim
  | some u => exact ⟨u, rfl, r⟩
theorem RelO.none_of {o : Option Value} (r : RelO none o) : o = none := by
  cases o with
  | none => rfl
  | some u => exact (show False from r).elim
theorem handed_of {v : V} {u : Value} (r : RelV v u) : PySem.W.handedIn u = true := by
  cases v with
  | non => cases (show u = Value.none from r); rfl
  | bl b => cases (show u = Value.bool b from r); rfl
  | int i => obtain ⟨t, e⟩ := (show ∃ t, u = Value.int i t from r); cases e; rfl
  | str x => obtain ⟨t, e⟩ := (show ∃ t, u = Value.str x t from r); cases e; rfl
  | byt b => obtain ⟨t, e⟩ := (show ∃ t, u = Value.bytes b t from r); cases e; rfl
  | flt b => obtain ⟨t, e⟩ := (show ∃ t, u = Value.float b t from r); cases e; rfl
  | ref a => cases (show u = Value.ref a from r); rfl
  | ty n => cases (show u = Value.type n from r); rfl

section
variable {P : Program} {w : World} {H H' : Hp} {h h' : Heap} {a C dx : Addr} {fs fs' : List (Str × V)}
theorem ins_get (hok : HOk P w H h) (e : H a = some (.ins C dx fs)) : ∃ mA, ObjM h a dx C mA ∧ (∀ f, RelO (fs.lookup f) (mA f)) ∧ PySem.Within mA (fs.map (·.1)) ∧ fs.length ≤ 1000 ∧ H dx = some (.own a) := by
  obtain ⟨d, z, ne, ob, mA, n, r, q⟩ := (show ObjOk P w H h a (.ins C dx fs) from hok a _ e)
  exact ⟨mA, ⟨ob, n, ne⟩, r, q, z, d⟩
end

/-! ### what of the text a class must have -/
structure Cls (K : PySem.W.Frag) (C : Addr) : Prop where
  pg : PySem.W.plainGet K C Str.empty = true
  hd : PySem.W.hasDictIn K C = true
  po : PySem.W.plainOver K C = true
  sa : PySem.W.findIn K (.ref C) "__setattr__" = some (some (.builtin "object.__setattr__"))
theorem Cls.get {K : PySem.W.Frag} {C : Addr} (c : Cls K C) (f : Str) : PySem.W.plainGet K C f = true := c.pg
/-- no class of it has the name -/
def NoAttr (K : PySem.W.Frag) (C : Addr) (f : Str) : Prop := PySem.W.findIn K (.ref C) f = some none
theorem NoAttr.taker {K : PySem.W.Frag} {C : Addr} {f : Str} (n : NoAttr K C f) : PySem.W.takerIn K C f = some none := by
  unfold PySem.W.takerIn
  rw [show PySem.W.findIn K (.ref C) f = some none from n]
  rfl
/-- a constant of the class -/
structure Con (K : PySem.W.Frag) (C : Addr) (f : Str) (v : V) (u : Value) : Prop where
  at_ : PySem.W.findIn K (.ref C) f = some (some u)
  rel : RelV v u
  get : PySem.W.specialIn K u "__get__" = some none
  cp : PySem.W.copiedNames.contains f = false
/-- a method: a plain def of the class or of one above it -/
structure Meth (K : PySem.W.Frag) (C : Addr) (m : Str) (f : Addr) : Prop where
  at_ : PySem.W.findIn K (.ref C) m = some (some (.ref f))
  fn : PySem.W.isFn K (.ref f) = true
  kp : PySem.W.keepIn K (.ref f) = true

section
variable {X : Cx} {pins : List (Addr × Obj)} {σ : St} {H : Hp} {s : Shared} {a C dx : Addr} {fs : List (Str × V)} {f : Str} {v : V} {A : Around} {E : Value → Shared → Prop}

theorem getattr_ok {b : Bool} {Q : Value → Shared → Prop} (I : Inv X pins σ H s) (e : H a = some (.ins C dx fs)) (c : Cls X.K C) (n : NoAttr X.K C f) (l : fs.lookup f = some v)
    (h : ∀ u s', Inv X pins σ H s' → RelV v u → Q u s') : wpAny (model X.prog X.w) A (getAttr (.ref a) f b) Q E s := by
  obtain ⟨mA, O, r, _, _, _⟩ := ins_get I.hok e
  obtain ⟨u, hu, ru⟩ := RelO.some_of (v := v) (o := mA f) (by rw [← l]; exact r f)
  exact get_map I.kIn O (c.get f) c.hd n hu (handed_of ru) (h u _ (I.tok _) ru)

theorem getcon_ok {b : Bool} {u : Value} {Q : Value → Shared → Prop} (I : Inv X pins σ H s) (e : H a = some (.ins C dx fs)) (c : Cls X.K C) (k : Con X.K C f v u) (l : fs.lookup f = none)
    (h : ∀ s', Inv X pins σ H s' → Q u s') : wpAny (model X.prog X.w) A (getAttr (.ref a) f b) Q E s := by
  obtain ⟨mA, O, r, _, _, _⟩ := ins_get I.hok e
  have hn : mA f = none := RelO.none_of (by rw [← l]; exact r f)
  exact get_const I.kIn O (c.get f) c.hd k.at_ k.get k.cp hn (handed_of k.rel) (h _ (I.tok _))

theorem getmeth_ok {m : Str} {g : Addr} {pl : Sem Bool} {Q : Value × List Value → Shared → Prop} (I : Inv X pins σ H s) (e : H a = some (.ins C dx fs)) (c : Cls X.K C) (k : Meth X.K C m g) (l : fs.lookup m = none)
    (h : Q (.ref g, [.ref a]) s) : wpAny (model X.prog X.w) A (getMethod (.ref a) m pl) Q E s := by
  obtain ⟨mA, O, r, _, _, _⟩ := ins_get I.hok e
  have hn : mA m = none := RelO.none_of (by rw [← l]; exact r m)
  exact get_meth I.kIn O (c.get m) k.at_ k.fn hn h

theorem setattr_ok {y : V} {u : Value} {Q : Unit → Shared → Prop} (I : Inv X pins σ H s) (e : H a = some (.ins C dx fs)) (c : Cls X.K C) (n : NoAttr X.K C f) (hl : fs.length < 1000) (ry : RelV y u)
    (h : ∀ s', Inv X pins σ (upd H a (.ins C dx (putF f y fs))) s' → Q () s') : wpAny (model X.prog X.w) A (setAttr (.ref a) f u) Q E s := by
  obtain ⟨mA, O, r, wi, _, ho⟩ := ins_get I.hok e
  have hz : (fs.map (·.1)).length ≤ sizeLine := by rw [List.length_map, sizeLine_eq]; omega
  refine set_map I.kIn O c.sa c.po n.taker c.hd wi hz fun h' O' sb => h _ ?_
  have hd : ∃ o, h'.get? dx = some o := let ⟨o, _, _, e', _⟩ := O'.ns; ⟨o, e'⟩
  refine I.write (x := a) (e := dx) (by rw [e]; exact True.intro) (.inr ho) (fun b q hb z => (sb.2 b hb).trans z) hd ?_
  refine ⟨by rw [upd_ne O.ne]; exact ho, ?_, O.ne, O'.obj, _, O'.ns, fun g => ?_, fun g hg => ?_⟩
  · have := length_putF f y fs; omega
  · show RelO ((putF f y fs).lookup g) (if g = f then some u else mA g)
    rw [lookup_putF]
    by_cases q : g = f
    · rw [if_pos q, if_pos q]; exact ry
    · rw [if_neg q, if_neg q]; exact r g
  · by_cases q : g = f
    · rw [q]; exact (keys_putF f y fs).1
    · refine (keys_putF f y fs).2 g (wi g fun z => hg ?_)
      show (if g = f then some u else mA g) = none
      rw [if_neg q]; exact z

/-- a new instance, tracked, without attributes -/
theorem Inv.made (I : Inv X pins σ H s) : Inv X pins σ (upd (upd H s.heap.objs.size (.own (s.heap.objs.size + 1))) (s.heap.objs.size + 1) (.ins C s.heap.objs.size []))
    { s with heap := (s.heap.push PySem.W.emptyDict).push (PySem.W.instObj C s.heap.objs.size) } := by
  have e1 : (s.heap.push PySem.W.emptyDict).get? s.heap.objs.size = some PySem.W.emptyDict := Heap.get?_push_size s.heap rfl
  have e2 : ((s.heap.push PySem.W.emptyDict).push (PySem.W.instObj C s.heap.objs.size)).get? (s.heap.objs.size + 1) = some (PySem.W.instObj C s.heap.objs.size) := by
    have := Heap.get?_push_size (s.heap.push PySem.W.emptyDict) (o := PySem.W.instObj C s.heap.objs.size) rfl
    rwa [Heap.size_push] at this
  have e3 : (s.heap.push PySem.W.emptyDict).Ns s.heap.objs.size (fun _ => none) := ⟨PySem.W.emptyDict, #[], _, e1, rfl, (fun e he => absurd he (by simp)), fun _ => rfl⟩
  have I1 := I.laid (a := s.heap.objs.size) (o := .own (s.heap.objs.size + 1)) (h' := s.heap.push PySem.W.emptyDict) (t' := s.toks) (fun b u q => Heap.get?_push_of_some _ q) (Nat.le_refl _) ⟨_, e1⟩
  refine I1.laid (a := s.heap.objs.size + 1) (o := .ins C s.heap.objs.size []) (t' := s.toks) (fun b u q => Heap.get?_push_of_some _ q) (Nat.le_of_eq (Heap.size_push _ _)) ?_
  have ne : s.heap.objs.size ≠ s.heap.objs.size + 1 := Nat.ne_of_lt (Nat.lt_succ_self _)
  refine ⟨by rw [upd_ne ne, upd_same], Nat.zero_le _, ne, e2, fun _ => none, (Heap.Ns1.of_empty e3).at fun o q => Heap.get?_push_of_some _ q, fun _ => True.intro, fun y hy => absurd rfl hy⟩

/-- e.f where nothing but the object is asked: through attributeBase (super) and the last hold -/
theorem attr_of {prog : Program} {w : World} {env : Env} {e : Expr} {f : Str} {pos : Pos} {s : Shared} {Q : Value → Shared → Prop} (hb : attributeBase e f env (eval e env) = eval e env)
    (h : wpAny (model prog w) A (eval e env) (fun o s₁ => wpAny (model prog w) A (getAttr o f true) Q E s₁) E s) : wpAny (model prog w) A (eval (.Attribute e f pos) env) Q E s :=
  Attribute_any_ h (by rw [arm_eval_Attribute, hb])
end

/-! ### readings and rules -/
/-- e.f, an attribute of the instance -/
def tFld (K : PySem.W.Frag) (ta : TE) (f : Str) : TE := fun σ H Q => ta σ H fun x H1 => ∃ a C dx fs v, x = .ref a ∧ H1 a = some (.ins C dx fs) ∧ Cls K C ∧ NoAttr K C f ∧ fs.lookup f = some v ∧ Q v H1
/-- e.f, a constant of the class -/
def tCon (K : PySem.W.Frag) (ta : TE) (f : Str) : TE := fun σ H Q => ta σ H fun x H1 => ∃ a C dx fs v u, x = .ref a ∧ H1 a = some (.ins C dx fs) ∧ Cls K C ∧ Con K C f v u ∧ fs.lookup f = none ∧ Q v H1
/-- e.f = value -/
def sFld (K : PySem.W.Frag) (ta tv : TE) (f : Str) : TS := fun D σ H => tv σ H fun y H1 => ta σ H1 fun x H2 => ∃ a C dx fs, x = .ref a ∧ H2 a = some (.ins C dx fs) ∧ Cls K C ∧ NoAttr K C f ∧ fs.length < 1000 ∧
  D.nx σ (upd H2 a (.ins C dx (putF f y fs)))
/-- an augmented operator on two values -/
def InOp (X : Cx) (op : Operator) (rd : V → V → Hp → VK → Prop) : Prop :=
  ∀ (pins : List (Addr × Obj)) (s : Shared) (σ : St) (H : Hp) (x y : V) (u v : Value) (Q : VK), Inv X pins σ H s → RelV x u → RelV y v → rd x y H Q → wpAny (model X.prog X.w) X.A (inplaceOp op u v) (EP X pins σ Q) X.xe s
/-- e.f op= value -/
def sFldAug (K : PySem.W.Frag) (ta tv : TE) (rd : V → V → Hp → VK → Prop) (f : Str) : TS := fun D σ H => ta σ H fun x H1 => ∃ a C dx fs v, x = .ref a ∧ H1 a = some (.ins C dx fs) ∧ Cls K C ∧ NoAttr K C f ∧ fs.lookup f = some v ∧
  tv σ H1 fun y H2 => rd v y H2 fun z H3 => ∃ dx' fs', H3 a = some (.ins C dx' fs') ∧ fs'.length < 1000 ∧ D.nx σ (upd H3 a (.ins C dx' (putF f z fs')))

section
variable {X : Cx} {o e value : Expr} {f : Str} {pos pos' tpos : Pos} {ta tv : TE}
theorem pe_fld (he : PE X e ta) (hb : attributeBase e f X.env (eval e X.env) = eval e X.env) : PE X (.Attribute e f pos) (tFld X.K ta f) := by
  intro pins s σ H Q I h
  refine attr_of hb (thn (he pins s σ H _ I h) fun u s1 ⟨x, H1, I1, rx, a, C, dx, fs, v, ex, ea, c, n, l, q⟩ => ?_)
  subst ex
  obtain rfl : u = Value.ref a := rx
  exact getattr_ok I1 ea c n l fun u' s2 I2 ru => ⟨v, H1, I2, ru, q⟩
theorem pe_con (he : PE X e ta) (hb : attributeBase e f X.env (eval e X.env) = eval e X.env) : PE X (.Attribute e f pos) (tCon X.K ta f) := by
  intro pins s σ H Q I h
  refine attr_of hb (thn (he pins s σ H _ I h) fun u s1 ⟨x, H1, I1, rx, a, C, dx, fs, v, u0, ex, ea, c, k, l, q⟩ => ?_)
  subst ex
  obtain rfl : u = Value.ref a := rx
  exact getcon_ok I1 ea c k l fun s2 I2 => ⟨v, H1, I2, k.rel, q⟩
theorem ps_fld (ha : PE X o ta) (hv : PE X value tv) (hs : swapsWith value (some (.Attribute o f pos')) pos.line X.env = pure false) : PS X (.Assign [.Attribute o f pos'] value pos) (sFld X.K ta tv f) := by
  intro pins s σ H D I h
  refine plainObj_wpAny_Assign_Attribute (thn (hv pins s σ H _ I h) fun u s1 ⟨y, H1, I1, ry, q⟩ => thn (ha pins s1 σ H1 _ I1 q) fun ov s2 ⟨x, H2, I2, rx, a, C, dx, fs, ex, ea, c, n, l, q2⟩ => ?_) hs
  subst ex
  obtain rfl : ov = Value.ref a := rx
  exact setattr_ok I2 ea c n l ry fun s3 I3 => ⟨σ, _, I3, q2⟩
theorem ps_fldaug {op : Operator} {rd : V → V → Hp → VK → Prop} (ha : PE X o ta) (hv : PE X value tv) (hop : InOp X op rd) : PS X (.AugAssign (.Attribute o f tpos) op value pos) (sFldAug X.K ta tv rd f) := by
  intro pins s σ H D I h
  refine wpAny_AugAssign_AttributeAny (thn (ha pins s σ H _ I h) fun ov s1 ⟨x, H1, I1, rx, a, C, dx, fs, v, ex, ea, c, n, l, q⟩ => ?_)
  subst ex
  obtain rfl : ov = Value.ref a := rx
  refine getattr_ok I1 ea c n l fun u s2 I2 ru => thn (hv pins s2 σ H1 _ I2 q) fun w3 s3 ⟨y, H2, I3, ry, q3⟩ => thn (hop pins s3 σ H2 v y u w3 _ I3 ru ry q3) fun w4 s4 ⟨z, H3, I4, rz, dx', fs', ea', l', q4⟩ => ?_
  exact setattr_ok I4 ea' c n l' rz fun s5 I5 => ⟨σ, _, I5, q4⟩
def rAdd : V → V → Hp → VK → Prop := fun x y H Q => ∃ i j, x = .int i ∧ y = .int j ∧ Q (.int (i + j)) H
def rSub : V → V → Hp → VK → Prop := fun x y H Q => ∃ i j, x = .int i ∧ y = .int j ∧ Q (.int (i - j)) H
theorem in_add : InOp X .Add rAdd := by
  rintro pins s σ H x y u v Q I rx ry ⟨i, j, rfl, rfl, q⟩
  obtain ⟨t, rfl⟩ := (show ∃ t, u = Value.int i t from rx)
  obtain ⟨t', rfl⟩ := (show ∃ t', v = Value.int j t' from ry)
  exact PyProof.Rows.iadd_int ⟨.int (i + j), H, I.tok _, ⟨_, rfl⟩, q⟩
theorem in_sub : InOp X .Sub rSub := by
  rintro pins s σ H x y u v Q I rx ry ⟨i, j, rfl, rfl, q⟩
  obtain ⟨t, rfl⟩ := (show ∃ t, u = Value.int i t from rx)
  obtain ⟨t', rfl⟩ := (show ∃ t', v = Value.int j t' from ry)
  exact PyProof.Rows.isub_int ⟨.int (i - j), H, I.tok _, ⟨_, rfl⟩, q⟩

/-- what is between an instance and its method: the tree of a method call -/
theorem methcall_of {pl : Sem Bool} {m : Str} {apos : Pos} {args : List Expr} {pins : List (Addr × Obj)} {s : Shared} {σ : St} {H : Hp} {Q : Value → Shared → Prop} {te : TE} (he : PE X e te) (I : Inv X pins σ H s)
    (h : te σ H fun x H1 => ∃ a C dx fs g, x = .ref a ∧ H1 a = some (.ins C dx fs) ∧ Cls X.K C ∧ Meth X.K C m g ∧ fs.lookup m = none ∧
      ∀ s1, Inv X pins σ H1 s1 → wpAny (model X.prog X.w) X.A (callWith pos (.ref g) [.ref a] (backTo pos (starEach args X.env)) (backToKw pos (keywordEach [] X.env))) Q X.xe s1)
    (ht : eval (.Call (.Attribute e m apos) args [] pos) X.env = (do
      let ov ← eval e X.env
      standAt apos.atName
      let (f, first) ← holding [ov] (getMethod ov m pl)
      callWith pos f first (backTo pos (starEach args X.env)) (backToKw pos (keywordEach [] X.env)))) :
    wpAny (model X.prog X.w) X.A (eval (.Call (.Attribute e m apos) args [] pos) X.env) Q X.xe s := by
  refine PySem.W.methodCall_KW (pl := pl) (thn (he pins s σ H _ I h) fun u s1 ⟨x, H1, I1, rx, a, C, dx, fs, g, ex, ea, c, k, l, q⟩ => ?_) ht
  subst ex
  obtain rfl : u = Value.ref a := rx
  exact getmeth_ok I1 ea c k l (q s1 I1)
end

/-! ### isinstance -/
section
variable {X : Cx} {pins : List (Addr × Obj)} {σ : St} {H : Hp} {s : Shared} {A : Around} {E : Value → Shared → Prop} {Q : Value → Shared → Prop} {c : Value} {b : Bool}
/-- the type of a value, as the fragment's deciders take it; for an instance its class -/
inductive TyOf (K : PySem.W.Frag) (H : Hp) : V → Value → Prop where
  | non : TyOf K H .non (.type "NoneType")
  | bl (x : Bool) : TyOf K H (.bl x) (.type "bool")
  | int (i : Int) : TyOf K H (.int i) (.type "int")
  | str (x : Str) : TyOf K H (.str x) (.type "str")
  | flt (x : UInt64) : TyOf K H (.flt x) (.type "float")
  | lst {a : Addr} {xs : List V} (e : H a = some (.lst xs)) : TyOf K H (.ref a) (.type "list")
  | frz {a : Addr} {o : Obj} {xs : List V} (e : H a = some (.frz o (.lst xs))) : TyOf K H (.ref a) (.type "list")
  | tup {a : Addr} {xs : List V} (e : H a = some (.tup xs)) : TyOf K H (.ref a) (.type "tuple")
  | dK {a : Addr} {kvs : List (Key × V)} (e : H a = some (.dK kvs)) : TyOf K H (.ref a) (.type "dict")
  | dT {a : Addr} {kvs : List (List Key × V)} (e : H a = some (.dT kvs)) : TyOf K H (.ref a) (.type "dict")
  | ins {a C dx : Addr} {fs : List (Str × V)} (e : H a = some (.ins C dx fs)) (cl : Cls K C) (ha : PySem.W.findIn K (.ref C) "__class__" = some (some (.builtin "object.__class__")))
      (hn : PySem.W.specialIn K (.builtin "object.__class__") "__get__" = some (some (.builtin "getset_descriptor.__get__"))) (htk : PySem.W.takesIn K (.builtin "object.__class__") = some true)
      (hm : PySem.W.mroIn K C (.type "object") = some true) : TyOf K H (.ref a) (.ref C)
/-- isinstance(x, c) for one class c, a built-in or an own one: kitOne's answer -/
theorem isinst_ok {x : V} {u t : Value} (I : Inv X pins σ H s) (rx : RelV x u) (ty : TyOf X.K H x t) (e : PySem.W.kitOne X.K t c = some b) (h : ∀ tk, Q (.bool b) { s with toks := tk }) :
    wpAny (model X.prog X.w) A (call (.builtin "isinstance") [u, c]) Q E s := by
  cases ty with
  | non => cases (show u = Value.none from rx); exact PySem.W.kia_one PySem.W.kitx_none I.kIn True.intro e (fun z => nomatch z) h
  | bl y => cases (show u = Value.bool y from rx); exact PySem.W.kia_one PySem.W.kitx_bool I.kIn True.intro e (fun z => nomatch z) h
  | int i => obtain ⟨t, q⟩ := (show ∃ t, u = Value.int i t from rx); cases q; exact PySem.W.kia_one PySem.W.kitx_int I.kIn True.intro e (fun z => nomatch z) h
  | str y => obtain ⟨t, q⟩ := (show ∃ t, u = Value.str y t from rx); cases q; exact PySem.W.kia_one PySem.W.kitx_str I.kIn True.intro e (fun z => nomatch z) h
  | flt y => obtain ⟨t, q⟩ := (show ∃ t, u = Value.float y t from rx); cases q; exact PySem.W.kia_one PySem.W.kitx_float I.kIn True.intro e (fun z => nomatch z) h
  | @lst a xs ea =>
    cases (show u = Value.ref a from rx)
    obtain ⟨_, _, n, _, h1⟩ := (show ObjOk X.prog X.w H s.heap a (.lst xs) from I.hok a _ ea)
    exact PySem.W.kia_one PySem.W.kitx_list I.kIn ⟨_, h1, rfl⟩ e (fun z => nomatch z) h
  | @frz a ob xs ea =>
    cases (show u = Value.ref a from rx)
    obtain ⟨_, _, _, n, _, h1⟩ := (show ObjOk X.prog X.w H s.heap a (.frz ob (.lst xs)) from I.hok a _ ea)
    exact PySem.W.kia_one PySem.W.kitx_list I.kIn ⟨_, h1, rfl⟩ e (fun z => nomatch z) h
  | @tup a xs ea =>
    cases (show u = Value.ref a from rx)
    obtain ⟨_, _, _, p⟩ := (show ObjOk X.prog X.w H s.heap a (.tup xs) from I.hok a _ ea)
    obtain ⟨o, h1, h2, _⟩ := p
    exact PySem.W.kia_one PySem.W.kitx_tuple I.kIn ⟨o, h1, h2⟩ e (fun z => nomatch z) h
  | @dK a kvs ea =>
    cases (show u = Value.ref a from rx)
    obtain ⟨_, _, vs, _, p⟩ := (show ObjOk X.prog X.w H s.heap a (.dK kvs) from I.hok a _ ea)
    obtain ⟨o, es, ep, h1, h2, _⟩ := p
    exact PySem.W.kia_one PySem.W.kitx_dict I.kIn ⟨o, h1, h2.1⟩ e (fun z => nomatch z) h
  | @dT a kvs ea =>
    cases (show u = Value.ref a from rx)
    obtain ⟨_, _, xs, _, o, es, ep, h1, h2, _⟩ := (show ObjOk X.prog X.w H s.heap a (.dT kvs) from I.hok a _ ea)
    exact PySem.W.kia_one PySem.W.kitx_dict I.kIn ⟨o, h1, h2.1⟩ e (fun z => nomatch z) h
  | @ins a C dx fs ea cl ha hn htk hm =>
    cases (show u = Value.ref a from rx)
    obtain ⟨mA, O, _⟩ := ins_get I.hok ea
    obtain ⟨od, J, _⟩ := O.look
    exact PySem.W.kia_one (PySem.W.kitx_own (cl.get _) cl.hd ha hn htk hm) I.kIn J e (fun z => nomatch z) h
end
end L2

namespace L2
open PySem PySem.Spec PyProof.Rows

/-! ### room -/
structure Room (k : Nat) (A : Around) : Prop where
  hd : A.handled = none
  dp : A.depth + 3 * k + 5 < recursionLimit
  un : A.units + 16 * k + 200 < cLine
  gd : A.guards = some []
theorem Room.mono {j k : Nat} {A : Around} (r : Room k A) (h : j ≤ k) : Room j A := ⟨r.hd, by have := r.dp; omega, by have := r.un; omega, r.gd⟩
theorem Room.deeper {k : Nat} {A : Around} (r : Room (k + 1) A) (env : Env) : Room k (A.deeper env) :=
  ⟨r.hd, by have := r.dp; show A.depth + 1 + 3 * k + 5 < _; omega, by have := r.un; show A.units + 3 + 16 * k + 200 < _; omega, by first | exact r.gd | simp [Around.deeper, r.gd]⟩
theorem Room.in1 {k : Nat} {A : Around} (r : Room (k + 1) A) : Room k A.in1 :=
  ⟨r.hd, by have := r.dp; show A.depth + 3 * k + 5 < _; omega, by have := r.un; show A.units + 1 + 16 * k + 200 < _; omega, r.gd⟩
theorem make_depth {A : Around} {C : Addr} {us : List Value} {kw : List (Str × Value)} : (A.under (.builtin "type.__call__" ⟨.ref C :: us, kw⟩)).depth = A.depth + 1 := by
  first | rfl | simp [Around.under, Code.weight, Code.isCreation, Code.isGuard, Code.isCaller, Code.frames, Code.isFrame, guardIds]
theorem make_units {A : Around} {C : Addr} {us : List Value} {kw : List (Str × Value)} : (A.under (.builtin "type.__call__" ⟨.ref C :: us, kw⟩)).units = A.units + 1 := by
  first | rfl | simp [Around.under, Code.cUnits, Code.frames, Code.isFrame]
theorem make_guards {A : Around} {C : Addr} {us : List Value} {kw : List (Str × Value)} (h : A.guards = some []) : (A.under (.builtin "type.__call__" ⟨.ref C :: us, kw⟩)).guards = some [] := by
  first | exact h | (simp [Around.under, Code.guards, Code.isGuard, guardIds, pushGuards, h])
theorem Room.make {k : Nat} {A : Around} (r : Room (k + 1) A) (C : Addr) (us : List Value) (kw : List (Str × Value)) : Room k (A.under (.builtin "type.__call__" ⟨.ref C :: us, kw⟩)) :=
  ⟨r.hd, by have := r.dp; rw [make_depth]; omega, by have := r.un; rw [make_units]; omega, make_guards r.gd⟩
theorem Room.depth {k : Nat} {A : Around} (r : Room k A) : A.depth < recursionLimit := by have := r.dp; omega
theorem Room.units {k : Nat} {A : Around} (r : Room k A) : A.units + 64 < cLine := by have := r.un; omega
theorem Room.units0 {k : Nat} {A : Around} (r : Room k A) : A.units < cLine := by have := r.un; omega

/-! ### argument lists and displays -/
def tNil : TA := fun _ H Q => Q [] H
def tCons (ta : TE) (tr : TA) : TA := fun σ H Q => ta σ H fun x H1 => tr σ H1 fun xs H2 => Q (x :: xs) H2
section
variable {X : Cx} {e : Expr} {es : List Expr} {te : TE} {t : TA} {pos : Pos}
theorem pa_nil : PA X [] tNil := fun _ _ _ _ H Q I h => Calls.spliced_nil ⟨[], H, I, .nil, h⟩
theorem pa_cons (ha : PE X e te) (hr : PA X es t) (hs : starEach (e :: es) X.env = (false, eval e X.env) :: starEach es X.env := by rfl) : PA X (e :: es) (tCons te t) := by
  intro pos pins s σ H Q I h
  rw [hs]
  show wpAny _ _ (spliced ((false, eval e X.env) :: backTo pos (starEach es X.env))) _ _ s
  refine Calls.spliced_cons (thn (ha pins s σ H _ I h) fun u s1 ⟨x, H1, I1, r1, q1⟩ => ?_)
  exact thn (hr pos pins s1 σ H1 _ I1 q1) fun us s2 ⟨xs, H2, I2, r2, q2⟩ => ⟨x :: xs, H2, I2, .cons r1 r2, q2⟩

/-- a tuple, a list of written items -/
def tTup (t : TA) : TE := fun σ H Q => t σ H fun xs H1 => xs.length ≤ sizeLine ∧ ∀ p, H1 p = none → Q (.ref p) (upd H1 p (.tup xs))
def tLst (t : TA) : TE := fun σ H Q => t σ H fun xs H1 => xs.length ≤ sizeLine ∧ ∀ p, H1 p = none → Q (.ref p) (upd H1 p (.lst xs))
theorem pe_tup {x1} (h : PA X es t) : PE X (.Tuple es x1 pos) (tTup t) := by
  intro pins s σ H Q I hq
  refine wpAny_Tuple_spliced (thn (h pos pins s σ H _ I hq) fun us s1 ⟨xs, H1, I1, r, z, q⟩ => ⟨by rw [← r.length]; exact z, ?_⟩)
  have hf : H1 s1.heap.objs.size = none := I1.hok.fresh (Nat.le_refl _)
  refine ⟨.ref s1.heap.objs.size, upd H1 s1.heap.objs.size (.tup xs), I1.laid (t' := s1.toks) (fun b u e => Heap.get?_push_of_some _ e) (Nat.le_refl _) ?_, rfl, q _ hf⟩
  exact ⟨z, us, r, ⟨_, Heap.get?_push_size _ rfl, rfl, _, rfl⟩⟩
theorem pe_lst (h : PA X es t) : PE X (.List es pos) (tLst t) := by
  intro pins s σ H Q I hq
  refine wpAny_List_spliced (thn (h pos pins s σ H _ I hq) fun us s1 ⟨xs, H1, I1, r, z, q⟩ => ⟨by rw [← r.length]; exact z, ?_⟩)
  have hf : H1 s1.heap.objs.size = none := I1.hok.fresh (Nat.le_refl _)
  refine ⟨.ref s1.heap.objs.size, upd H1 s1.heap.objs.size (.lst xs), I1.laid (t' := s1.toks) (fun b u e => Heap.get?_push_of_some _ e) (Nat.le_refl _) ?_, rfl, q _ hf⟩
  exact ⟨z, us, 0, r, Heap.get?_push_size _ rfl⟩
end

/-! ### what a def promises -/
/-- a def's promise: the bound arguments in the parameters' order, the heap, the wanted end, the wanted exception -/
abbrev Sp := List V → Hp → VK → XK → Prop
/-- how an exception lies behind a call (file 08 gives it): the callers' frames, abstract heap and state ahead of the call, the wish, the exception, the state -/
abbrev CXT := List Env → Hp → Shared → XK → Value → Shared → Prop

/-- the state at a call -/
structure Env0 (P : Program) (w : World) (K : PySem.W.Frag) (mg : Str → Option Value) (base : Heap) (A : Around) (outer : List Env) (s : Shared) (H : Hp) : Prop where
  frames : A.frames = some outer
  mod : Mod K mg base
  bs : ∀ b o, base.get? b = some o → s.heap.get? b = some o ∧ H b = none
  bsz : base.objs.size ≤ s.heap.objs.size
  funs : s.heap.FunFrames base outer
  frf : ∀ b ∈ frs outer, H b = none
  hok : HOk P w H s.heap
  bare : AllBare s.gens
/-- a call's end -/
def CE (outer : List Env) (P : Program) (w : World) (H : Hp) (s : Shared) (Q : VK) (u : Value) (s' : Shared) : Prop :=
  ∃ v H', s'.os = s.os ∧ AllBare s'.gens ∧ Un (frs outer) [] H H' s.heap s'.heap ∧ HOk P w H' s'.heap ∧ RelV v u ∧ Q v H'
def CR (CX : CXT) (outer : List Env) (P : Program) (w : World) (H : Hp) (s : Shared) (Q : VK) (E : XK) (r : Result) (s' : Shared) : Prop :=
  match r with
  | .ok (.ret u) => CE outer P w H s Q u s'
  | .ok _ => False
  | .error e => CX outer H s E e s'
structure FnOk (P : Program) (w : World) (K : PySem.W.Frag) (mg : Str → Option Value) (base : Heap) (CX : CXT) (k : Nat) (f : Addr) (fd : FuncData) (ps : List Str) (sp : Sp) : Prop where
  len : ∀ vs H Q E, sp vs H Q E → vs.length = ps.length
  run : ∀ (A : Around) (outer : List Env) (s : Shared) (H : Hp) (args : Args) (us : List Value) (vs : List V) (Q : VK) (E : XK), Room k A → Env0 P w K mg base A outer s H → BindsTo s fd args (ps.zip us) → Vals vs us → sp vs H Q E →
    codeAny (model P w) A (.call (.ref f) args) (CR CX outer P w H s Q E) s
theorem FnOk.mono {P : Program} {w : World} {K : PySem.W.Frag} {mg : Str → Option Value} {base : Heap} {CX : CXT} {j k : Nat} {f : Addr} {fd : FuncData} {ps : List Str} {sp : Sp} (F : FnOk P w K mg base CX j f fd ps sp) (h : j ≤ k) :
    FnOk P w K mg base CX k f fd ps sp := ⟨F.len, fun A outer s H args us vs Q E hr => F.run A outer s H args us vs Q E (hr.mono h)⟩
/-- a weaker promise -/
theorem FnOk.imp {P : Program} {w : World} {K : PySem.W.Frag} {mg : Str → Option Value} {base : Heap} {CX : CXT} {k : Nat} {f : Addr} {fd : FuncData} {ps : List Str} {sp sp' : Sp} (F : FnOk P w K mg base CX k f fd ps sp)
    (h : ∀ vs H Q E, sp' vs H Q E → sp vs H Q E) : FnOk P w K mg base CX k f fd ps sp' :=
  ⟨fun vs H Q E q => F.len vs H Q E (h _ _ _ _ q), fun A outer s H args us vs Q E hr he hb hv hs => F.run A outer s H args us vs Q E hr he hb hv (h _ _ _ _ hs)⟩

theorem Env0.make {P : Program} {w : World} {K : PySem.W.Frag} {mg : Str → Option Value} {base : Heap} {A : Around} {outer : List Env} {s : Shared} {H : Hp} (e : Env0 P w K mg base A outer s H) (C : Addr) (us : List Value) (kw : List (Str × Value)) :
    Env0 P w K mg base (A.under (.builtin "type.__call__" ⟨.ref C :: us, kw⟩)) outer s H := ⟨by first | exact e.frames | (simpa [Around.under, Code.envs, Code.isFrame, pushEnvs] using e.frames), e.mod, e.bs, e.bsz, e.funs, e.frf, e.hok, e.bare⟩
theorem Env0.in1 {P : Program} {w : World} {K : PySem.W.Frag} {mg : Str → Option Value} {base : Heap} {A : Around} {outer : List Env} {s : Shared} {H : Hp} (e : Env0 P w K mg base A outer s H) :
    Env0 P w K mg base A.in1 outer s H := ⟨e.frames, e.mod, e.bs, e.bsz, e.funs, e.frf, e.hok, e.bare⟩

section
variable {X : Cx} {pins : List (Addr × Obj)} {σ : St} {H : Hp} {s s' : Shared}
/-- from a body: what a callee wants -/
theorem Inv.env0 (I : Inv X pins σ H s) : Env0 X.prog X.w X.K X.mg X.base X.A X.stack s H :=
  ⟨I.ok.frames, I.ok.mod, I.bs, Nat.le_trans I.ok.bsz I.sz, I.stack, I.stkFree, I.hok, I.bare⟩
/-- behind a call -/
theorem Inv.after {Q : VK} {u : Value} (I : Inv X pins σ H s) (h : CE X.stack X.prog X.w H s Q u s') : EP X pins σ Q u s' := by
  obtain ⟨v, H', os, bare, un, hok, r, q⟩ := h
  obtain ⟨hh, g, d, t, os'⟩ := s'
  obtain rfl : os' = s.os := os
  exact ⟨v, H', I.call (h' := hh) (g' := g) (d' := d) (t' := t) (ch := []) un hok bare (fun b z => absurd z (by simp)), r, q⟩
end

/-! ### calls -/
/-- f(..): the written arguments, then the defaults dvs; E: what is wanted of an exception -/
def tCall (sp : Sp) (dvs : List V) (E : XK) (t : TA) : TE := fun σ H Q => t σ H fun vs H1 => sp (vs ++ dvs) H1 Q E
/-- o.m(..) of an instance of the class at C -/
def tMeth (C : Addr) (m : Str) (sp : Sp) (dvs : List V) (E : XK) (ta : TE) (t : TA) : TE := fun σ H Q => ta σ H fun x H1 => ∃ a dx fs, x = .ref a ∧ H1 a = some (.ins C dx fs) ∧ fs.lookup m = none ∧
  t σ H1 fun vs H2 => sp (x :: (vs ++ dvs)) H2 Q E
/-- C(..): a new instance and its dict, then __init__ -/
def tMake (C : Addr) (sp : Sp) (dvs : List V) (E : XK) (t : TA) : TE := fun σ H Q => t σ H fun vs H1 => ∀ x dx, H1 x = none → H1 dx = none → dx ≠ x →
  sp (.ref x :: (vs ++ dvs)) (upd (upd H1 dx (.own x)) x (.ins C dx [])) (fun v H2 => v = .non ∧ Q (.ref x) H2) E

/-- how the parameters are bound: us the positional arguments, kw the keywords' values by name, ds the defaults that fill up -/
def Binds (K : PySem.W.Frag) (fd : FuncData) (ps : List Str) (ds : List Value) : Prop :=
  ∀ (s : Shared) (us : List Value), K.In s.heap → (us ++ ds).length = ps.length → BindsTo s fd ⟨us, []⟩ (ps.zip (us ++ ds))
/-- every parameter is given -/
theorem Binds.all {K : PySem.W.Frag} {fd : FuncData} {ps : List Str} (h : ∀ us : List Value, us.length = ps.length → bindArgs fd ⟨us, []⟩ = pure (ps.zip us)) : Binds K fd ps [] := fun s us _ hl => by
  rw [List.append_nil] at hl ⊢
  exact .of_eq (h us hl)

/-- an exception of a callee reaches what this body wants of exceptions -/
def Passes (CX : CXT) (X : Cx) (E : XK) : Prop := ∀ (pins : List (Addr × Obj)) (σ : St) (H : Hp) (s : Shared) (e : Value) (s' : Shared), Inv X pins σ H s → CX X.stack H s E e s' → X.xe e s'

section
variable {X : Cx} {CX : CXT} {k : Nat} {f C : Addr} {fd : FuncData} {ps : List Str} {sp : Sp} {dvs : List V} {ds : List Value} {E : XK} {x m : Str} {p pos apos : Pos} {e o : Expr} {es : List Expr} {ta : TE} {t : TA}

/-- the callee runs -/
theorem run_fn {pins : List (Addr × Obj)} {σ : St} {H : Hp} {s : Shared} {Q : VK} {us : List Value} {vs : List V} (F : FnOk X.prog X.w X.K X.mg X.base CX k f fd ps sp) (hr : Room k X.A) (hb : Binds X.K fd ps ds) (hd : Vals dvs ds) (hx : Passes CX X E)
    (I : Inv X pins σ H s) (r : Vals vs us) (h : sp (vs ++ dvs) H Q E) : wpAny (model X.prog X.w) X.A (call (.ref f) us) (EP X pins σ Q) X.xe s := by
  have r2 : Vals (vs ++ dvs) (us ++ ds) := r.append hd
  have hl : (us ++ ds).length = ps.length := by rw [← r2.length]; exact F.len _ _ _ _ h
  refine wpAny_call (codeAny_mono (F.run X.A X.stack s H ⟨us, []⟩ (us ++ ds) (vs ++ dvs) Q E hr I.env0 (hb s us I.kIn hl) r2 h) fun r s' hq => ?_)
  cases r with
  | error e => exact hx pins σ H s e s' I hq
  | ok fl =>
    cases fl with
    | ret u => exact I.after hq
    | next => exact False.elim hq
    | brk => exact False.elim hq
    | cont => exact False.elim hq

theorem pe_call (F : FnOk X.prog X.w X.K X.mg X.base CX k f fd ps sp) (hr : Room k X.A) (hg : Gl X x) (hm : X.mg x = some (.ref f)) (hk : PySem.W.keepIn X.K (.ref f) = true) (hb : Binds X.K fd ps ds) (hd : Vals dvs ds) (hx : Passes CX X E)
    (ha : PA X (e :: es) t) (hdb : (x == ("__debug__" : Str)) = false := by decide) (he : starEach (e :: es) X.env = (false, eval e X.env) :: starEach es X.env := by rfl) (hpl : (backTo pos (starEach es X.env)).any (·.1) = false := by rfl) :
    PE X (.Call (.Name x p) (e :: es) [] pos) (tCall sp dvs E t) := by
  intro pins s σ H Q I h
  refine wpAny_Call_Name_kw (ld_glob I hg hm ?_ hdb)
  refine PySem.W.callWith_K (h₀ := X.base) I.ok.mod.kin hk (thn (ha pos pins s σ H _ I h) fun us s1 ⟨vs, H1, I1, r, q⟩ => ⟨I1.kIn, ?_⟩) he hpl
  exact run_fn F hr hb hd hx I1 r q
theorem pe_call0 (F : FnOk X.prog X.w X.K X.mg X.base CX k f fd ps sp) (hr : Room k X.A) (hg : Gl X x) (hm : X.mg x = some (.ref f)) (hk : PySem.W.keepIn X.K (.ref f) = true) (hb : Binds X.K fd ps ds) (hd : Vals dvs ds) (hx : Passes CX X E)
    (hdb : (x == ("__debug__" : Str)) = false := by decide) : PE X (.Call (.Name x p) [] [] pos) (tCall sp dvs E tNil) := by
  intro pins s σ H Q I h
  refine wpAny_Call_Name_kw (ld_glob I hg hm ?_ hdb)
  exact PySem.W.callWith_K0 I.kIn hk (run_fn (us := []) F hr hb hd hx I .nil h)

/-- o.m(e, ..) -/
theorem pe_meth {pl : Sem Bool} (he : PE X o ta) (c : Cls X.K C) (hm : Meth X.K C m f) (F : FnOk X.prog X.w X.K X.mg X.base CX k f fd ps sp) (hr : Room k X.A) (hb : Binds X.K fd ps ds) (hd : Vals dvs ds) (hx : Passes CX X E) (ha : PA X (e :: es) t)
    (hst : starEach (e :: es) X.env = (false, eval e X.env) :: starEach es X.env := by rfl) (hpl : (backTo pos (starEach es X.env)).any (·.1) = false := by rfl)
    (ht : eval (.Call (.Attribute o m apos) (e :: es) [] pos) X.env = (do
      let ov ← eval o X.env
      standAt apos.atName
      let (f, first) ← holding [ov] (getMethod ov m pl)
      callWith pos f first (backTo pos (starEach (e :: es) X.env)) (backToKw pos (keywordEach [] X.env))) := by rfl) :
    PE X (.Call (.Attribute o m apos) (e :: es) [] pos) (tMeth C m sp dvs E ta t) := by
  intro pins s σ H Q I h
  refine PySem.W.methodCall_KW (pl := pl) (thn (he pins s σ H _ I h) fun u s1 ⟨x, H1, I1, rx, a, dx, fs, ex, ea, l, q⟩ => ?_) ht
  subst ex
  obtain rfl : u = Value.ref a := rx
  refine getmeth_ok I1 ea c hm l ?_
  refine PySem.W.callWith_K (first := [.ref a]) (h₀ := X.base) I.ok.mod.kin hm.kp (thn (ha pos pins s1 σ H1 _ I1 q) fun us s2 ⟨vs, H2, I2, r, q2⟩ => ⟨I2.kIn, ?_⟩) hst hpl
  exact run_fn (us := .ref a :: us) (vs := .ref a :: vs) F hr hb hd hx I2 (.cons rfl r) q2
/-- o.m() -/
theorem pe_meth0 {pl : Sem Bool} (he : PE X o ta) (c : Cls X.K C) (hm : Meth X.K C m f) (F : FnOk X.prog X.w X.K X.mg X.base CX k f fd ps sp) (hr : Room k X.A) (hb : Binds X.K fd ps ds) (hd : Vals dvs ds) (hx : Passes CX X E)
    (ht : eval (.Call (.Attribute o m apos) [] [] pos) X.env = (do
      let ov ← eval o X.env
      standAt apos.atName
      let (f, first) ← holding [ov] (getMethod ov m pl)
      callWith pos f first (backTo pos (starEach [] X.env)) (backToKw pos (keywordEach [] X.env))) := by rfl) :
    PE X (.Call (.Attribute o m apos) [] [] pos) (tMeth C m sp dvs E ta tNil) := by
  intro pins s σ H Q I h
  refine PySem.W.methodCall_KW (pl := pl) (thn (he pins s σ H _ I h) fun u s1 ⟨x, H1, I1, rx, a, dx, fs, ex, ea, l, q⟩ => ?_) ht
  subst ex
  obtain rfl : u = Value.ref a := rx
  refine getmeth_ok I1 ea c hm l ?_
  exact PySem.W.callWith_K0 (first := [.ref a]) I1.kIn hm.kp (run_fn (us := [.ref a]) (vs := [.ref a]) F hr hb hd hx I1 (.cons rfl .nil) q)

/-- what a class must have to be made -/
structure Mk (K : PySem.W.Frag) (C f : Addr) : Prop where
  makes : PySem.W.makesIn K C = true
  init : PySem.W.findIn K (.ref C) "__init__" = some (some (.ref f))
  fn : PySem.W.isFn K (.ref f) = true
  kp : PySem.W.keepIn K (.ref C) = true

theorem run_make {pins : List (Addr × Obj)} {σ : St} {H : Hp} {s : Shared} {Q : VK} {us : List Value} {vs : List V} (M : Mk X.K C f) (F : FnOk X.prog X.w X.K X.mg X.base CX k f fd ps sp) (hr : Room (k + 1) X.A) (hb : Binds X.K fd ps ds) (hd : Vals dvs ds)
    (hx : Passes CX X E) (I : Inv X pins σ H s) (r : Vals vs us)
    (h : ∀ x dx, H x = none → H dx = none → dx ≠ x → sp (.ref x :: (vs ++ dvs)) (upd (upd H dx (.own x)) x (.ins C dx [])) (fun v H2 => v = .non ∧ Q (.ref x) H2) E) :
    wpAny (model X.prog X.w) X.A (call (.ref C) us) (EP X pins σ Q) X.xe s := by
  have hq := h (s.heap.objs.size + 1) s.heap.objs.size (I.hok.fresh (Nat.le_succ _)) (I.hok.fresh (Nat.le_refl _)) (Nat.ne_of_lt (Nat.lt_succ_self _))
  have I2 := Inv.made (C := C) I
  have r2 : Vals (V.ref (s.heap.objs.size + 1) :: (vs ++ dvs)) (Value.ref (s.heap.objs.size + 1) :: (us ++ ds)) := .cons rfl (r.append hd)
  have hl : (Value.ref (s.heap.objs.size + 1) :: us ++ ds).length = ps.length := by
    have e := r2.length
    rw [F.len _ _ _ _ hq] at e
    exact e.symm
  refine wpAny_call (make_map (f := f) I.kIn M.makes M.init (beq_iff_eq.mp M.fn) (codeAny_mono (F.run _ X.stack _ _ ⟨Value.ref (s.heap.objs.size + 1) :: us, []⟩ (Value.ref (s.heap.objs.size + 1) :: (us ++ ds)) _ _ E (hr.make C us [])
    (I2.env0.make C us []) (hb _ (Value.ref (s.heap.objs.size + 1) :: us) I2.kIn hl) r2 hq) fun r s' hq' => ?_))
  cases r with
  | error e => exact hx pins σ _ _ e s' I2 hq'
  | ok fl =>
    cases fl with
    | ret u =>
      obtain ⟨v, H', I3, rv, ev, q3⟩ := I2.after hq'
      subst ev
      exact ⟨rv, ⟨V.ref (s.heap.objs.size + 1), H', I3, rfl, q3⟩⟩
    | next => exact False.elim hq'
    | brk => exact False.elim hq'
    | cont => exact False.elim hq'
theorem pe_make (M : Mk X.K C f) (F : FnOk X.prog X.w X.K X.mg X.base CX k f fd ps sp) (hr : Room (k + 1) X.A) (hg : Gl X x) (hm : X.mg x = some (.ref C)) (hb : Binds X.K fd ps ds) (hd : Vals dvs ds) (hx : Passes CX X E)
    (ha : PA X (e :: es) t) (hdb : (x == ("__debug__" : Str)) = false := by decide) (he : starEach (e :: es) X.env = (false, eval e X.env) :: starEach es X.env := by rfl) (hpl : (backTo pos (starEach es X.env)).any (·.1) = false := by rfl) :
    PE X (.Call (.Name x p) (e :: es) [] pos) (tMake C sp dvs E t) := by
  intro pins s σ H Q I h
  refine wpAny_Call_Name_kw (ld_glob I hg hm ?_ hdb)
  refine PySem.W.callWith_K (h₀ := X.base) I.ok.mod.kin M.kp (thn (ha pos pins s σ H _ I h) fun us s1 ⟨vs, H1, I1, r, q⟩ => ⟨I1.kIn, ?_⟩) he hpl
  exact run_make M F hr hb hd hx I1 r q
theorem pe_make0 (M : Mk X.K C f) (F : FnOk X.prog X.w X.K X.mg X.base CX k f fd ps sp) (hr : Room (k + 1) X.A) (hg : Gl X x) (hm : X.mg x = some (.ref C)) (hb : Binds X.K fd ps ds) (hd : Vals dvs ds) (hx : Passes CX X E)
    (hdb : (x == ("__debug__" : Str)) = false := by decide) : PE X (.Call (.Name x p) [] [] pos) (tMake C sp dvs E tNil) := by
  intro pins s σ H Q I h
  refine wpAny_Call_Name_kw (ld_glob I hg hm ?_ hdb)
  exact PySem.W.callWith_K0 I.kIn M.kp (run_make (us := []) M F hr hb hd hx I .nil h)
end

/-! ### keywords -/
/-- the values of the keywords, from the left -/
def PK (X : Cx) (kws : List Keyword) (t : TA) : Prop :=
  ∀ (pos : Pos) (pins : List (Addr × Obj)) (s : Shared) (σ : St) (H : Hp) (Q : List V → Hp → Prop), Inv X pins σ H s → t σ H Q → wpAny (model X.prog X.w) X.A (evalAll ((backToKw pos (keywordEach kws X.env)).map (·.2))) (AP X pins σ Q) X.xe s
section
variable {X : Cx} {CX : CXT} {k : Nat} {f C : Addr} {fd : FuncData} {ps ks : List Str} {sp : Sp} {E : XK} {x m : Str} {p pos apos kpos : Pos} {e o : Expr} {es : List Expr} {kws : List Keyword} {te ta : TE} {t tk : TA} {nm : Option Str}
theorem pk_nil : PK X [] tNil := fun _ _ _ _ H Q I h => wpAny_evalAll_nil ⟨[], H, I, .nil, h⟩
theorem pk_cons (ha : PE X e te) (hr : PK X kws t) : PK X (⟨nm, e, kpos⟩ :: kws) (tCons te t) := by
  intro pos pins s σ H Q I h
  show wpAny _ _ (evalAll ((do let v ← eval e X.env; standAt pos; pure v) :: (backToKw pos (keywordEach kws X.env)).map (·.2))) _ _ s
  refine wpAny_evalAll_cons (wpAny_bind (thn (ha pins s σ H _ I h) fun u s1 ⟨x, H1, I1, r1, q1⟩ => wpAny_bind (wpAny_standAt (wpAny_pure ?_))))
  exact thn (hr pos pins s1 σ H1 _ I1 q1) fun us s2 ⟨xs, H2, I2, r2, q2⟩ => ⟨x :: xs, H2, I2, .cons r1 r2, q2⟩

/-- how a call with keywords binds: g puts the positional values us and the keywords' values ws (names ks) in the parameters' order, defaults among them -/
structure KBinds (K : PySem.W.Frag) (fd : FuncData) (ps ks : List Str) (g : List Value → List Value → List Value) (gV : List V → List V → List V) : Prop where
  to : ∀ (s : Shared) (us ws : List Value), K.In s.heap → (g us ws).length = ps.length → BindsTo s fd ⟨us, ks.zip ws⟩ (ps.zip (g us ws))
  rel : ∀ {vs : List V} {us : List Value} {zs : List V} {ws : List Value}, Vals vs us → Vals zs ws → Vals (gV vs zs) (g us ws)
def tCallK (sp : Sp) (gV : List V → List V → List V) (E : XK) (t tk : TA) : TE := fun σ H Q => t σ H fun vs H1 => tk σ H1 fun zs H2 => sp (gV vs zs) H2 Q E
variable {g : List Value → List Value → List Value} {gV : List V → List V → List V}
theorem run_fnk {pins : List (Addr × Obj)} {σ : St} {H : Hp} {s : Shared} {Q : VK} {us ws : List Value} {vs zs : List V} (F : FnOk X.prog X.w X.K X.mg X.base CX k f fd ps sp) (hr : Room k X.A) (hb : KBinds X.K fd ps ks g gV) (hx : Passes CX X E)
    (I : Inv X pins σ H s) (r : Vals vs us) (rz : Vals zs ws) (h : sp (gV vs zs) H Q E) : wpAny (model X.prog X.w) X.A (call (.ref f) us (ks.zip ws)) (EP X pins σ Q) X.xe s := by
  have r2 := hb.rel r rz
  have hl : (g us ws).length = ps.length := by rw [← r2.length]; exact F.len _ _ _ _ h
  refine wpAny_call (codeAny_mono (F.run X.A X.stack s H ⟨us, ks.zip ws⟩ (g us ws) (gV vs zs) Q E hr I.env0 (hb.to s us ws I.kIn hl) r2 h) fun r s' hq => ?_)
  cases r with
  | error e => exact hx pins σ H s e s' I hq
  | ok fl =>
    cases fl with
    | ret u => exact I.after hq
    | next => exact False.elim hq
    | brk => exact False.elim hq
    | cont => exact False.elim hq
/-- f(e, .., k = v, ..) -/
theorem pe_callK (F : FnOk X.prog X.w X.K X.mg X.base CX k f fd ps sp) (hr : Room k X.A) (hg : Gl X x) (hm : X.mg x = some (.ref f)) (hk : PySem.W.keepIn X.K (.ref f) = true) (hb : KBinds X.K fd ps ks g gV) (hx : Passes CX X E)
    (ha : PA X (e :: es) t) (hkw : PK X kws tk) (hall : (backToKw pos (keywordEach kws X.env)).all (·.1.isSome) = true := by rfl) (hks : (backToKw pos (keywordEach kws X.env)).filterMap (·.1) = ks := by rfl)
    (hdb : (x == ("__debug__" : Str)) = false := by decide) (he : starEach (e :: es) X.env = (false, eval e X.env) :: starEach es X.env := by rfl)
    (hpl : ((backTo pos (starEach (e :: es) X.env)).any (·.1) || (backToKw pos (keywordEach kws X.env)).any (·.1.isNone)) = false := by rfl) :
    PE X (.Call (.Name x p) (e :: es) kws pos) (tCallK sp gV E t tk) := by
  intro pins s σ H Q I h
  refine wpAny_Call_Name_kw (ld_glob I hg hm ?_ hdb)
  refine PySem.W.callWith_KW (h₀ := X.base) I.ok.mod.kin hk hall (thn (ha pos pins s σ H _ I h) fun us s1 ⟨vs, H1, I1, r, q⟩ => ?_) hpl he
  refine thn (hkw pos pins s1 σ H1 _ I1 q) fun ws s2 ⟨zs, H2, I2, rz, q2⟩ => ⟨I2.kIn, ?_⟩
  rw [hks]
  exact run_fnk F hr hb hx I2 r rz q2
end

/-! ### a def's body keeps its promise -/
/-- names: the parameters first -/
structure FnScope (N P : List Str) (sc : Scope) : Prop where
  kind : sc.kind = .function
  co : sc.isCoroutine = false
  gen : sc.isGenerator = false
  nd : N.Nodup
  pre : N.take P.length = P
  par : ∀ x ∈ P, sc.names.lookup x = some .local ∨ sc.names.lookup x = some .cell
  nofree : ∀ y ∈ sc.names, y.2 ≠ .free

theorem bindL_out {kindOf : Str → Option NameKind} {x : Str} : ∀ {binds : List (Str × Value)} {m : Str → Option Value}, (∀ v, (x, v) ∉ binds) → bindL kindOf binds m x = m x
  | [], _, _ => rfl
  | (n, v) :: r, m, h => by
    unfold bindL
    rw [bindL_out fun w hw => h w (List.mem_cons_of_mem _ hw)]
    split
    · have : x ≠ n := by rintro rfl; exact h v List.mem_cons_self
      simp [this]
    · rfl
theorem bindC_out {kindOf : Str → Option NameKind} {x : Str} : ∀ {binds : List (Str × Value)} {m : Str → Option Value}, (∀ v, (x, v) ∉ binds) → bindC kindOf binds m x = m x
  | [], _, _ => rfl
  | (n, v) :: r, m, h => by
    unfold bindC
    rw [bindC_out fun w hw => h w (List.mem_cons_of_mem _ hw)]
    split
    · rfl
    · have : x ≠ n := by rintro rfl; exact h v List.mem_cons_self
      simp [this]
theorem bindL_get {kindOf : Str → Option NameKind} {x : Str} {v : Value} : ∀ {P : List Str} {vs : List Value} {i : Nat} {m : Str → Option Value}, P.Nodup → P[i]? = some x → vs[i]? = some v → kindOf x = some .local →
    bindL kindOf (P.zip vs) m x = some v
  | [], _, _, _, _, h, _, _ => by simp at h
  | _ :: _, [], _, _, _, _, h, _ => by simp at h
  | p :: P, w :: vs, 0, m, nd, h1, h2, hk => by
    simp at h1 h2; subst h1; subst h2
    show bindL kindOf ((p, w) :: P.zip vs) m p = _
    unfold bindL
    rw [bindL_out fun v hv => (List.nodup_cons.mp nd).1 (List.of_mem_zip hv).1, if_pos hk]
    simp
  | p :: P, w :: vs, i + 1, m, nd, h1, h2, hk => by
    show bindL kindOf ((p, w) :: P.zip vs) m x = _
    unfold bindL
    exact bindL_get (i := i) (List.nodup_cons.mp nd).2 (by simpa using h1) (by simpa using h2) hk
theorem bindC_get {kindOf : Str → Option NameKind} {x : Str} {v : Value} : ∀ {P : List Str} {vs : List Value} {i : Nat} {m : Str → Option Value}, P.Nodup → P[i]? = some x → vs[i]? = some v → kindOf x ≠ some .local →
    bindC kindOf (P.zip vs) m x = some v
  | [], _, _, _, _, h, _, _ => by simp at h
  | _ :: _, [], _, _, _, _, h, _ => by simp at h
  | p :: P, w :: vs, 0, m, nd, h1, h2, hk => by
    simp at h1 h2; subst h1; subst h2
    show bindC kindOf ((p, w) :: P.zip vs) m p = _
    unfold bindC
    rw [bindC_out fun v hv => (List.nodup_cons.mp nd).1 (List.of_mem_zip hv).1, if_neg hk]
    simp
  | p :: P, w :: vs, i + 1, m, nd, h1, h2, hk => by
    show bindC kindOf ((p, w) :: P.zip vs) m x = _
    unfold bindC
    exact bindC_get (i := i) (List.nodup_cons.mp nd).2 (by simpa using h1) (by simpa using h2) hk

/-- the names' values at the entry -/
def start (N : List Str) (vs : List V) : St := vs.map some ++ List.replicate (N.length - vs.length) none

/-- the context of a def's body, at its entry; an exception leaves the frame, then lies as CX says -/
def cxOf (CX : CXT) (P : Program) (w : World) (K : PySem.W.Frag) (mg : Str → Option Value) (base : Heap) (N : List Str) (qual : Str) (scope : Scope) (f : Addr) (cd : Value) (A : Around) (outer : List Env) (s : Shared) (H : Hp) (E : XK) : Cx where
  prog := P
  w := w
  K := K
  mg := mg
  base := base
  A := A.deeper (envOfC qual scope s.heap.objs.size f cd)
  N := N
  s₀ := s
  H₀ := H
  env := envOfC qual scope s.heap.objs.size f cd
  outer := outer
  stack := envOfC qual scope s.heap.objs.size f cd :: outer
  ex := []
  calm := true
  fn := fun _ => true
  pn := []
  xe := fun e s' => wpAny (model P w) (A.deeper (envOfC qual scope s.heap.objs.size f cd)) (leaving (envOfC qual scope s.heap.objs.size f cd) e) (fun _ s'' => CX outer H s E e s'') (fun e' s'' => CX outer H s E e' s'') s'

theorem cell_has {sc : Scope} {n : Nat} {x : Str} (h : sc.names.lookup x = some .cell) : ∃ c, (cellsFrom n sc.names []).lookup x = some c := by
  have q := PySem.W.cellsFrom_some sc.names n [] (.inl h)
  exact Option.isSome_iff_exists.mp q

theorem inv_start {CX : CXT} {P : Program} {w : World} {K : PySem.W.Frag} {mg : Str → Option Value} {base : Heap} {N ps : List Str} {qual : Str} {scope : Scope} {f : Addr} {cd : Value} {A : Around} {outer : List Env} {s s1 : Shared} {H : Hp} {E : XK} {us : List Value} {vs : List V}
    (S : FnScope N ps scope) (hd : A.handled = none) (e0 : Env0 P w K mg base A outer s H) (hl : vs.length = ps.length) (r : Vals vs us)
    (x : InCallC s s.heap.objs.size (bindL (envOfC qual scope s.heap.objs.size f cd).kindOf (ps.zip us) fun _ => none) (cellsFrom (s.heap.objs.size + 1) scope.names []) (bindC (envOfC qual scope s.heap.objs.size f cd).kindOf (ps.zip us) fun _ => none) s1) :
    Inv (cxOf CX P w K mg base N qual scope f cd A outer s H E) [] (start N vs) H s1 := by
  have hpl : ps.length ≤ N.length := by have := congrArg List.length S.pre; rw [List.length_take] at this; omega
  obtain ⟨h1, tk, rfl, hk⟩ := x.done
  have noA : ∀ b : Addr, b ∉ (cxOf CX P w K mg base N qual scope f cd A outer s H E).ex := fun b z => absurd (show b ∈ ([] : List Addr) from z) (by simp)
  refine ⟨⟨e0.mod, S.kind, rfl, rfl, Nat.le_refl _, fun y z c h1 h2 => ?_, fun y hy => ?_, fun y c _ h => ?_, fun _ => hd, Around.frames_deeper e0.frames, .inr ⟨rfl, rfl⟩, fun b z => absurd z (noA b), e0.bs, e0.bsz, fun b _ _ => noA b, fun b z => absurd z (noA b), e0.funs, e0.frf⟩,
    rfl, e0.bare, Un.kept hk, ⟨_, x.toInCall.ns, fun i y v h1 h2 h3 => ?_⟩, fun y c h => ⟨_, x.cell y c h⟩, e0.hok.fresh (Nat.le_refl _), fun y c h => ?_, fun p hp => absurd (show p ∈ ([] : List (Addr × Obj)) from hp) (by simp), e0.hok.kept hk, ?_⟩
  · exact name_of_addr x.apart (PySem.mem_of_lookup h1) (PySem.mem_of_lookup h2)
  · have hy : scope.names.lookup y = some .cell ∨ scope.names.lookup y = some .free := hy
    rcases hy with hy | hy
    · exact cell_has hy
    · exact absurd rfl (S.nofree _ (PySem.mem_of_lookup hy))
  · exact Nat.le_of_lt (x.above y c (PySem.mem_of_lookup h))
  · have hi : i < vs.length := by
      unfold start at h2
      by_cases hi : i < vs.length
      · exact hi
      · rw [List.getElem?_append_right (by simpa using hi)] at h2
        rw [List.getElem?_replicate] at h2
        split at h2 <;> cases h2
    have ha : vs[i]? = some v := by
      unfold start at h2
      rw [List.getElem?_append_left (by simpa using hi), List.getElem?_map] at h2
      cases e : vs[i]? with
      | none => rw [e] at h2; cases h2
      | some a => rw [e] at h2; cases h2; rfl
    obtain ⟨u, hu, rv⟩ := r.get ha
    have hp : ps[i]? = some y := by
      rw [← S.pre, List.getElem?_take_of_lt (by omega)]; exact h1
    have ndP : ps.Nodup := by rw [← S.pre]; exact S.nd.sublist (List.take_sublist _ _)
    refine ⟨u, rv, ?_⟩
    rcases S.par y (List.mem_of_getElem? hp) with k | k
    · exact .inl ⟨k, bindL_get ndP hp hu k⟩
    · obtain ⟨c, e⟩ := cell_has (n := s.heap.objs.size + 1) k
      refine .inr ⟨.inl k, c, e, ?_⟩
      have q := x.cell y c e
      rw [bindC_get ndP hp hu (by show scope.names.lookup y ≠ _; rw [k]; decide)] at q
      exact q
  · exact e0.hok.fresh (Nat.le_of_lt (x.above y c (PySem.mem_of_lookup h)))
  · unfold start
    show _ = N.length
    rw [List.length_append, List.length_map, List.length_replicate]
    omega

/-- THE RULE: a def (or a method) of the text, by its body. The body's reading t is chosen for each entry; it is run at the parameters' values -/
theorem fn_of {CX : CXT} {P : Program} {w : World} {K : PySem.W.Frag} {mg : Str → Option Value} {base : Heap} {k : Nat} {f : Addr} {name qual : Str} {params : Arguments} {body : List Stmt} {scope : Scope} {dV kV doc pm cdv ct oc : Value} {an od : Option Addr}
    {osl : Array (Option Value)} {N ps : List Str} {sp : Sp} (lk : K.lookup f = some ⟨oc, od, .func (PySem.W.fnOf name qual params body scope dV kV doc pm an cdv ct), osl⟩) (hcd : PySem.W.codeIn K cdv qual = true) (S : FnScope N ps scope)
    (len : ∀ vs H Q E, sp vs H Q E → vs.length = ps.length)
    (hbody : ∀ (A : Around) (outer : List Env) (s : Shared) (H : Hp) (vs : List V) (Q : VK) (E : XK), Room k (A.deeper (envOfC qual scope s.heap.objs.size f cdv)) → sp vs H Q E →
      ∃ t, PSs (cxOf CX P w K mg base N qual scope f cdv A outer s H E) body t ∧ t { nx := fun _ H' => Q .non H', rt := Q } (start N vs) H) :
    FnOk P w K mg base CX (k + 1) f (PySem.W.fnOf name qual params body scope dV kV doc pm an cdv ct) ps sp := by
  refine ⟨len, fun A outer s H args us vs Q E hr e0 hb r hsp => ?_⟩
  have hl := len _ _ _ _ hsp
  have KX : K.In s.heap := e0.mod.kin.keeps fun b o e => (e0.bs b o e).1
  have lim : s.heap.NoLimit := e0.mod.nolimit.keeps fun b o e => (e0.bs b o e).1
  have hkind : ∀ y ∈ ps.zip us, scope.names.lookup y.1 = some .local ∨ (scope.names.lookup y.1 = some .cell ∧ ((cellsFrom (s.heap.objs.size + 1) scope.names []).lookup y.1).isSome = true) := fun ⟨n, v⟩ hy => by
    rcases S.par n (List.of_mem_zip hy).1 with q | q
    · exact .inl q
    · exact .inr ⟨q, PySem.W.cellsFrom_some _ _ _ (.inl q)⟩
  refine codeAny_call_function hr.depth (KX _ _ lk) rfl S.co S.gen rfl (PySem.W.codeRec_of KX hcd) (hb _ _ _ _ ?_)
  refine wpAny_newFunctionEnv_cells S.kind hkind fun env he s1 x => ?_
  subst he
  refine ⟨lim.keeps x.toInCall.keep, codeAny_func ?_⟩
  obtain ⟨t, ht, hq⟩ := hbody A outer s H vs Q E (hr.deeper _) hsp
  have I : Inv (cxOf CX P w K mg base N qual scope f cdv A outer s H E) [] (start N vs) H s1 := inv_start S hr.hd e0 hl r x
  refine wpAny_mono (ht [] s1 (start N vs) H _ I hq) (fun fl s' hs => ?_) fun e s' hs => hs
  have fin : ∀ {σ' : St} {H' : Hp} {v : V} {u : Value}, Inv (cxOf CX P w K mg base N qual scope f cdv A outer s H E) [] σ' H' s' → RelV v u → Q v H' → CE outer P w H s Q u s' :=
    fun {σ' H' v u} J rv q => ⟨v, H', J.os, J.bare, J.base, J.hok, rv, q⟩
  cases fl with
  | ret u =>
    obtain ⟨v, σ', H', J, rv, q⟩ := hs
    exact fin J rv q
  | next =>
    obtain ⟨σ', H', J, q⟩ := hs
    exact fin (v := V.non) (u := Value.none) J rfl q
  | brk =>
    obtain ⟨_, _, _, q⟩ := hs
    exact False.elim q
  | cont =>
    obtain ⟨_, _, _, q⟩ := hs
    exact False.elim q
end L2

namespace L2
open PySem PySem.Spec PyProof.Rows
section
variable {X : Cx} {x : Str} {p pos : Pos} {e : Expr} {es : List Expr} {t : TA} {id T : String} {r : List V → Hp → VK → Prop}

def tCB (r : List V → Hp → VK → Prop) (t : TA) : TE := fun σ H Q => t σ H fun vs H1 => r vs H1 Q
/-- f(e, ..), f a built-in function -/
theorem pe_callB (hc : CallR X (.builtin id) r) (hg : Gl X x) (hm : X.mg x = none) (hv : bootBuiltins x = some (.builtin id)) (ha : PA X (e :: es) t) (hn : x ≠ "__name__" := by decide) (hdb : (x == ("__debug__" : Str)) = false := by decide)
    (he : starEach (e :: es) X.env = (false, eval e X.env) :: starEach es X.env := by rfl) (hpl : (backTo pos (starEach es X.env)).any (·.1) = false := by rfl) : PE X (.Call (.Name x p) (e :: es) [] pos) (tCB r t) := by
  intro pins s σ H Q I h
  refine wpAny_Call_Name_kw (ld_blt I hg hm hv ?_ hn hdb)
  exact PyProof.Rows.callWith_builtin1 (thn (ha pos pins s σ H _ I h) fun us s1 ⟨vs, H1, I1, r1, q1⟩ => hc pins s1 σ H1 vs us Q I1 r1 q1) he hpl
/-- T(e, ..), T a built-in type -/
theorem pe_callTy (hc : CallR X (.type T) r) (hg : Gl X x) (hm : X.mg x = none) (hv : bootBuiltins x = some (.type T)) (ha : PA X (e :: es) t) (hn : x ≠ "__name__" := by decide) (hdb : (x == ("__debug__" : Str)) = false := by decide)
    (he : starEach (e :: es) X.env = (false, eval e X.env) :: starEach es X.env := by rfl) (hpl : (backTo pos (starEach es X.env)).any (·.1) = false := by rfl) : PE X (.Call (.Name x p) (e :: es) [] pos) (tCB r t) := by
  intro pins s σ H Q I h
  refine wpAny_Call_Name_kw (ld_blt I hg hm hv ?_ hn hdb)
  exact PyProof.Rows.callWith_type1 (thn (ha pos pins s σ H _ I h) fun us s1 ⟨vs, H1, I1, r1, q1⟩ => hc pins s1 σ H1 vs us Q I1 r1 q1) he hpl
/-- T() -/
theorem pe_callTy0 (hc : CallR X (.type T) r) (hg : Gl X x) (hm : X.mg x = none) (hv : bootBuiltins x = some (.type T)) (hn : x ≠ "__name__" := by decide) (hdb : (x == ("__debug__" : Str)) = false := by decide) :
    PE X (.Call (.Name x p) [] [] pos) (tCB r tNil) := by
  intro pins s σ H Q I h
  refine wpAny_Call_Name_kw (ld_blt I hg hm hv ?_ hn hdb)
  exact PyProof.Rows.callWith_type0 (hc pins s σ H [] [] Q I .nil h)
end
end L2

namespace HT
open PySem PyProof.Rows

/-- t < u of tuples of ints -/
def lexLt : List Int → List Int → Bool
  | [], [] => false
  | [], _ :: _ => true
  | _ :: _, [] => false
  | x :: xs, y :: ys => if x = y then lexLt xs ys else decide (x < y)
theorem lexLt_cons (x y : Int) (xs ys : List Int) : lexLt (x :: xs) (y :: ys) = if x = y then lexLt xs ys else decide (x < y) := rfl
theorem lexLt_nil_nil : lexLt [] [] = false := rfl
theorem lexLt_nil_cons (y : Int) (ys : List Int) : lexLt [] (y :: ys) = true := rfl
theorem lexLt_cons_nil (x : Int) (xs : List Int) : lexLt (x :: xs) [] = false := rfl

theorem eqAt_int (A : Around) (s : Shared) (a : Int) (t : Tok) (c : Int) (u : Tok) : ∃ e, SeqAt.EqAt A s (.int a t) (.int c u) e ∧ (e = true ↔ a = c) :=
  ⟨(a == c), SeqAt.EqAt.int_int a t c u, by simp⟩
theorem rcLt_int (A : Around) (s : Shared) (a : Int) (t : Tok) (c : Int) (u : Tok) (prog : Program) (w : World) (E : Value → Shared → Prop) (Q : Value → Shared → Prop) (h : Q (.bool (decide (a < c))) s) :
    wpAny (model prog w) A (richCompare .Lt (.int a t) (.int c u)) Q E s :=
  (PyProof.Rows.lt_int h : wpAny (model prog w) A (compareOp .Lt (.int a t) (.int c u)) Q E s)

section
open PySem.SeqAt
open PySem.AutoSeq1 (wpAny_loadPart')
open PySem.MeetsSeq PySem.MeetsSeq2 PySem.MeetsSeq3

theorem tuple_lt_ints (l b : Addr) (items items2 : Array Value) (n n2 : Nat) (dd dd2 : Option Addr) (sl sl2 : Array (Option Value)) (ns ms : List Int) (hi : IntsAre items.toList ns) (hj : IntsAre items2.toList ms) :
    Meets (Builtin.«tuple.__lt__» ⟨[.ref l, .ref b], []⟩)
      (fun _ R s => s.heap.get? l = some { cls := .type "tuple", dict := dd, data := .seq items n, slots := sl } ∧ s.heap.get? b = some { cls := .type "tuple", dict := dd2, data := .seq items2 n2, slots := sl2 } ∧
        R (.ok (.ret (.bool (lexLt ns ms)))) s) :=
  .of_wp fun prog w A R s h => by
    obtain ⟨hp, g, d, tk, os⟩ := s; obtain ⟨hl, hb, h⟩ := h
    have f2 := AutoSeq1.sub_tuple_tuple
    have z1 : items.size = ns.length := by rw [← hi.length]; simp
    have z2 : items2.size = ms.length := by rw [← hj.length]; simp
    wp_walk using wpAny_loadPart' hl, wpAny_loadPart' hb, wpAny_forIn_list _ (fun rest b s' => b.1 = none ∧ s' = ⟨hp, g, d, tk, os⟩ ∧ ∃ (vs ws : List Value) (ns' ms' : List Int), rest = vs.zip ws ∧
      IntsAre vs ns' ∧ IntsAre ws ms' ∧ ns'.length + items2.size = ms'.length + items.size ∧ R (.ok (.ret (.bool (lexLt ns' ms')))) ⟨hp, g, d, tk, os⟩) _
    case turn =>
      rintro ⟨y, x⟩ rest b s' ⟨hb', rfl, vs, ws, ns', ms', hz, hvi, hwi, hlen, hR⟩
      cases hvi with
      | nil => rw [List.zip_nil_left] at hz; cases hz
      | cons a t hvi' =>
        cases hwi with
        | nil => rw [List.zip_nil_right] at hz; cases hz
        | cons c u hwi' =>
          rw [List.zip_cons_cons] at hz
          injection hz with hyx hrest
          injection hyx with hy hx
          subst hy hx
          rw [lexLt_cons] at hR
          simp only [List.length_cons] at hlen
          obtain ⟨e, he, hiff⟩ := eqAt_int A.in1 ⟨hp, g, d, tk, os⟩ a t c u
          refine wpAny_bind (he prog w _ _ ?_)
          cases e with
          | true =>
            rw [if_pos (hiff.mp rfl)] at hR
            wp_walk
            exact ⟨rfl, rfl, _, _, _, _, hrest, hvi', hwi', by omega, hR⟩
          | false =>
            rw [if_neg (fun q => absurd (hiff.mpr q) Bool.false_ne_true)] at hR
            have hri := rcLt_int A.in1 ⟨hp, g, d, tk, os⟩ a t c u prog w
            wp_walk using hri
            exact ⟨_, rfl, by simpa using hR⟩
    case fin =>
      rintro ⟨b1, b2⟩ s' ⟨hb', rfl, vs, ws, ns', ms', hz, hvi, hwi, hlen, hR⟩
      simp only at hb'
      subst hb'
      have hv : lexLt ns' ms' = decide (items.size < items2.size) := by
        cases hvi with
        | nil =>
          cases hwi with
          | nil =>
            simp only [List.length_nil] at hlen
            rw [lexLt_nil_nil]
            exact (decide_eq_false (by omega)).symm
          | cons c u hw =>
            simp only [List.length_nil, List.length_cons] at hlen
            rw [lexLt_nil_cons]
            exact (decide_eq_true (by omega)).symm
        | cons a t hv =>
          cases hwi with
          | nil =>
            simp only [List.length_nil, List.length_cons] at hlen
            rw [lexLt_cons_nil]
            exact (decide_eq_false (by omega)).symm
          | cons c u hw =>
            rw [List.zip_cons_cons] at hz
            cases hz
      rw [hv] at hR
      wp_walk
      exact ⟨_, rfl, by simpa [Builtin.Tuple.tupleCompareSizes] using hR⟩
    case h =>
      exact ⟨rfl, rfl, items.toList, items2.toList, ns, ms, rfl, hi, hj, by omega, h⟩
end

section
variable {prog : Program} {w : World} {A : Around} {E : Value → Shared → Prop} {s : Shared}

theorem lt_tupInts {l b : Addr} {items items2 : Array Value} {ns ms : List Int} {Q : Value → Shared → Prop} (hl : IsTup s.heap l items) (hb : IsTup s.heap b items2) (hi : IntsAre items.toList ns) (hj : IntsAre items2.toList ms)
    (hu : A.units < cLine) (h : Q (.bool (lexLt ns ms)) s) : wpAny (model prog w) A (compareOp .Lt (.ref l) (.ref b)) Q E s := by
  obtain ⟨⟨cls, dd, data, sl⟩, ho, hc, n, hd⟩ := id hl
  obtain ⟨⟨cls2, dd2, data2, sl2⟩, ho2, hc2, n2, hd2⟩ := id hb
  simp only at hc hd hc2 hd2
  subst hc hd hc2 hd2
  exact richCompare_meets_room (op := .Lt) ⟨_, ho, rfl⟩ ⟨_, ho2, rfl⟩ PySem.F.slot_tuple_lt PySem.F.entry_tuple_lt (PySem.F.args_tuple_lt_2 _ _) (tuple_lt_ints l b items items2 n n2 dd dd2 sl sl2 ns ms hi hj)
    ⟨ho, ho2, show Value.bool (lexLt ns ms) ≠ Value.notImplemented ∧ Q (.bool (lexLt ns ms)) s from ⟨(fun x => nomatch x), h⟩⟩ hu

/-- t + u, t not empty -/
theorem cat_tup {t b : Addr} {vs ws : List Value} {Q : Value → Shared → Prop} (ht : IsTup s.heap t vs.toArray) (hb : IsTup s.heap b ws.toArray) (hv : vs ≠ [])
    (h1 : ws = [] → Q (.ref t) s) (h2 : ws ≠ [] → Q (.ref s.heap.objs.size) { s with heap := s.heap.push { cls := .type "tuple", data := .seq (vs ++ ws).toArray } })
    (hsz : vs.length + ws.length ≤ sizeLine) : wpAny (model prog w) A (binaryOp .Add (.ref t) (.ref b)) Q E s := by
  obtain ⟨⟨cls, dd, data, sl⟩, ho, hc, n, hd⟩ := id ht
  obtain ⟨⟨cls2, dd2, data2, sl2⟩, ho2, hc2, n2, hd2⟩ := id hb
  simp only at hc hd hc2 hd2
  subst hc hd hc2 hd2
  have e : vs.toArray ++ ws.toArray = (vs ++ ws).toArray := by simp
  by_cases hw : ws = []
  · exact concat_meets ⟨_, ho, rfl⟩ ⟨_, ho2, rfl⟩ noFill_tuple_add seq_tuple_add PySem.F.slot_tuple_add PySem.F.entry_tuple_add (PySem.F.args_tuple_add_2 _ _)
      (tuple_addW1 t b vs.toArray ws.toArray n n2 dd dd2 sl sl2 (by simpa using hv) (by simp [hw])) ⟨ho, ho2, h1 hw⟩
  · refine concat_meets ⟨_, ho, rfl⟩ ⟨_, ho2, rfl⟩ noFill_tuple_add seq_tuple_add PySem.F.slot_tuple_add PySem.F.entry_tuple_add (PySem.F.args_tuple_add_2 _ _)
      (tuple_addW2 t b vs.toArray ws.toArray n n2 dd dd2 sl sl2 (by simpa using hv) (by simpa using hw) (by rw [List.size_toArray, List.size_toArray]; exact hsz)) ⟨ho, ho2, ?_⟩
    rw [e]
    exact h2 hw

/-! ### t[a:b], not the whole -/
/-- a slice's bound as a place among n (d where it is left out) -/
def sIx (n d : Nat) : Option Int → Nat
  | none => d
  | some v => if v < 0 then (v + (n : Int)).toNat else min v.toNat n
theorem sIx_none (n d : Nat) : sIx n d none = d := rfl
theorem sIx_nat (n d k : Nat) : sIx n d (some (k : Int)) = min k n := by
  show (if (k : Int) < 0 then ((k : Int) + (n : Int)).toNat else min (k : Int).toNat n) = min k n
  rw [if_neg (by omega), Int.toNat_natCast]
theorem sIx_le (n d : Nat) (hd : d ≤ n) (o : Option Int) : sIx n d o ≤ n := by
  cases o with
  | none => exact hd
  | some v =>
    show (if v < 0 then (v + (n : Int)).toNat else min v.toNat n) ≤ n
    by_cases hv : v < 0
    · rw [if_pos hv]; omega
    · rw [if_neg hv]; exact Nat.min_le_right _ _
theorem clip_eq (v : Int) (n d : Nat) : (if v < 0 then max (v + (n : Int)) 0 else min v (n : Int)) = ((sIx n d (some v) : Nat) : Int) := by
  show (if v < 0 then max (v + (n : Int)) 0 else min v (n : Int)) = (((if v < 0 then (v + (n : Int)).toNat else min v.toNat n) : Nat) : Int)
  by_cases hv : v < 0
  · simp only [if_pos hv]; omega
  · simp only [if_neg hv]; omega
theorem adjust_gen (lo hi : Option Int) (n : Nat) : Builtin.Slice.sliceAdjust lo hi 1 (n : Int) = (((sIx n 0 lo : Nat) : Int), ((sIx n n hi : Nat) : Int)) := by
  have h1 : ¬ ((1 : Int) < 0) := by omega
  unfold Builtin.Slice.sliceAdjust
  simp only [h1, if_false]
  refine Prod.ext ?_ ?_
  · cases lo with
    | none => rfl
    | some v => exact clip_eq v n 0
  · cases hi with
    | none => rfl
    | some v => exact clip_eq v n n
theorem places_gen (i j : Nat) : Builtin.Slice.slicePlaces (i : Int) (j : Int) 1 = j - i := by
  unfold Builtin.Slice.slicePlaces
  have h1 : (1 : Int) > 0 := by omega
  simp only [h1, if_true, Int.ediv_one]
  split <;> omega
theorem slicePart_ {v : Value} {o : Option Int} {Q : Option Int → Shared → Prop} (p : IsPart v o) (h : Q o s) : wpAny (model prog w) A (Builtin.Slice.slicePartIndex v) Q E s := by
  cases p with
  | none => exact slicePart_none h
  | int i t => exact slicePart_int h
theorem sliceApplied_gen {sl : Addr} {vl vu : Value} {lo hi : Option Int} {n : Nat} {Q : Int × Int × Nat → Shared → Prop} (hs : s.heap.IsSliceOf sl vl vu .none) (pl : IsPart vl lo) (pu : IsPart vu hi)
    (h : Q (((sIx n 0 lo : Nat) : Int), 1, sIx n n hi - sIx n 0 lo) s) : wpAny (model prog w) A (Builtin.Slice.sliceApplied (.ref sl) (pure (n : Int))) Q E s := by
  obtain ⟨os, hos, hcs, hds⟩ := id hs
  unfold Builtin.Slice.sliceApplied Builtin.Slice.sliceFields
  refine wpAny_bind (wpAny_bind (wpAny_field hos hds (x := vl) rfl (wpAny_bind (wpAny_field hos hds (x := vu) rfl (wpAny_bind (wpAny_field hos hds (x := .none) rfl (wpAny_pure ?_)))))))
  refine wpAny_bind (slicePart_none ?_)
  show wpAny _ _ (if ((1 : Int) == 0) = true then _ else _) _ _ s
  rw [if_neg (by decide)]
  refine wpAny_bind (slicePart_ pl (wpAny_bind (slicePart_ pu (wpAny_bind (wpAny_pure ?_)))))
  show wpAny _ _ (match Builtin.Slice.sliceAdjust lo hi 1 (n : Int) with | (lo, hi) => pure (lo, (1 : Int), Builtin.Slice.slicePlaces lo hi 1)) _ _ s
  rw [adjust_gen lo hi n]
  show wpAny _ _ (pure (((sIx n 0 lo : Nat) : Int), (1 : Int), Builtin.Slice.slicePlaces ((sIx n 0 lo : Nat) : Int) ((sIx n n hi : Nat) : Int) 1)) _ _ s
  rw [places_gen]
  exact wpAny_pure h
theorem pick_gen (xs : Array Value) (i k : Nat) : ((List.range k).filterMap fun (m : Nat) => xs[((i : Int) + (m : Int) * 1).toNat]?).toArray = ((xs.toList.drop i).take k).toArray := by
  have e : (fun (m : Nat) => xs[((i : Int) + (m : Int) * 1).toNat]?) = fun m => xs[i + m]? := by
    funext m
    have : ((i : Int) + (m : Int) * 1).toNat = i + m := by omega
    rw [this]
  rw [e]
  have := pick_run xs i k
  rw [List.filterMap_map] at this
  have e2 : ((fun x => xs[x]?) ∘ fun x => i + x) = fun m => xs[i + m]? := rfl
  rw [e2] at this
  rw [this]

theorem getItem_tuple_cut {t sl : Addr} {items : Array Value} {vl vu : Value} {lo hi : Option Int} {Q : Value → Shared → Prop} (ht : IsTup s.heap t items) (hs : s.heap.IsSliceOf sl vl vu .none) (pl : IsPart vl lo) (pu : IsPart vu hi)
    (hw : ¬ (sIx items.size 0 lo = 0 ∧ sIx items.size items.size hi = items.size))
    (h : Q (.ref s.heap.objs.size) { s with heap := s.heap.push { cls := .type "tuple", data := .seq ((items.toList.drop (sIx items.size 0 lo)).take (sIx items.size items.size hi - sIx items.size 0 lo)).toArray } })
    (hsz : items.size ≤ sizeLine) : wpAny (model prog w) A (getItem (.ref t) (.ref sl)) Q E s := by
  have htake : sizeOk (.seq ((items.toList.drop (sIx items.size 0 lo)).take (sIx items.size items.size hi - sIx items.size 0 lo)).toArray) := by
    show ((items.toList.drop (sIx items.size 0 lo)).take (sIx items.size items.size hi - sIx items.size 0 lo)).toArray.size ≤ sizeLine
    rw [List.size_toArray, List.length_take, List.length_drop, Array.length_toList]
    omega
  have hj : sIx items.size items.size hi ≤ items.size := sIx_le _ _ (Nat.le_refl _) hi
  obtain ⟨os, hos, hcs, hds⟩ := id hs
  have hTs : s.TypeIs (.ref sl) "slice" := ⟨os, hos, hcs⟩
  unfold getItem
  try with_reducible refine wpAny_holding ?_
  first | refine wpAny_bind (wpAny_pure ?_) | skip
  refine wpAny_bind (wpAny_sequenceKey ht.typeIs (by decide) ?_)
  refine wpAny_bind (wpAny_callSpecial?_slot (name := Str.ofString "__getitem__") ht.typeIs PyProof.Rows.slot_tuple_getitem
    (wpAny_call_entry PyProof.Rows.slot_tuple_getitem ht.typeIs entry_tuple_getitem ?_ (args_tuple_getitem _ _)))
  show wpAny _ _ (Builtin.Tuple.tupleItemsOf (.ref t) >>= _) _ _ s
  refine wpAny_bind (tupleItemsOf_ ht ?_)
  refine wpAny_bind (wpAny_typeOf hTs ?_)
  rw [if_pos (by decide)]
  refine wpAny_bind (sliceApplied_gen hs pl pu ?_)
  have hno : ¬ ((((sIx items.size 0 lo : Nat) : Int) == 0 && (1 : Int) == 1 && (sIx items.size items.size hi - sIx items.size 0 lo) == items.size) = true) := by
    intro q
    rw [Bool.and_eq_true, Bool.and_eq_true] at q
    have q1 : ((sIx items.size 0 lo : Nat) : Int) = 0 := eq_of_beq q.1.1
    have q2 : sIx items.size items.size hi - sIx items.size 0 lo = items.size := eq_of_beq q.2
    exact hw ⟨by omega, by omega⟩
  show wpAny _ _ (if (((sIx items.size 0 lo : Nat) : Int) == 0 && (1 : Int) == 1 && (sIx items.size items.size hi - sIx items.size 0 lo) == items.size) = true then _ else _) _ _ s
  rw [if_neg hno, pick_gen]
  first
    | exact wpAny_bind (m := Builtin.Tuple.tupleExact _) (wpAny_newObj_type (wpAny_pure ⟨_, rfl, wpAny_pure h⟩) htake)
    | exact wpAny_bind (m := Builtin.Tuple.tupleExact _) (wpAny_newObj_type (wpAny_bind (wpAny_pure (wpAny_pure ⟨_, rfl, wpAny_pure h⟩))) htake)
    | exact wpAny_bind (wpAny_bind (m := Builtin.Tuple.tupleExact _) (wpAny_newObj_type (wpAny_pure (wpAny_pure ⟨_, rfl, wpAny_pure h⟩)) htake))
    | exact wpAny_bind (wpAny_bind (m := Builtin.Tuple.tupleExact _) (wpAny_newObj_type (wpAny_pure ⟨_, rfl, wpAny_pure h⟩) htake))
end
end HT

namespace L2
open PySem PySem.Spec PyProof.Rows

/-! ### the parts of a slice -/
abbrev TO := St → Hp → (Option Int → Hp → Prop) → Prop
/-- a slice's part (left out, or an int) -/
def PO (X : Cx) (e : Option Expr) (t : TO) : Prop :=
  ∀ (pins : List (Addr × Obj)) (s : Shared) (σ : St) (H : Hp) (Q : Option Int → Hp → Prop), Inv X pins σ H s → t σ H Q →
    wpAny (model X.prog X.w) X.A (evalPart e X.env) (fun u s' => ∃ o H', Inv X pins σ H' s' ∧ IsPart u o ∧ Q o H') X.xe s
def tNoPart : TO := fun _ H Q => Q none H
def tPart (t : TE) : TO := fun σ H Q => t σ H fun x H1 => ∃ i, x = .int i ∧ Q (some i) H1

theorem intsAre_of {ns : List Int} : ∀ {us : List Value}, Vals (ns.map V.int) us → IntsAre us ns := by
  induction ns with
  | nil => intro us r; rw [List.map_nil] at r; cases r; exact .nil
  | cons n ns ih =>
    intro us r
    rw [List.map_cons] at r
    cases r with
    | cons r1 r2 =>
      obtain ⟨t, e⟩ := r1
      subst e
      exact .cons n t (ih r2)

section
variable {X : Cx} {e : Expr} {te : TE} {lo hi : Option Expr} {tl th : TO} {pos p2 : Pos}

theorem po_none : PO X none tNoPart := by
  intro pins s σ H Q I h
  rw [evalPart_none]
  exact wpAny_pure ⟨none, H, I, .none, h⟩
theorem po_some (h : PE X e te) : PO X (some e) (tPart te) := by
  intro pins s σ H Q I hw
  rw [evalPart_some]
  refine thn (h pins s σ H _ I hw) fun u s1 ⟨x, H1, I1, r1, q1⟩ => ?_
  obtain ⟨i, rfl, q⟩ := q1
  obtain ⟨t, rfl⟩ := r1
  exact ⟨some i, H1, I1, .int i t, q⟩

/-- what a slice of a value is, by values: the slice object stands at sl -/
def SlR (X : Cx) (r : V → Option Int → Option Int → Hp → VK → Prop) : Prop :=
  ∀ (pins : List (Addr × Obj)) (s : Shared) (σ : St) (H : Hp) (x : V) (v vl vu : Value) (lo hi : Option Int) (sl : Addr) (Q : VK), Inv X pins σ H s → RelV x v → s.heap.IsSliceOf sl vl vu .none → IsPart vl lo → IsPart vu hi → r x lo hi H Q →
    ∃ T id, typeLookup (.type T) "__getitem__" = pure (some (.builtin id)) ∧ s.TypeIs v T ∧ wpAny (model X.prog X.w) X.A (getItem v (.ref sl)) (EP X pins σ Q) X.xe s
theorem SlR.or {r r' : V → Option Int → Option Int → Hp → VK → Prop} (h : SlR X r) (h' : SlR X r') : SlR X (fun x lo hi H Q => r x lo hi H Q ∨ r' x lo hi H Q) := by
  intro pins s σ H x v vl vu lo hi sl Q I rx hs pl pu q
  rcases q with q | q
  · exact h pins s σ H x v vl vu lo hi sl Q I rx hs pl pu q
  · exact h' pins s σ H x v vl vu lo hi sl Q I rx hs pl pu q
def tSl (r : V → Option Int → Option Int → Hp → VK → Prop) (te : TE) (tl th : TO) : TE := fun σ H Q => te σ H fun x H1 => tl σ H1 fun l H2 => th σ H2 fun u H3 => r x l u H3 Q
/-- a[lo:hi], any a -/
theorem pe_slice {r : V → Option Int → Option Int → Hp → VK → Prop} (hr : SlR X r) (he : PE X e te) (hl : PO X lo tl) (hu : PO X hi th) : PE X (.Subscript e (.Slice lo hi none p2) pos) (tSl r te tl th) := by
  intro pins s σ H Q I h
  refine Subscript_ (thn (he pins s σ H _ I h) fun v s1 ⟨x, H1, I1, r1, q1⟩ => ?_)
  refine wpAny_Slice (thn (hl pins s1 σ H1 _ I1 q1) fun vl s2 ⟨l, H2, I2, pl, q2⟩ => thn (hu pins s2 σ H2 _ I2 q2) fun vu s3 ⟨u, H3, I3, pu, q3⟩ => ?_)
  rw [evalPart_none]
  refine wpAny_pure ?_
  have I4 : Inv X pins σ H3 { s3 with heap := s3.heap.push { cls := .type "slice", data := .fields #[vl, vu, .none] } } := I3.kept (t' := s3.toks) fun b ob q => Heap.get?_push_of_some _ q
  obtain ⟨T, id, hT, ht, hg⟩ := hr pins { s3 with heap := s3.heap.push { cls := .type "slice", data := .fields #[vl, vu, .none] } } σ H3 x v vl vu l u s3.heap.objs.size Q I4 r1 (Heap.IsSliceOf.new ..) pl pu q3
  show wpAny (model X.prog X.w) X.A (subscriptTail e (.Slice lo hi none p2) v (.ref s3.heap.objs.size)) (EP X pins σ Q) X.xe { s3 with heap := s3.heap.push { cls := .type "slice", data := .fields #[vl, vu, .none] } }
  exact tail_any (ops := [.ref s3.heap.objs.size, v]) ht hT hg (by with_unfolding_all rfl)

/-- the items of xs[lo:hi] -/
def cutV (xs : List V) (lo hi : Option Int) : List V := (xs.drop (HT.sIx xs.length 0 lo)).take (HT.sIx xs.length xs.length hi - HT.sIx xs.length 0 lo)
theorem cutV_length (xs : List V) (lo hi : Option Int) : (cutV xs lo hi).length ≤ xs.length := by
  unfold cutV
  rw [List.length_take, List.length_drop]
  omega
/-- t[lo:hi], not the whole of it (the whole would be t itself) -/
def rSlT (K : PySem.W.Frag) : V → Option Int → Option Int → Hp → VK → Prop := fun x lo hi H Q => ∃ a xs, x = .ref a ∧ SqT K H a xs ∧
  ¬ (HT.sIx xs.length 0 lo = 0 ∧ HT.sIx xs.length xs.length hi = xs.length) ∧ ∀ p, H p = none → Q (.ref p) (upd H p (.tup (cutV xs lo hi)))
theorem sl_tup : SlR X (rSlT X.K) := by
  intro pins s σ H x v vl vu lo hi sl Q I rx hs pl pu h
  obtain ⟨a, xs, rfl, hx, hw, q⟩ := h
  cases rx
  obtain ⟨its, r, ht, hz⟩ := I.tuple hx
  have hlen : its.toArray.size = xs.length := by rw [List.size_toArray]; exact r.length.symm
  refine ⟨"tuple", _, PyProof.Rows.slot_tuple_getitem.lookup, ht.typeIs, ?_⟩
  refine HT.getItem_tuple_cut ht hs pl pu (by rw [hlen]; exact hw) ?_ (by rw [hlen]; exact hz)
  rw [hlen]
  refine ⟨.ref s.heap.objs.size, _, I.laid (t' := s.toks) (o := .tup (cutV xs lo hi)) (fun b ob q => Heap.get?_push_of_some _ q) (Nat.le_refl _) ?_, rfl, q _ (I.hok.fresh (Nat.le_refl _))⟩
  exact ⟨Nat.le_trans (cutV_length xs lo hi) hz, _, (r.drop (HT.sIx xs.length 0 lo)).take (HT.sIx xs.length xs.length hi - HT.sIx xs.length 0 lo), IsTup.new _ _⟩

/-! ### t < u, t + u -/
def rLtT (K : PySem.W.Frag) : R2 := fun x y H Q => ∃ a b ns ms, x = .ref a ∧ y = .ref b ∧ SqT K H a (ns.map V.int) ∧ SqT K H b (ms.map V.int) ∧ Q (.bl (HT.lexLt ns ms)) H
theorem op_ltT (hu : X.A.units < cLine) : OpR X (compareOp .Lt) (rLtT X.K) := by
  intro pins s σ H x y v u Q I rx ry h
  obtain ⟨a, b, ns, ms, rfl, rfl, ha, hb, q⟩ := h
  cases rx
  cases ry
  obtain ⟨its, r1, p1, _⟩ := I.tuple ha
  obtain ⟨its2, r2, p2, _⟩ := I.tuple hb
  have i1 : IntsAre its.toArray.toList ns := intsAre_of r1
  have i2 : IntsAre its2.toArray.toList ms := intsAre_of r2
  exact HT.lt_tupInts p1 p2 i1 i2 hu ⟨.bl (HT.lexLt ns ms), H, I, rfl, q⟩
/-- t + u, t not empty: u empty gives t itself -/
def rCatT (K : PySem.W.Frag) : R2 := fun x y H Q => ∃ a b xs ys, x = .ref a ∧ y = .ref b ∧ SqT K H a xs ∧ SqT K H b ys ∧ xs ≠ [] ∧ xs.length + ys.length ≤ sizeLine ∧
  (ys = [] → Q (.ref a) H) ∧ (ys ≠ [] → ∀ p, H p = none → Q (.ref p) (upd H p (.tup (xs ++ ys))))
theorem Vals.nil_iff {xs : List V} {us : List Value} (r : Vals xs us) : us = [] ↔ xs = [] := by
  cases r with
  | nil => simp
  | cons _ _ => simp
theorem op_catT : OpR X (binaryOp .Add) (rCatT X.K) := by
  intro pins s σ H x y v u Q I rx ry h
  obtain ⟨a, b, xs, ys, rfl, rfl, ha, hb, hx, hz, q1, q2⟩ := h
  cases rx
  cases ry
  obtain ⟨its, r1, p1, _⟩ := I.tuple ha
  obtain ⟨its2, r2, p2, _⟩ := I.tuple hb
  refine HT.cat_tup p1 p2 (fun z => hx (r1.nil_iff.mp z)) (fun z => ⟨.ref a, H, I, rfl, q1 (r2.nil_iff.mp z)⟩) (fun z => ?_) (by rw [← r1.length, ← r2.length]; exact hz)
  refine ⟨.ref s.heap.objs.size, _, I.laid (t' := s.toks) (o := .tup (xs ++ ys)) (fun b ob q => Heap.get?_push_of_some _ q) (Nat.le_refl _) ?_, rfl, q2 (fun w => z (r2.nil_iff.mpr w)) _ (I.hok.fresh (Nat.le_refl _))⟩
  exact ⟨by rw [List.length_append]; exact hz, _, r1.append r2, IsTup.new _ _⟩
/-- tuple(t) -/
theorem call_tupleT : CallR X (.type "tuple") (fun xs H Q => ∃ a ys, xs = [.ref a] ∧ SqT X.K H a ys ∧ Q (.ref a) H) := by
  intro pins s σ H xs us Q I r h
  obtain ⟨a, ys, rfl, ha, q⟩ := h
  obtain ⟨u, rfl, ru⟩ := vals1 r
  cases ru
  obtain ⟨its, _, p1, _⟩ := I.tuple ha
  exact call_tuple_same (items := its.toArray) p1 ⟨.ref a, H, I, rfl, q⟩
end
end L2

namespace L2
open PySem PySem.Spec PyProof.Rows

/-! ### places -/
/-- the place that an index of any sign means -/
def ixN (n : Nat) (i : Int) : Option Nat := if 0 ≤ i then (if i < n then some i.toNat else none) else if -(n : Int) ≤ i then some (i + n).toNat else none
def atI {α : Type} (xs : List α) (i : Int) : Option α := (ixN xs.length i).bind fun j => xs[j]?
theorem ixN_seq {n : Nat} {i : Int} {j : Nat} (h : ixN n i = some j) : seqIndex? i n = some j ∧ j < n ∧ -(n : Int) ≤ i ∧ i < n := by
  unfold ixN at h
  by_cases h0 : 0 ≤ i
  · rw [if_pos h0] at h
    by_cases h1 : i < n
    · rw [if_pos h1] at h
      have e : i.toNat = j := Option.some.inj h
      exact ⟨by rw [seqIndex_of h0 h1, e], by omega, by omega, h1⟩
    · rw [if_neg h1] at h; cases h
  · rw [if_neg h0] at h
    by_cases h1 : -(n : Int) ≤ i
    · rw [if_pos h1] at h
      have e : (i + n).toNat = j := Option.some.inj h
      exact ⟨by rw [seqIndex_neg (by omega) h1, e], by omega, h1, by omega⟩
    · rw [if_neg h1] at h; cases h
theorem atI_get {α : Type} {xs : List α} {i : Int} {v : α} (h : atI xs i = some v) : ∃ j, seqIndex? i xs.length = some j ∧ xs[j]? = some v ∧ j < xs.length ∧ -(xs.length : Int) ≤ i ∧ i < xs.length := by
  unfold atI at h
  cases e : ixN xs.length i with
  | none => rw [e] at h; cases h
  | some j =>
    rw [e] at h
    obtain ⟨h1, h2, h3, h4⟩ := ixN_seq e
    exact ⟨j, h1, h, h2, h3, h4⟩
theorem atI_nat {α : Type} {xs : List α} {j : Nat} {v : α} (h : xs[j]? = some v) : atI xs (j : Int) = some v := by
  have hj : j < xs.length := (List.getElem?_eq_some_iff.mp h).1
  have e : ixN xs.length (j : Int) = some j := by
    unfold ixN
    rw [if_pos (by omega), if_pos (by omega)]; simp
  unfold atI; rw [e]; exact h
theorem atI_last {α : Type} (xs : List α) (v : α) : atI (xs ++ [v]) (-1) = some v := by
  have hl : (xs ++ [v]).length = xs.length + 1 := by simp
  have e : ixN (xs ++ [v]).length (-1) = some xs.length := by
    unfold ixN
    rw [hl, if_neg (by decide), if_pos (by omega)]
    congr 1
    omega
  unfold atI
  rw [e]
  show (xs ++ [v])[xs.length]? = some v
  simp

/-! ### what may be subscripted -/
/-- what stands as an index of a plain subscript -/
def PlainIx (b : Expr) : Prop := ∀ o i, subscripted b false o i = operate [o, i] (getItem o i)
/-- a subscript by values -/
def IxR (X : Cx) (r : R2) : Prop :=
  ∀ (value slice : Expr) (pins : List (Addr × Obj)) (s : Shared) (σ : St) (H : Hp) (x y : V) (v u : Value) (Q : VK), Inv X pins σ H s → RelV x v → RelV y u → r x y H Q →
    subscripted slice false v u = operate [v, u] (getItem v u) → wpAny (model X.prog X.w) X.A (subscriptTail value slice v u) (EP X pins σ Q) X.xe s
/-- a call of a builtin's method by values: the receiver, the arguments -/
def MtR (X : Cx) (id : String) (r : V → List V → Hp → VK → Prop) : Prop :=
  ∀ (pins : List (Addr × Obj)) (s : Shared) (σ : St) (H : Hp) (x : V) (xs : List V) (v : Value) (us : List Value) (Q : VK), Inv X pins σ H s → RelV x v → Vals xs us → r x xs H Q →
    wpAny (model X.prog X.w) X.A (call (.builtin id) (v :: us)) (EP X pins σ Q) X.xe s
section
variable {X : Cx} {a b : Expr} {ta tb : TE} {pos : Pos}
theorem IxR.or {r r' : R2} (h : IxR X r) (h' : IxR X r') : IxR X (fun x y H Q => r x y H Q ∨ r' x y H Q) := by
  intro value slice pins s σ H x y v u Q I rx ry q hs
  rcases q with q | q
  · exact h value slice pins s σ H x y v u Q I rx ry q hs
  · exact h' value slice pins s σ H x y v u Q I rx ry q hs
theorem MtR.or {id : String} {r r' : V → List V → Hp → VK → Prop} (h : MtR X id r) (h' : MtR X id r') : MtR X id (fun x xs H Q => r x xs H Q ∨ r' x xs H Q) := by
  intro pins s σ H x xs v us Q I rx rs q
  rcases q with q | q
  · exact h pins s σ H x xs v us Q I rx rs q
  · exact h' pins s σ H x xs v us Q I rx rs q
/-- a[b] -/
theorem pe_ix {r : R2} (hr : IxR X r) (ha : PE X a ta) (hb : PE X b tb) (hs : PlainIx b) : PE X (.Subscript a b pos) (tOp r ta tb) := by
  intro pins s σ H Q I h
  exact Subscript_ (binT ha hb I h fun v u s2 x y H2 I2 rx ry q => hr a b pins s2 σ H2 x y v u Q I2 rx ry q (hs _ _))

def rIxL (K : PySem.W.Frag) : R2 := fun x y H Q => ∃ p xs i v, x = .ref p ∧ y = .int i ∧ SqL K H p xs ∧ atI xs i = some v ∧ Q v H
def rIxT (K : PySem.W.Frag) : R2 := fun x y H Q => ∃ p xs i v, x = .ref p ∧ y = .int i ∧ SqT K H p xs ∧ atI xs i = some v ∧ Q v H
def rIxS : R2 := fun x y H Q => ∃ z i c, x = .str z ∧ y = .int i ∧ z.length ≤ sizeLine ∧ atI z.cps.toList i = some c ∧ Q (.str ⟨#[c]⟩) H
theorem ix_list : IxR X (rIxL X.K) := by
  intro value slice pins s σ H x y v u Q I rx ry h hs
  obtain ⟨p, xs, i, z, rfl, rfl, hq, he, q⟩ := h
  cases rx
  obtain ⟨t, rfl⟩ := ry
  obtain ⟨its, r, pl, hz⟩ := I.list hq
  obtain ⟨j, h1, h2, h3, h4, h5⟩ := atI_get he
  obtain ⟨w, ew, rw'⟩ := r.get h2
  have hl := r.length
  have hn := line63
  have fin : EP X pins σ Q w s := ⟨z, H, I, rw', q⟩
  by_cases h0 : 0 ≤ i
  · have hj : i.toNat = j := by
      rw [seqIndex_of h0 h5] at h1
      exact Option.some.inj h1
    exact item_listR pl.isList h0 (by omega) (by rw [hj]; simpa using ew) fin hs
  · have hj : (i + (its.toArray.size : Int)).toNat = j := by
      rw [seqIndex_neg (by omega) h4] at h1
      rw [List.size_toArray, ← hl]
      exact Option.some.inj h1
    exact subscriptTail_builtinR (x := w) pl.isList.typeIs slot_list_getitem.lookup
      (wpAny_getItem_list_neg (Q := fun r s' => r = w ∧ EP X pins σ Q r s') pl.isList (by omega) (by rw [List.size_toArray] <;> omega) (by omega) (by rw [hj]; simpa using ew) ⟨rfl, fin⟩) hs
theorem ix_tup : IxR X (rIxT X.K) := by
  intro value slice pins s σ H x y v u Q I rx ry h hs
  obtain ⟨p, xs, i, z, rfl, rfl, hq, he, q⟩ := h
  cases rx
  obtain ⟨t, rfl⟩ := ry
  obtain ⟨its, r, pl, hz⟩ := I.tuple hq
  obtain ⟨j, h1, h2, h3, h4, h5⟩ := atI_get he
  obtain ⟨w, ew, rw'⟩ := r.get h2
  have hl := r.length
  have hn := line63
  have fin : EP X pins σ Q w s := ⟨z, H, I, rw', q⟩
  exact subscriptTail_builtinR (x := w) pl.typeIs slot_tuple_getitem.lookup
    (getItem_tuple (j := j) (Q := fun r s' => r = w ∧ EP X pins σ Q r s') pl (by omega) (by omega) (by rw [List.size_toArray, ← hl]; exact h1) (by simpa using ew) ⟨rfl, fin⟩) hs
theorem ix_str : IxR X rIxS := by
  intro value slice pins s σ H x y v u Q I rx ry h hs
  obtain ⟨z, i, c, rfl, rfl, hz, he, q⟩ := h
  obtain ⟨t, rfl⟩ := rx
  obtain ⟨t', rfl⟩ := ry
  obtain ⟨j, h1, h2, h3, h4, h5⟩ := atI_get he
  have hl : z.cps.toList.length = z.length := by simp [Str.length]
  rw [hl] at h1 h4 h5
  have hn := line63
  exact tail_any (typeIs_str s z t) slot_str_getitem.lookup (getItem_str (c := c) (by
    have e1 : decide (i < -(2 ^ 63 : Int)) = false := decide_eq_false (by omega)
    have e2 : decide (i ≥ 2 ^ 63) = false := decide_eq_false (by omega)
    rw [e1, e2, Bool.or_false]) (by rw [h1]; simpa using h2) ⟨.str ⟨#[c]⟩, H, I.tok _, ⟨_, rfl⟩, q⟩) hs
/-- list, tuple or str -/
def rIx (K : PySem.W.Frag) : R2 := fun x y H Q => rIxL K x y H Q ∨ rIxT K x y H Q ∨ rIxS x y H Q
theorem ix_seq : IxR X (rIx X.K) := ix_list.or (ix_tup.or ix_str)

/-! ### xs[i] = v, any sign -/
/-- the list's object behind a store -/
theorem mapSeq_set (its : List Value) (n j : Nat) (u : Value) : Obj.mapSeq (·.setIfInBounds j u) { cls := .type "list", data := .seq its.toArray n } = { cls := .type "list", data := .seq (its.set j u).toArray n } := by
  simp [Obj.mapSeq]
theorem Inv.lst {pins : List (Addr × Obj)} {σ : St} {H : Hp} {s : Shared} {p : Addr} {xs : List V} (I : Inv X pins σ H s) (h : H p = some (.lst xs)) :
    ∃ (its : List Value) (n : Nat), Vals xs its ∧ s.heap.get? p = some { cls := .type "list", data := .seq its.toArray n } ∧ xs.length ≤ sizeLine := by
  obtain ⟨z, its, n, r, e⟩ := I.hok p _ h
  exact ⟨its, n, r, e, z⟩
/-- the list at p is written by an update of its object -/
theorem Inv.lstUpd {pins : List (Addr × Obj)} {σ : St} {H : Hp} {s : Shared} {p : Addr} {xs ys : List V} {its its' : List Value} {n n' : Nat} {f : Obj → Obj} (I : Inv X pins σ H s) (h : H p = some (.lst xs))
    (ho : s.heap.get? p = some { cls := .type "list", data := .seq its.toArray n }) (hf : f { cls := .type "list", data := .seq its.toArray n } = { cls := .type "list", data := .seq its'.toArray n' }) (r : Vals ys its') (hz : ys.length ≤ sizeLine) (t : Nat) :
    Inv X pins σ (upd H p (.lst ys)) { s with heap := s.heap.update p f, toks := t } := by
  have e : (s.heap.update p f).get? p = some { cls := .type "list", data := .seq its'.toArray n' } := by
    rw [Heap.get?_update_self f ho (by rw [hf] <;> rfl), hf]
  refine I.write (x := p) (e := p) (by rw [h]; trivial) (.inl rfl) (fun b u hb q => (Heap.get?_update_other _ _ (Ne.symm hb)).trans q) ⟨_, e⟩ ?_
  exact ⟨hz, its', n', r, e⟩
def rSetL : V → V → V → Hp → (Hp → Prop) → Prop := fun o i v H Q => ∃ p xs k j, o = .ref p ∧ i = .int k ∧ H p = some (.lst xs) ∧ ixN xs.length k = some j ∧ Q (upd H p (.lst (xs.set j v)))
theorem set_list : PSet X rSetL := by
  intro pins s σ H o i v ov iv u Q I ro ri rv h
  obtain ⟨p, xs, k, j, rfl, rfl, hp, hj, q⟩ := h
  cases ro
  obtain ⟨t, rfl⟩ := ri
  obtain ⟨its, n, r, ho, hz⟩ := I.lst hp
  obtain ⟨h1, h2, h3, h4⟩ := ixN_seq hj
  have hl := r.length
  have hn := line63
  have I' : Inv X pins σ (upd H p (.lst (xs.set j v))) { s with heap := s.heap.update p (Obj.mapSeq (·.setIfInBounds j u)) } :=
    I.lstUpd hp ho (mapSeq_set its n j u) (r.set rv j) (by rw [List.length_set]; exact hz) s.toks
  by_cases h0 : 0 ≤ k
  · have hk : k.toNat = j := by
      rw [seqIndex_of h0 h4] at h1
      exact Option.some.inj h1
    exact PySem.W.ki_setAt ho h0 (by omega) (by rw [List.size_toArray, ← hl]; exact h4) (by rw [hk]; exact ⟨_, I', q⟩)
  · have hk : (k + (its.toArray.size : Int)).toNat = j := by
      rw [seqIndex_neg (by omega) h3] at h1
      rw [List.size_toArray, ← hl]
      exact Option.some.inj h1
    exact PySem.W.ki_setBack ho (by omega) (by rw [List.size_toArray, ← hl]; exact h3) (by omega) (by rw [hk]; exact ⟨_, I', q⟩)

/-! ### slices -/
theorem slice_bounds (lo hi : Option Int) (n : Nat) : (sliceBounds lo hi none n).1 = ((HT.sIx n 0 lo : Nat) : Int) ∧ (sliceBounds lo hi none n).2.1 = ((HT.sIx n n hi : Nat) : Int) ∧ (sliceBounds lo hi none n).2.2 = 1 := by
  refine ⟨?_, ?_, rfl⟩
  · cases lo with
    | none => simp [sliceBounds, HT.sIx]
    | some i =>
      simp only [sliceBounds, HT.sIx, Option.getD_none, show (1 : Int) > 0 by decide, if_true]
      by_cases h : i < 0
      · simp only [h, if_true] <;> omega
      · simp only [h, if_false] <;> omega
  · cases hi with
    | none => simp [sliceBounds, HT.sIx]
    | some i =>
      simp only [sliceBounds, HT.sIx, Option.getD_none, show (1 : Int) > 0 by decide, if_true]
      by_cases h : i < 0
      · simp only [h, if_true] <;> omega
      · simp only [h, if_false] <;> omega
theorem slicePick_cut (its : List Value) (lo hi : Option Int) : slicePick its.toArray lo hi none = ((its.drop (HT.sIx its.length 0 lo)).take (HT.sIx its.length its.length hi - HT.sIx its.length 0 lo)).toArray := by
  obtain ⟨h1, h2, h3⟩ := slice_bounds lo hi its.toArray.size
  unfold slicePick
  rw [h1, h2, h3]
  simp only [sliceRange_one, pick_run, List.size_toArray] <;> rfl
/-- xs[lo:hi] of a list: a new list -/
def rSlL (K : PySem.W.Frag) : V → Option Int → Option Int → Hp → VK → Prop := fun x lo hi H Q => ∃ a xs, x = .ref a ∧ SqL K H a xs ∧ ∀ p, H p = none → Q (.ref p) (upd H p (.lst (cutV xs lo hi)))
theorem sl_list : SlR X (rSlL X.K) := by
  intro pins s σ H x v vl vu lo hi sl Q I rx hs pl pu h
  obtain ⟨a, xs, rfl, hx, q⟩ := h
  cases rx
  obtain ⟨its, r, ht, hz⟩ := I.list hx
  have hlen := r.length
  refine ⟨"list", _, slot_list_getitem.lookup, ht.isList.typeIs, ?_⟩
  refine wpAny_getItem_list_slice ht.isList hs pl pu .none (by simp) ?_ (by rw [List.size_toArray] <;> omega)
  rw [slicePick_cut, ← hlen]
  refine ⟨.ref s.heap.objs.size, _, I.laid (t' := s.toks) (o := .lst (cutV xs lo hi)) (fun b ob q => Heap.get?_push_of_some _ q) (Nat.le_refl _) ?_, rfl, q _ (I.hok.fresh (Nat.le_refl _))⟩
  exact ⟨Nat.le_trans (cutV_length xs lo hi) hz, _, 0, (r.drop (HT.sIx xs.length 0 lo)).take (HT.sIx xs.length xs.length hi - HT.sIx xs.length 0 lo), Heap.get?_push_size _ rfl⟩

/-! ### in, not in: flat items -/
def flatV : V → Bool
  | .non => true
  | .bl _ => true
  | .int _ => true
  | .str _ => true
  | _ => false
/-- == of flat values -/
def eqV : V → V → Bool
  | .non, .non => true
  | .bl a, .bl b => a == b
  | .bl a, .int b => (if a then 1 else 0) == b
  | .int a, .bl b => a == (if b then 1 else 0)
  | .int a, .int b => a == b
  | .str a, .str b => a == b
  | _, _ => false
theorem eqAt_V {A : Around} {s : Shared} {y x : V} {u v : Value} (ry : RelV y u) (rx : RelV x v) (fy : flatV y = true) (fx : flatV x = true) : SeqAt.EqAt A s u v (eqV y x) := by
  cases y with
  | non =>
    cases ry
    cases x with
    | non => cases rx; exact SeqAt.EqAt.same _
    | bl b => cases rx; exact SeqAt.EqAt.none_bool b
    | int b => obtain ⟨t, rfl⟩ := rx; exact SeqAt.EqAt.none_int b t
    | str b => obtain ⟨t, rfl⟩ := rx; exact SeqAt.EqAt.none_str b t
    | _ => exact absurd (show false = true from fx) Bool.false_ne_true
  | bl a =>
    cases ry
    cases x with
    | non => cases rx; exact SeqAt.EqAt.bool_none a
    | bl b => cases rx; exact SeqAt.EqAt.bool_bool a b
    | int b => obtain ⟨t, rfl⟩ := rx; exact SeqAt.EqAt.bool_int a b t
    | str b => obtain ⟨t, rfl⟩ := rx; exact SeqAt.EqAt.bool_str a b t
    | _ => exact absurd (show false = true from fx) Bool.false_ne_true
  | int a =>
    obtain ⟨t', rfl⟩ := ry
    cases x with
    | non => cases rx; exact SeqAt.EqAt.int_none a t'
    | bl b => cases rx; exact SeqAt.EqAt.int_bool a t' b
    | int b => obtain ⟨t, rfl⟩ := rx; exact SeqAt.EqAt.int_int a t' b t
    | str b => obtain ⟨t, rfl⟩ := rx; exact SeqAt.EqAt.int_str a t' b t
    | _ => exact absurd (show false = true from fx) Bool.false_ne_true
  | str a =>
    obtain ⟨t', rfl⟩ := ry
    cases x with
    | non => cases rx; exact SeqAt.EqAt.str_none a t'
    | bl b => cases rx; exact SeqAt.EqAt.str_bool a t' b
    | int b => obtain ⟨t, rfl⟩ := rx; exact SeqAt.EqAt.str_int a t' b t
    | str b => obtain ⟨t, rfl⟩ := rx; exact SeqAt.EqAt.str_str a t' b t
    | _ => exact absurd (show false = true from fx) Bool.false_ne_true
  | _ => exact absurd (show false = true from fy) Bool.false_ne_true
/-- the items' answers, read off the values (a value's own answer does not lean on its token) -/
def eqU (x : V) (u : Value) : Bool := match u with
  | .none => eqV .non x
  | .bool b => eqV (.bl b) x
  | .int i _ => eqV (.int i) x
  | .str z _ => eqV (.str z) x
  | _ => false
theorem eqU_of {x y : V} {u : Value} (r : RelV y u) (f : flatV y = true) : eqU x u = eqV y x := by
  cases y with
  | non => cases r; rfl
  | bl b => cases r; rfl
  | int i => obtain ⟨t, rfl⟩ := r; rfl
  | str z => obtain ⟨t, rfl⟩ := r; rfl
  | _ => exact absurd (show false = true from f) Bool.false_ne_true
theorem any_eqU {x : V} : ∀ {xs : List V} {us : List Value}, Vals xs us → xs.all flatV = true → us.any (eqU x) = xs.any fun y => eqV y x
  | _, _, .nil, _ => rfl
  | y :: xs, u :: us, .cons r t, f => by
    rw [List.all_cons, Bool.and_eq_true] at f
    rw [List.any_cons, List.any_cons, eqU_of r f.1, any_eqU t f.2]
theorem mem_eqAt {A : Around} {s : Shared} {x : V} {v : Value} (rx : RelV x v) (fx : flatV x = true) : ∀ {xs : List V} {us : List Value}, Vals xs us → xs.all flatV = true → ∀ u ∈ us, SeqAt.EqAt A s u v (eqU x u)
  | _, _, .nil, _ => fun u hu => by cases hu
  | y :: xs, u :: us, .cons r t, f => fun u' hu => by
    rw [List.all_cons, Bool.and_eq_true] at f
    rcases List.mem_cons.mp hu with rfl | hu
    · rw [eqU_of r f.1]; exact eqAt_V r rx f.1 fx
    · exact mem_eqAt rx fx t f.2 u' hu
def inV (x : V) (xs : List V) : Bool := xs.any fun y => eqV y x
/-- x in a list or tuple of flat items -/
def rIn (K : PySem.W.Frag) (neg : Bool) : R2 := fun x y H Q => ∃ p xs, y = .ref p ∧ (SqL K H p xs ∨ SqT K H p xs) ∧ flatV x = true ∧ xs.all flatV = true ∧ Q (.bl (if neg then !inV x xs else inV x xs)) H
theorem op_in_seq : OpR X (compareOp .In) (rIn X.K false) := by
  intro pins s σ H x y v u Q I rx ry h
  obtain ⟨p, xs, rfl, hq, fx, fs, q⟩ := h
  cases ry
  rcases hq with hq | hq
  · obtain ⟨its, r, pl, hz⟩ := I.list hq
    refine SeqAt.in_listAt (eqU x) pl.isList (fun w hw => mem_eqAt rx fx r fs w (by simpa using hw)) ⟨.bl _, H, I, rfl, ?_⟩
    rw [show its.toArray.any (eqU x) = its.any (eqU x) by simp, any_eqU r fs]
    exact q
  · obtain ⟨its, r, pl, hz⟩ := I.tuple hq
    refine SeqAt.in_tupleAt (eqU x) pl (fun w hw => mem_eqAt rx fx r fs w (by simpa using hw)) ⟨.bl _, H, I, rfl, ?_⟩
    rw [show its.toArray.any (eqU x) = its.any (eqU x) by simp, any_eqU r fs]
    exact q
theorem op_notIn_seq : OpR X (compareOp .NotIn) (rIn X.K true) := by
  intro pins s σ H x y v u Q I rx ry h
  obtain ⟨p, xs, rfl, hq, fx, fs, q⟩ := h
  cases ry
  rcases hq with hq | hq
  · obtain ⟨its, r, pl, hz⟩ := I.list hq
    refine SeqAt.notIn_listAt (eqU x) pl.isList (fun w hw => mem_eqAt rx fx r fs w (by simpa using hw)) ⟨.bl _, H, I, rfl, ?_⟩
    rw [show its.toArray.any (eqU x) = its.any (eqU x) by simp, any_eqU r fs]
    exact q
  · obtain ⟨its, r, pl, hz⟩ := I.tuple hq
    refine SeqAt.notIn_tupleAt (eqU x) pl (fun w hw => mem_eqAt rx fx r fs w (by simpa using hw)) ⟨.bl _, H, I, rfl, ?_⟩
    rw [show its.toArray.any (eqU x) = its.any (eqU x) by simp, any_eqU r fs]
    exact q
theorem op_notIn_str : OpR X (compareOp .NotIn) (fun x y H Q => ∃ i j, x = .str i ∧ y = .str j ∧ Q (.bl (!(!(Builtin.Str.occurrences j i 0 j.length 1).isEmpty))) H) := by
  intro pins s σ H x y v u Q I rx ry h
  obtain ⟨i, j, rfl, rfl, q⟩ := h
  obtain ⟨t, rfl⟩ := rx
  obtain ⟨t', rfl⟩ := ry
  exact notIn_str ⟨.bl _, H, I, rfl, q⟩

/-! ### len, list(x), tuple(x) of any list or tuple that is read -/
theorem call_len_seq : CallR X (.builtin "len") (fun xs H Q => ∃ p ys, xs = [.ref p] ∧ (SqL X.K H p ys ∨ SqT X.K H p ys) ∧ Q (.int ys.length) H) := by
  intro pins s σ H xs us Q I r h
  obtain ⟨p, ys, rfl, hq, q⟩ := h
  obtain ⟨u, rfl, rx⟩ := vals1 r
  cases rx
  have hn := line63
  rcases hq with hq | hq
  · obtain ⟨its, r', pl, hz⟩ := I.list hq
    have hlen := r'.length
    exact Calls.call_len_list pl.isList (by simp only [List.size_toArray] <;> omega) ⟨.int ys.length, H, I.tok _, ⟨s.toks + 1, by rw [List.size_toArray, hlen]⟩, q⟩
  · obtain ⟨its, r', pl, hz⟩ := I.tuple hq
    have hlen := r'.length
    exact len_tuple pl (by simp only [List.size_toArray] <;> omega) ⟨.int ys.length, H, I.tok _, ⟨s.toks + 1, by rw [List.size_toArray, hlen]⟩, q⟩
theorem call_len_str : CallR X (.builtin "len") (fun xs H Q => ∃ z, xs = [.str z] ∧ z.length ≤ sizeLine ∧ Q (.int z.length) H) := by
  intro pins s σ H xs us Q I r h
  obtain ⟨z, rfl, hz, q⟩ := h
  obtain ⟨u, rfl, t, rfl⟩ := vals1 r
  have hn := line63
  exact len_str (by omega) ⟨.int z.length, H, I.tok _, ⟨_, rfl⟩, q⟩
theorem CallR.or {f : Value} {r r' : List V → Hp → VK → Prop} (h : CallR X f r) (h' : CallR X f r') : CallR X f (fun xs H Q => r xs H Q ∨ r' xs H Q) := by
  intro pins s σ H xs us Q I rs q
  rcases q with q | q
  · exact h pins s σ H xs us Q I rs q
  · exact h' pins s σ H xs us Q I rs q
theorem call_list_of : CallR X (.type "list") (fun xs H Q => ∃ p ys, xs = [.ref p] ∧ (SqL X.K H p ys ∨ SqT X.K H p ys) ∧ ∀ l, H l = none → Q (.ref l) (upd H l (.lst ys))) := by
  intro pins s σ H xs us Q I r h
  obtain ⟨p, ys, rfl, hq, q⟩ := h
  obtain ⟨u, rfl, rx⟩ := vals1 r
  cases rx
  have fin : ∀ (its : List Value), Vals ys its → ys.length ≤ sizeLine → ∀ (h' : Heap) (c' : Nat), (∀ b o', s.heap.get? b = some o' → h'.get? b = some o') →
      h'.get? s.heap.objs.size = some { cls := .type "list", dict := none, data := .seq its.toArray c', slots := #[] } → EP X pins σ Q (.ref s.heap.objs.size) { s with heap := h' } := fun its r' hz h' c' kp e =>
    ⟨.ref s.heap.objs.size, _, I.laid (t' := s.toks) kp (Nat.le_refl _) (show ObjOk X.prog X.w _ h' _ (.lst ys) from ⟨hz, its, c', r', e⟩), rfl, q _ (I.hok.fresh (Nat.le_refl _))⟩
  rcases hq with hq | hq
  · obtain ⟨its, r', pl, hz⟩ := I.list hq
    have hlen := r'.length
    obtain ⟨o, ho, hc, n, hd⟩ := pl.isList
    exact call_list_seq p (.inl rfl) ho hc hd (fun h' c' kp e => fin its r' hz h' c' kp e) (by simp only [List.size_toArray] <;> omega)
  · obtain ⟨its, r', pl, hz⟩ := I.tuple hq
    have hlen := r'.length
    obtain ⟨o, ho, hc, n, hd⟩ := pl
    exact call_list_seq p (.inr rfl) ho hc hd (fun h' c' kp e => fin its r' hz h' c' kp e) (by simp only [List.size_toArray] <;> omega)
theorem call_tuple_of : CallR X (.type "tuple") (fun xs H Q => ∃ p ys, xs = [.ref p] ∧ ((SqL X.K H p ys ∧ ∀ l, H l = none → Q (.ref l) (upd H l (.tup ys))) ∨ (SqT X.K H p ys ∧ Q (.ref p) H))) := by
  intro pins s σ H xs us Q I r h
  obtain ⟨p, ys, rfl, h⟩ := h
  obtain ⟨u, rfl, rx⟩ := vals1 r
  cases rx
  rcases h with ⟨hq, q⟩ | ⟨hq, q⟩
  · obtain ⟨its, r', pl, hz⟩ := I.list hq
    have hlen := r'.length
    refine call_tuple_list pl.isList (fun h' kp => ?_) (by simp only [List.size_toArray] <;> omega)
    have I1 : Inv X pins σ H { s with heap := h' } := I.kept (t' := s.toks) kp
    have I2 : Inv X pins σ (upd H h'.objs.size (.tup ys)) { s with heap := h'.push { cls := .type "tuple", data := .seq its.toArray } } :=
      I1.laid (t' := s.toks) (fun b o e => Heap.get?_push_of_some _ e) (Nat.le_refl _) (show ObjOk X.prog X.w _ _ _ (.tup ys) from ⟨hz, its, r', IsTup.new _ _⟩)
    exact ⟨.ref h'.objs.size, _, I2, rfl, q _ (I1.hok.fresh (Nat.le_refl _))⟩
  · obtain ⟨its, r', pl, hz⟩ := I.tuple hq
    exact call_tuple_same pl ⟨.ref p, H, I, rfl, q⟩

/-! ### the call of a builtin's method: o.m(..) -/
/-- the value is of that builtin type -/
def tyV (K : PySem.W.Frag) (T : String) (x : V) (H : Hp) : Prop := match x with
  | .str _ => T = "str"
  | .int _ => T = "int"
  | .ref p => (T = "list" ∧ ∃ xs, SqL K H p xs) ∨ (T = "tuple" ∧ ∃ o, K.lookup p = some o ∧ o.cls = .type "tuple" ∧ o.dict = none) ∨
      (T = "dict" ∧ ((∃ kvs, H p = some (.dK kvs)) ∨ ∃ kvs, H p = some (.dT kvs))) ∨ (T = "set" ∧ ∃ S n, H p = some (.set S n))
  | _ => False
theorem tyV_is {pins : List (Addr × Obj)} {σ : St} {H : Hp} {s : Shared} {T : String} {x : V} {v : Value} (I : Inv X pins σ H s) (r : RelV x v) (ty : tyV X.K T x H) :
    s.TypeIs v T ∧ ∀ a, v = .ref a → ∃ ob, s.heap.get? a = some ob ∧ ob.dict = none := by
  cases x with
  | str z =>
    obtain ⟨t, rfl⟩ := r
    cases (show T = "str" from ty)
    exact ⟨typeIs_str s z t, fun _ e => nomatch e⟩
  | int i =>
    obtain ⟨t, rfl⟩ := r
    cases (show T = "int" from ty)
    exact ⟨typeIs_int s i t, fun _ e => nomatch e⟩
  | ref p =>
    cases r
    rcases ty with ⟨rfl, xs, hq⟩ | ⟨rfl, o, hk, hc, hd⟩ | ⟨rfl, hk⟩ | ⟨rfl, S, n, hk⟩
    · obtain ⟨its, _, pl, _⟩ := I.list hq
      refine ⟨pl.isList.typeIs, fun a e => ?_⟩
      cases e
      obtain ⟨o, n, e, c, hd, _⟩ := pl
      exact ⟨o, e, hd⟩
    · refine ⟨⟨o, I.kIn p o hk, hc⟩, fun a e => ?_⟩
      cases e
      exact ⟨o, I.kIn _ o hk, hd⟩
    · have z : ∃ o, s.heap.get? p = some o ∧ o.ExactDict := by
        rcases hk with ⟨kvs, hk⟩ | ⟨kvs, hk⟩
        · obtain ⟨_, _, _, _, o, _, _, e, ex, _⟩ := I.hok p _ hk
          exact ⟨o, e, ex⟩
        · obtain ⟨_, _, _, _, o, _, _, e, ex, _⟩ := I.hok p _ hk
          exact ⟨o, e, ex⟩
      obtain ⟨o, e, ex⟩ := z
      refine ⟨⟨o, e, ex.1⟩, fun a e2 => ?_⟩
      cases e2
      exact ⟨o, e, ex.2.1⟩
    · obtain ⟨o, _, _, _, e, ex, _⟩ := I.hok p _ hk
      refine ⟨⟨o, e, ex.1⟩, fun a e2 => ?_⟩
      cases e2
      exact ⟨o, e, ex.2.1⟩
  | _ => exact False.elim ty
def tBM0 (K : PySem.W.Frag) (T : String) (r : V → List V → Hp → VK → Prop) (to : TE) : TE := fun σ H Q => to σ H fun x H1 => tyV K T x H1 ∧ r x [] H1 Q
def tBM (K : PySem.W.Frag) (T : String) (r : V → List V → Hp → VK → Prop) (to : TE) (t : TA) : TE := fun σ H Q => to σ H fun x H1 => tyV K T x H1 ∧ t σ H1 fun xs H2 => r x xs H2 Q
variable {o e : Expr} {es : List Expr} {to : TE} {t : TA} {name : Str} {apos cpos : Pos} {T id : String} {r : V → List V → Hp → VK → Prop}
theorem pe_bm0 (pa : PlainAttrs T) (slot : Slot T name id) (hty : typeOf (.builtin id) = pure (.type "method_descriptor")) (hm : MtR X id r) (ho : PE X o to)
    (hbase : attributeBase o name X.env (eval o X.env) = eval o X.env := by rfl) (hline : (apos.endLine == cpos.line) = true := by rfl) : PE X (.Call (.Attribute o name apos) [] [] cpos) (tBM0 X.K T r to) := by
  intro pins s σ H Q I h
  refine wpAny_Call_method0_late hbase hline (thn (ho pins s σ H _ I h) fun v s1 ⟨x, H1, I1, r1, ty, q1⟩ => ?_)
  obtain ⟨h1, h2⟩ := tyV_is I1 r1 ty
  exact ⟨T, id, pa, slot, hty, h1, h2, Calls.callWith_builtin rfl (PySem.evalArgs_none (hm pins s1 σ H1 x [] v [] Q I1 r1 .nil q1))⟩
theorem pe_bm (pa : PlainAttrs T) (slot : Slot T name id) (hty : typeOf (.builtin id) = pure (.type "method_descriptor")) (hm : MtR X id r) (ho : PE X o to) (ha : PA X (e :: es) t)
    (hbase : attributeBase o name X.env (eval o X.env) = eval o X.env := by rfl)
    (hfew : ((backTo cpos (starEach (e :: es) X.env)).all (fun x => !x.1) && (backToKw cpos (keywordEach [] X.env)).all (fun x => x.1.isSome)
      && decide ((e :: es).length + ([] : List Keyword).length + (if ([] : List Keyword).isEmpty then 0 else 1) < 30)) = true := by rfl)
    (hline : (apos.endLine == cpos.line) = true := by rfl) (hs : starEach (e :: es) X.env = (false, eval e X.env) :: starEach es X.env := by rfl) (hplain : (backTo cpos (starEach es X.env)).any (·.1) = false := by rfl) :
    PE X (.Call (.Attribute o name apos) (e :: es) [] cpos) (tBM X.K T r to t) := by
  intro pins s σ H Q I h
  refine wpAny_Call_method_late hbase hfew hline rfl (thn (ho pins s σ H _ I h) fun v s1 ⟨x, H1, I1, r1, ty, q1⟩ => ?_)
  obtain ⟨h1, h2⟩ := tyV_is I1 r1 ty
  refine ⟨T, id, pa, slot, hty, h1, h2, ?_⟩
  have hA := ha cpos pins s1 σ H1 _ I1 q1
  rw [hs] at hA ⊢
  refine Calls.callWith_builtin (by show (false || (backTo cpos (starEach es X.env)).any (·.1)) = false; rw [hplain] <;> rfl) (Calls.evalArgs_plain ?_)
  exact thn hA fun us s2 ⟨vs, H2, I2, r2, q2⟩ => hm pins s2 σ H2 x vs v us Q I2 r1 r2 q2
/- xs.append(e), list.index on a module's tuple .. are MtR facts of 06m -/
end
end L2

namespace L2
open PySem PySem.Spec PyProof.Rows

def MtM (X : Cx) (id : String) (r : V → List V → Hp → VK → Prop) : Prop :=
  ∀ (pins : List (Addr × Obj)) (s : Shared) (σ : St) (H : Hp) (x : V) (xs : List V) (v : Value) (us : List Value) (Q : VK), Inv X pins σ H s → RelV x v → Vals xs us → r x xs H Q →
    wpAny (model X.prog X.w) X.A (call (.builtin id) (v :: us)) (EP X pins σ Q) X.xe s

/-! ### lists of values -/
theorem Vals.one : ∀ {x : V} {us : List Value}, Vals [x] us → ∃ u, us = [u] ∧ RelV x u
  | _, _, .cons r .nil => ⟨_, rfl, r⟩
theorem Vals.two : ∀ {x y : V} {us : List Value}, Vals [x, y] us → ∃ u v, us = [u, v] ∧ RelV x u ∧ RelV y v
  | _, _, _, .cons r (.cons q .nil) => ⟨_, _, rfl, r, q⟩
theorem Vals.zero : ∀ {us : List Value}, Vals [] us → us = []
  | _, .nil => rfl
theorem Vals.dropLast {xs : List V} {us : List Value} (h : Vals xs us) : Vals xs.dropLast us.dropLast := by
  induction h with
  | nil => exact .nil
  | cons r t ih =>
    cases t with
    | nil => exact .nil
    | cons q t' => exact .cons r ih
theorem Vals.eraseIdx : ∀ {xs : List V} {us : List Value} (i : Nat), Vals xs us → Vals (xs.eraseIdx i) (us.eraseIdx i)
  | _, _, _, .nil => .nil
  | _, _, 0, .cons _ t => t
  | _, _, i + 1, .cons r t => .cons r (Vals.eraseIdx i t)
theorem Vals.reverse {xs : List V} {us : List Value} (h : Vals xs us) : Vals xs.reverse us.reverse := by
  induction h with
  | nil => exact .nil
  | cons r t ih => rw [List.reverse_cons, List.reverse_cons]; exact Vals.append ih (.cons r .nil)
theorem Vals.rep {xs : List V} {us : List Value} (h : Vals xs us) : ∀ k : Nat, Vals (List.replicate k xs).flatten (List.replicate k us).flatten
  | 0 => .nil
  | k + 1 => by
    rw [List.replicate_succ, List.replicate_succ, List.flatten_cons, List.flatten_cons]
    exact Vals.append h (Vals.rep h k)
theorem erase_last {α : Type} (l : List α) : l.eraseIdx (l.length - 1) = l.dropLast := by
  induction l with
  | nil => rfl
  | cons a r ih =>
    cases r with
    | nil => rfl
    | cons b r =>
      have e : (a :: b :: r).length - 1 = ((b :: r).length - 1) + 1 := by
        have h1 : (a :: b :: r).length = r.length + 2 := rfl
        have h2 : (b :: r).length = r.length + 1 := rfl
        omega
      rw [e, List.eraseIdx_cons_succ, ih]
      all_goals rfl
theorem len_erase {α : Type} : ∀ (l : List α) (i : Nat), (l.eraseIdx i).length ≤ l.length
  | [], _ => Nat.le_refl _
  | _ :: _, 0 => Nat.le_succ _
  | _ :: r, i + 1 => Nat.succ_le_succ (len_erase r i)
theorem foldl_rep (its : List Value) : ∀ (k : Nat) (acc : List Value),
    List.foldl (fun x1 x2 => x1 ++ x2) acc.toArray (List.replicate k its.toArray) = (acc ++ (List.replicate k its).flatten).toArray
  | 0, acc => by simp
  | k + 1, acc => by
    have e : acc.toArray ++ its.toArray = (acc ++ its).toArray := by simp
    have e2 : (acc ++ its) ++ (List.replicate k its).flatten = acc ++ (List.replicate (k + 1) its).flatten := by
      rw [List.replicate_succ, List.flatten_cons, List.append_assoc]
    rw [← e2, ← foldl_rep its k (acc ++ its), ← e, List.replicate_succ, List.foldl_cons]

section
variable {X : Cx} {pins : List (Addr × Obj)} {σ : St} {H : Hp} {s : Shared} {l b : Addr} {xs ys zs : List V}

/-! ### the two steps: a tracked list is rewritten, a new list is laid -/
theorem Inv.lset {its its' : List Value} {n : Nat} {f : Array Value → Array Value} {t' : Nat} (I : Inv X pins σ H s) (hH : H l = some (.lst xs))
    (e : s.heap.get? l = some { cls := .type "list", data := .seq its.toArray n }) (hf : f its.toArray = its'.toArray) (hv : Vals ys its') (hz : ys.length ≤ sizeLine) :
    Inv X pins σ (upd H l (.lst ys)) { s with heap := s.heap.update l (Obj.mapSeq f), toks := t' } := by
  have q := PySem.IsL.update e f
  rw [hf] at q
  refine I.write (x := l) (e := l) (by rw [hH]; exact trivial) (.inl rfl) (fun b' u hb hu => (Heap.get?_update_other s.heap (Obj.mapSeq f) (Ne.symm hb)).trans hu) ⟨_, q⟩ ?_
  exact ⟨hz, its', _, hv, q⟩
theorem Inv.lnew {its : List Value} {t' : Nat} (I : Inv X pins σ H s) (hv : Vals ys its) (hz : ys.length ≤ sizeLine) :
    Inv X pins σ (upd H s.heap.objs.size (.lst ys)) { s with heap := s.heap.push { cls := .type "list", data := .seq its.toArray }, toks := t' } :=
  I.laid (fun _ _ q => Heap.get?_push_of_some _ q) (Nat.le_refl _) ⟨hz, its, 0, hv, Heap.get?_push_size _ rfl⟩
theorem Inv.fresh (I : Inv X pins σ H s) : H s.heap.objs.size = none := I.hok.fresh (Nat.le_refl _)
theorem Inv.lstM (I : Inv X pins σ H s) (hH : H l = some (.lst xs)) : xs.length ≤ sizeLine ∧ ∃ (its : List Value) (n : Nat), Vals xs its ∧ xs.length = its.length ∧ s.heap.get? l = some { cls := .type "list", data := .seq its.toArray n } := by
  obtain ⟨z, its, n, r, e⟩ := I.hok l _ hH
  exact ⟨z, its, n, r, r.length, e⟩

theorem notLongL {n : Nat} (h : n ≤ sizeLine) : Builtin.List.listTooLong n = false := by
  unfold Builtin.List.listTooLong
  exact decide_eq_false (by omega)
end

section
variable {X : Cx}

/-! ### methods -/
def rAppend : V → List V → Hp → VK → Prop := fun x vs H Q => ∃ l xs y, x = .ref l ∧ vs = [y] ∧ H l = some (.lst xs) ∧ xs.length < sizeLine ∧ Q .non (upd H l (.lst (xs ++ [y])))
theorem mt_append : MtM X "list.append" rAppend := by
  intro pins s σ H x vs v us Q I rx rv h
  obtain ⟨l, xs, y, rfl, rfl, hH, hz, q⟩ := h
  cases rx
  obtain ⟨u, rfl, ru⟩ := rv.one
  obtain ⟨z, its, n, r, hl, e⟩ := I.lstM hH
  refine call_meets F.slot_list_append ⟨_, e, rfl⟩ F.entry_list_append (F.args_list_append_2 _ _) (PySem.list_append l its.toArray n u (by rw [List.size_toArray]; omega)) ⟨e, ?_⟩
  refine ⟨.non, _, I.lset (its' := its ++ [u]) hH e (by simp) (r.append (.cons ru .nil)) ?_, rfl, q⟩
  rw [List.length_append, List.length_singleton]
  omega

def rExtend : V → List V → Hp → VK → Prop := fun x vs H Q => ∃ l b xs zs, x = .ref l ∧ vs = [.ref b] ∧ H l = some (.lst xs) ∧ H b = some (.lst zs) ∧ xs.length + zs.length ≤ sizeLine ∧ Q .non (upd H l (.lst (xs ++ zs)))
theorem mt_extend : MtM X "list.extend" rExtend := by
  intro pins s σ H x vs v us Q I rx rv h
  obtain ⟨l, b, xs, zs, rfl, rfl, hH, hB, hz, q⟩ := h
  cases rx
  obtain ⟨u, rfl, ru⟩ := rv.one
  cases ru
  obtain ⟨z, its, n, r, hl, e⟩ := I.lstM hH
  obtain ⟨z2, its2, n2, r2, hl2, e2⟩ := I.lstM hB
  have hsz : its.toArray.size + its2.toArray.size ≤ sizeLine := by rw [List.size_toArray, List.size_toArray]; omega
  have hlong : ¬ (!its.toArray.isEmpty && Builtin.List.listTooLong (its.toArray.size + its2.toArray.size)) = true := by
    rw [notLongL hsz, Bool.and_false]
    exact Bool.false_ne_true
  refine call_meets F.slot_list_extend ⟨_, e, rfl⟩ F.entry_list_extend (F.args_list_extend_2 _ _)
    (AutoSeq1.list_extend_list_list_0 l its.toArray n b its2.toArray n2 hlong (by rw [List.size_toArray]; omega) (by omega)) ⟨e, e2, ?_⟩
  refine ⟨.non, _, I.lset (its' := its ++ its2) hH e (by simp) (r.append r2) ?_, rfl, q⟩
  rw [List.length_append]
  omega

def rPop : V → List V → Hp → VK → Prop := fun x vs H Q => ∃ l xs y, x = .ref l ∧ vs = [] ∧ H l = some (.lst xs) ∧ xs[xs.length - 1]? = some y ∧ Q y (upd H l (.lst xs.dropLast))
theorem mt_pop : MtM X "list.pop" rPop := by
  intro pins s σ H x vs v us Q I rx rv h
  obtain ⟨l, xs, y, rfl, rfl, hH, hy, q⟩ := h
  cases rx
  have hus := rv.zero
  subst hus
  obtain ⟨z, its, n, r, hl, e⟩ := I.lstM hH
  obtain ⟨u, hu, ru⟩ := r.get hy
  have hy' : its.toArray[its.toArray.size - 1]? = some u := by
    show its.toArray[its.length - 1]? = some u
    rw [← Array.getElem?_toList, ← hl]
    exact hu
  refine call_meets F.slot_list_pop ⟨_, e, rfl⟩ F.entry_list_pop (F.args_list_pop_1 _) (MeetsSeq.list_pop_last l its.toArray n u hy' (by rw [List.size_toArray]; omega)) ⟨e, ?_⟩
  refine ⟨y, _, I.lset (its' := its.dropLast) hH e ?_ r.dropLast ?_, ru, q⟩
  · show its.toArray.eraseIdxIfInBounds (its.toArray.size - 1) = its.dropLast.toArray
    rw [List.size_toArray, List.eraseIdxIfInBounds_toArray, erase_last]
  · rw [List.length_dropLast]
    omega

def rPopAt : V → List V → Hp → VK → Prop := fun x vs H Q => ∃ l xs i k y, x = .ref l ∧ vs = [.int i] ∧ H l = some (.lst xs) ∧ -(2 ^ 63) ≤ i ∧ i < 2 ^ 63 ∧ seqIndex? i xs.length = some k ∧ xs[k]? = some y ∧ Q y (upd H l (.lst (xs.eraseIdx k)))
theorem mt_popAt : MtM X "list.pop" rPopAt := by
  intro pins s σ H x vs v us Q I rx rv h
  obtain ⟨l, xs, i, k, y, rfl, rfl, hH, h1, h2, hk, hy, q⟩ := h
  cases rx
  obtain ⟨u, rfl, ru⟩ := rv.one
  obtain ⟨t, rfl⟩ := ru
  obtain ⟨z, its, n, r, hl, e⟩ := I.lstM hH
  obtain ⟨w, hw, rw'⟩ := r.get hy
  refine call_meets F.slot_list_pop ⟨_, e, rfl⟩ F.entry_list_pop (F.args_list_pop_2 _ _)
    (MeetsSeq.list_pop_at l its.toArray n i t k w (fitsIndex_both h1 h2) (by rw [List.size_toArray, ← hl]; exact hk) (by rw [← Array.getElem?_toList]; exact hw) (by rw [List.size_toArray]; omega)) ⟨e, ?_⟩
  refine ⟨y, _, I.lset (its' := its.eraseIdx k) hH e ?_ (r.eraseIdx k) ?_, rw', q⟩
  · show its.toArray.eraseIdxIfInBounds k = (its.eraseIdx k).toArray
    rw [List.eraseIdxIfInBounds_toArray]
  · have := len_erase xs k
    omega

def rReverse : V → List V → Hp → VK → Prop := fun x vs H Q => ∃ l xs, x = .ref l ∧ vs = [] ∧ H l = some (.lst xs) ∧ Q .non (upd H l (.lst xs.reverse))
theorem mt_reverse : MtM X "list.reverse" rReverse := by
  intro pins s σ H x vs v us Q I rx rv h
  obtain ⟨l, xs, rfl, rfl, hH, q⟩ := h
  cases rx
  have hus := rv.zero
  subst hus
  obtain ⟨z, its, n, r, hl, e⟩ := I.lstM hH
  refine call_meets F.slot_list_reverse ⟨_, e, rfl⟩ F.entry_list_reverse (F.args_list_reverse_1 _) (AutoSeq1.list_reverse_list_0 l its.toArray n (by rw [List.size_toArray]; omega)) ⟨e, ?_⟩
  refine ⟨.non, _, I.lset (its' := its.reverse) hH e (by simp) r.reverse ?_, rfl, q⟩
  rw [List.length_reverse]
  omega

def rClear : V → List V → Hp → VK → Prop := fun x vs H Q => ∃ l xs, x = .ref l ∧ vs = [] ∧ H l = some (.lst xs) ∧ Q .non (upd H l (.lst []))
theorem mt_clear : MtM X "list.clear" rClear := by
  intro pins s σ H x vs v us Q I rx rv h
  obtain ⟨l, xs, rfl, rfl, hH, q⟩ := h
  cases rx
  have hus := rv.zero
  subst hus
  obtain ⟨z, its, n, r, hl, e⟩ := I.lstM hH
  refine call_meets F.slot_list_clear ⟨_, e, rfl⟩ F.entry_list_clear (F.args_list_clear_1 _) (AutoSeq1.list_clear_list_0 l its.toArray n (by rw [List.size_toArray]; omega)) ⟨e, ?_⟩
  exact ⟨.non, _, I.lset (its' := []) (ys := []) hH e rfl .nil (Nat.zero_le _), rfl, q⟩

/-! ### list + list, list += list, list * int -/
def rCat : R2 := fun x y H Q => ∃ l b xs zs, x = .ref l ∧ y = .ref b ∧ H l = some (.lst xs) ∧ H b = some (.lst zs) ∧ xs.length + zs.length ≤ sizeLine ∧ ∀ p, H p = none → Q (.ref p) (upd H p (.lst (xs ++ zs)))
theorem op_cat : OpR X (binaryOp .Add) rCat := by
  intro pins s σ H x y v u Q I rx ry h
  obtain ⟨l, b, xs, zs, rfl, rfl, hH, hB, hz, q⟩ := h
  cases rx
  cases ry
  obtain ⟨z, its, n, r, hl, e⟩ := I.lstM hH
  obtain ⟨z2, its2, n2, r2, hl2, e2⟩ := I.lstM hB
  refine PySem.P.add_list e e2 ?_ (by rw [List.size_toArray, List.size_toArray]; omega)
  have ea : its.toArray ++ its2.toArray = (its ++ its2).toArray := by simp
  rw [ea]
  exact ⟨.ref _, _, I.lnew (t' := s.toks) (r.append r2) (by rw [List.length_append]; omega), rfl, q _ I.fresh⟩
/-- a list times an int (a negative one is nothing) -/
def rRep : R2 := fun x y H Q => ∃ l k xs, x = .ref l ∧ y = .int k ∧ H l = some (.lst xs) ∧ -(2 ^ 63) ≤ k ∧ k < 2 ^ 63 ∧ xs.length * k.toNat ≤ sizeLine ∧
  ∀ p, H p = none → Q (.ref p) (upd H p (.lst (List.replicate k.toNat xs).flatten))
theorem len_rep {α : Type} (xs : List α) (k : Nat) : (List.replicate k xs).flatten.length = k * xs.length := by
  induction k with
  | zero => simp
  | succ k ih => rw [List.replicate_succ, List.flatten_cons, List.length_append, ih, Nat.succ_mul, Nat.add_comm]
theorem op_rep : OpR X (binaryOp .Mult) rRep := by
  intro pins s σ H x y v u Q I rx ry h
  obtain ⟨l, k, xs, rfl, rfl, hH, h1, h2, hz, q⟩ := h
  cases rx
  obtain ⟨t, rfl⟩ := ry
  obtain ⟨z, its, n, r, hl, e⟩ := I.lstM hH
  have hlen : its.toArray.size * k.toNat ≤ sizeLine := by rw [List.size_toArray, ← hl]; exact hz
  have hcap : ¬ its.toArray.size * k.toNat > (2 ^ 63 - 1) / 8 := by
    have : (sizeLine : Nat) ≤ (2 ^ 63 - 1) / 8 := by decide
    omega
  have hfit : ¬ (!Builtin.List.listFitsIndex k) = true := by
    rw [fitsIndex_both h1 h2]
    exact Bool.false_ne_true
  have hlong : ¬ Builtin.List.listTooLong (its.toArray.size * k.toNat) = true := by
    rw [notLongL hlen]
    exact Bool.false_ne_true
  have hnew : List.foldl (fun x1 x2 => x1 ++ x2) #[] (List.replicate (if its.toArray.isEmpty = true then 0 else k.toNat) its.toArray) = (List.replicate k.toNat its).flatten.toArray := by
    have f0 : ∀ m : Nat, List.foldl (fun x1 x2 => x1 ++ x2) #[] (List.replicate m its.toArray) = (List.replicate m its).flatten.toArray := fun m => by
      have := foldl_rep its m []
      rw [List.nil_append] at this
      exact this
    rw [f0]
    cases its with
    | nil => simp
    | cons a r' => rw [if_neg (by simp)]
  refine wpAny_binaryOp_repeat_ref (T := "list") (U := "int") (by decide) ⟨_, e, rfl⟩ (fun s' => typeIs_int s' k t) noFill_list_mul F.fills_int_mul F.slot_int_rmul repeat_list F.slot_int_index.lookup
    (call_meets F.slot_int_rmul (typeIs_int s k t) F.entry_int_rmul (F.args_int_rmul_2 _ _) (int___rmul___int_list k t l its.toArray n)
      ⟨e, rfl, ⟨_, e, rfl⟩, call_meets F.slot_list_mul ⟨_, e, rfl⟩ F.entry_list_mul (F.args_list_mul_2 _ _) (AutoListH.list___mul___list_int_3 l its.toArray n k t hfit hcap hlong) ⟨e, ?_⟩⟩)
  rw [hnew]
  exact ⟨.ref _, _, I.lnew (t' := s.toks) (r.rep k.toNat) (by rw [len_rep, Nat.mul_comm]; exact hz), rfl, q _ I.fresh⟩

/-! ### del xs[i] -/
theorem del_list {pins : List (Addr × Obj)} {s : Shared} {σ : St} {H : Hp} {l : Addr} {xs : List V} {i : Int} {t : Tok} {k : Nat} {Q : Unit → Shared → Prop} (I : Inv X pins σ H s) (hH : H l = some (.lst xs))
    (h1 : -(2 ^ 63) ≤ i) (h2 : i < 2 ^ 63) (hk : seqIndex? i xs.length = some k) (h : ∀ s', Inv X pins σ (upd H l (.lst (xs.eraseIdx k))) s' → Q () s') :
    wpAny (model X.prog X.w) X.A (delItem (.ref l) (.int i t)) Q X.xe s := by
  obtain ⟨z, its, n, r, hl, e⟩ := I.lstM hH
  refine PySem.P.delItem_list (k := k) e (fitsIndex_both h1 h2) (by rw [List.size_toArray, ← hl]; exact hk) (h _ ?_) (by rw [List.size_toArray]; omega)
  refine I.lset (its' := its.eraseIdx k) (t' := s.toks) hH e ?_ (r.eraseIdx k) ?_
  · show its.toArray.eraseIdxIfInBounds k = (its.eraseIdx k).toArray
    rw [List.eraseIdxIfInBounds_toArray]
  · have := len_erase xs k
    omega
end

/-! ### xs[a:b] = ys -/
section
variable {prog : Program} {w : World} {A : Around} {E : Value → Shared → Prop} {s : Shared}
theorem splice_eq (its its2 : List Value) (a c : Nat) : its.toArray.extract 0 a ++ its2.toArray ++ its.toArray.extract c its.toArray.size = (its.take a ++ its2 ++ its.drop c).toArray := by
  apply Array.toList_inj.mp
  first
    | (simp
       exact List.take_of_length_le (by simp))
    | simp [List.take_of_length_le]
    | simp
theorem bounds_run {a c n : Nat} (hac : a ≤ c) (hc : c ≤ n) : sliceBounds (some (a : Int)) (some (c : Int)) none n = ((a : Int), (c : Int), 1) := by
  simp only [sliceBounds, Option.getD_none]
  have h1 : ¬ ((a : Int) < 0) := by omega
  have h2 : ¬ ((c : Int) < 0) := by omega
  simp only [h1, h2, if_false, show (1 : Int) > 0 by decide, if_true]
  congr 1
  · omega
  · congr 1; omega
set_option maxRecDepth 100000 in
/-- list.__setitem__ with a slice of step one and another list -/
theorem setItem_slice {l b sl : Addr} {items new : Array Value} {n n2 : Nat} {vl vu : Value} {a c : Nat} {Q : Unit → Shared → Prop}
    (e : s.heap.get? l = some { cls := .type "list", data := .seq items n }) (e2 : s.heap.get? b = some { cls := .type "list", data := .seq new n2 }) (hne : l ≠ b)
    (hs : s.heap.IsSliceOf sl vl vu .none) (pl : IsPart vl (some (a : Int))) (pu : IsPart vu (some (c : Int))) (hac : a ≤ c) (hc : c ≤ items.size)
    (hsz : items.size + new.size ≤ sizeLine) (h : Q () { s with heap := s.heap.update l (Obj.mapSeq fun xs => xs.extract 0 a ++ new ++ xs.extract c xs.size) }) :
    wpAny (model prog w) A (setItem (.ref l) (.ref sl) (.ref b)) Q E s := by
  have hl : s.heap.IsList l items := PySem.IsL.isList e
  have hb : s.heap.IsList b new := PySem.IsL.isList e2
  obtain ⟨os, hos, hcs, hds⟩ := id hs
  have hTs : s.TypeIs (.ref sl) "slice" := ⟨os, hos, hcs⟩
  have hstep : ¬ ((rawPart none == rawInt 0) = true) := Bool.false_ne_true
  have hsame : Builtin.List.listSameRef (.ref l) (.ref b) = false := by
    unfold Builtin.List.listSameRef
    exact beq_eq_false_iff_ne.mpr hne
  have hmax : (max (a : Int) (c : Int)).toNat = c := by omega
  have hz' : ((fun xs : Array Value => xs.extract 0 a ++ new ++ xs.extract c xs.size) items).size ≤ sizeLine + 1 := by
    simp only [Array.size_append, Array.size_extract]
    omega
  unfold setItem
  try with_reducible refine wpAny_holding ?_
  first | refine wpAny_bind (wpAny_pure ?_) | skip
  refine wpAny_bind (wpAny_sequenceKey hl.typeIs (by decide) ?_)
  refine wpAny_bind (wpAny_callSpecial?_slot (name := Str.ofString "__setitem__") hl.typeIs slot_list_setitem
    (wpAny_call_entry slot_list_setitem hl.typeIs entry_list_setitem ?_ (args_list_setitem _ _ _)))
  show wpAny _ _ (Builtin.List.listSubscript? (.ref sl) >>= _) _ _ s
  refine wpAny_bind ?_
  unfold Builtin.List.listSubscript?
  refine wpAny_bind (wpAny_specialOf hTs slice_no_index ?_)
  simp only [Option.isNone_none, if_true]
  refine wpAny_pure ?_
  show wpAny _ _ (typeOf (.ref sl) >>= _) _ _ s
  refine wpAny_bind (wpAny_typeOf hTs ?_)
  first
    | rw [if_neg (by decide)]
    | refine PySem.W.KFB.if_not (by decide) ?_
  rw [listSliceParts_eq]
  refine wpAny_bind (wpAny_bind (wpAny_field hos hds (x := .none) rfl (wpAny_bind (wpAny_listPart .none ?_))))
  rw [if_neg hstep]
  refine wpAny_bind (wpAny_field hos hds (x := vl) rfl (wpAny_bind (wpAny_listPart pl ?_)))
  refine wpAny_bind (wpAny_field hos hds (x := vu) rfl (wpAny_bind (wpAny_listPart pu (wpAny_pure ?_))))
  first
    | simp only [hsame, Bool.false_eq_true, if_false]
    | refine PySem.W.KFB.if_not hsame ?_
    | (dsimp only
       rw [if_neg (by rw [hsame]; exact Bool.false_ne_true)])
  refine wpAny_bind (m := Builtin.List.listAllItems (.ref b) "must assign iterable to extended slice") ?_
  unfold Builtin.List.listAllItems
  refine wpAny_bind (wpAny_typeOf hb.typeIs ?_)
  first
    | refine PySem.W.KFB.if_so (by decide) ?_
    | rw [if_pos (by decide)]
    | simp only [beq_self_eq_true, Bool.true_or, if_true]
  unfold Builtin.List.listItems
  refine wpAny_bind (wpAny_seqItems e2 rfl (wpAny_pure ?_))
  refine wpAny_bind (wpAny_bind (wpAny_seqItems e rfl (wpAny_pure ?_)))
  refine wpAny_bind (wpAny_of_eq ((sliceIndices_raw (some (a : Int)) (some (c : Int)) none items.size (by simp)).trans (congrArg (pure : Int × Int × Int → Sem (Int × Int × Int)) (bounds_run hac hc))) ?_)
  show wpAny _ _ (if ((1 : Int) == 1) = true then _ else _) _ _ s
  rw [if_pos (by decide)]
  refine wpAny_bind (wpAny_rule ?_)
  first
    | simp only [notLongL hsz, Bool.false_eq_true, if_false]
    | refine PySem.W.KFB.if_not (notLongL hsz) ?_
  first | refine wpAny_bind (wpAny_pure ?_) | skip
  show wpAny _ _ (updateSeq l (fun xs => xs.extract 0 ((a : Int)).toNat ++ new ++ xs.extract (max (a : Int) (c : Int)).toNat xs.size) >>= _) _ _ s
  rw [hmax, Int.toNat_natCast]
  refine wpAny_bind (wpAny_updateSeq (hz := Nat.le_trans (Nat.le_add_right _ _) hsz) (_hz' := hz') e rfl ?_)
  refine wpAny_bind (wpAny_letGo ?_)
  first
    | exact wpAny_bind (wpAny_pure (wpAny_pure ⟨.none, rfl, wpAny_pure h⟩))
    | exact wpAny_pure ⟨.none, rfl, wpAny_pure h⟩
end

section
variable {X : Cx}
/-- xs[a:c] = ys of another list, at the value level: sl is the slice object that was just made -/
theorem set_slice {pins : List (Addr × Obj)} {s : Shared} {σ : St} {H : Hp} {l b sl : Addr} {xs ys : List V} {a c : Int} {vl vu : Value} {Q : Unit → Shared → Prop} (I : Inv X pins σ H s)
    (hH : H l = some (.lst xs)) (hB : H b = some (.lst ys)) (hne : l ≠ b) (hs : s.heap.IsSliceOf sl vl vu .none) (ra : RelV (.int a) vl) (rc : RelV (.int c) vu) (h0 : 0 ≤ a) (hac : a ≤ c) (hc : c ≤ xs.length)
    (hz : xs.length + ys.length ≤ sizeLine) (h : ∀ s', Inv X pins σ (upd H l (.lst (xs.take a.toNat ++ ys ++ xs.drop c.toNat))) s' → Q () s') :
    wpAny (model X.prog X.w) X.A (setItem (.ref l) (.ref sl) (.ref b)) Q X.xe s := by
  obtain ⟨ta, rfl⟩ := ra
  obtain ⟨tc, rfl⟩ := rc
  obtain ⟨z, its, n, r, hl, e⟩ := I.lstM hH
  obtain ⟨z2, its2, n2, r2, hl2, e2⟩ := I.lstM hB
  obtain ⟨a', rfl⟩ := Int.eq_ofNat_of_zero_le h0
  obtain ⟨c', rfl⟩ := Int.eq_ofNat_of_zero_le (Int.le_trans h0 hac)
  simp only [Int.toNat_natCast] at h
  refine setItem_slice (a := a') (c := c') e e2 hne hs (.int _ _) (.int _ _) (by omega) (by rw [List.size_toArray]; omega) (by rw [List.size_toArray, List.size_toArray]; omega) (h _ ?_)
  refine I.lset (its' := its.take a' ++ its2 ++ its.drop c') (t' := s.toks) hH e ?_ (Vals.append (Vals.append (r.take _) r2) (r.drop _)) ?_
  · exact splice_eq its its2 a' c'
  · rw [List.length_append, List.length_append, List.length_take, List.length_drop]
    omega
end
end L2

namespace Att
open PySem PySem.W PySem.Calls PyProof.Rows

/-! ### the script -/
theorem ints_of_wellAll {P : Params} {h : Heap} : ∀ (ns : List Int) (vs : List Value), WellAll P h vs (ns.map WData.int) → IntsAre vs ns := by
  intro ns
  induction ns with
  | nil =>
    intro vs w
    rw [List.map_nil] at w
    cases w
    exact .nil
  | cons n ns ih =>
    intro vs w
    rw [List.map_cons] at w
    cases w with
    | cons a b =>
      cases a
      exact .cons _ _ (ih _ b)

theorem script_of {l : OpenLaw} {n : Nat} (hn : l.most = some n) {P : Params} {h : Heap} {args : List WData} {vals : List Value}
    (hpre : l.row.toRowW.claim.pre args = true) (hwl : WellAll P h vals args) :
    ∃ a vs ns, vals = [Value.ref a] ∧ args = [WData.list (ns.map WData.int)] ∧ h.get? a = some { cls := .type "list", data := .seq vs.toArray } ∧ IntsAre vs ns ∧ ns.length ≤ n := by
  have hsh : WShape.hasAll [] args [.list .int] = true := (pre_splitW hpre).1
  have hc : l.pre.holds [] { args := args } = true := (pre_splitW hpre).2
  obtain ⟨d, r, rfl, h1, h2⟩ := hasAllW_cons hsh
  obtain rfl := hasAllW_nil h2
  obtain ⟨xs, rfl, h3⟩ := hasW_list h1
  obtain ⟨ns, rfl⟩ := items_int h3
  have hlen : ns.length ≤ n := by
    unfold OpenLaw.pre at hc
    have h4 : (WTm.not (.lt (.lit (.int (n : Int))) (.len (.arg 0)))).holds [] { args := [.list (ns.map .int)] } = true := by
      have h4 := (holds_andW hc).1
      rw [hn] at h4
      exact h4
    have h5 := condW_of h4 (w_not (w_lt w_lit (w_len_list (w_arg rfl))))
    rw [List.length_map] at h5
    refine Nat.le_of_not_lt fun q => ?_
    have q' : (n : Int) < ((ns.length : Nat) : Int) := by omega
    first
      | (rw [decide_eq_true q'] at h5; exact absurd h5 (by decide))
      | (simp at h5; omega)
  cases hwl with
  | cons w1 w2 =>
    cases w2
    cases w1 with
    | list ho hall => exact ⟨_, _, ns, rfl, rfl, ho, ints_of_wellAll ns _ hall, hlen⟩

theorem post_true (l : OpenLaw) (args : List WData) : l.row.toRowW.claim.post args (.bool true) args = true :=
  postW_of (r := l.row.toRowW) (X := (true == true))
    (show WShape.has [] (.bool true) .bool = true by first | rfl | decide | simp [WShape.has, WShape.arms, WShape.armsAll])
    (show (WTm.eq .res (.lit (.bool true))).value [] { args := args, res := some (.bool true), after := args } = some (.bool (true == true)) from w_eq_bool (w_res rfl) w_lit) rfl

/-! ### the attachment: holds_open's last premise (the goal 'hc' behind k_head) from a wpAny of the law's body -/
theorem attach {l : OpenLaw} {n : Nat} {q : Program} {loose : List Str} {XP : (Str → Option Value) → Heap → Prop} {YP : World → Heap → Prop} {d : DefRec} {x : Str}
    (hn : l.most = some n) (hdf : d.params.defaults = [])
    (hbind : ∀ pm cd doc v : Value, bindArgs (docDef d.name d.params d.body d.scope pm cd doc) ⟨[v], []⟩ = pure [(x, v)])
    (hx : d.scope.names.lookup x = some .local ∨ d.scope.names.lookup x = some .cell)
    (hk : d.scope.kind = .function) (hco : d.scope.isCoroutine = false) (hgen : d.scope.isGenerator = false)
    (body : ∀ (w : World) (s₀ s₁ s : Shared) (mg mb : Str → Option Value) (fa : Addr) (o : Obj) (pm cd doc : Value) (a : Addr) (vs : List Value) (ns : List Int),
      Ground q loose [] XP w s₀ mg mb s₁.heap → YP w s₁.heap →
      s₁.heap.get? fa = some o → o.data = .func (docDef d.name d.params d.body d.scope pm cd doc) → s₁.heap.CodeRec cd d.name → mg d.name = some (.ref fa) →
      s₁.heap.get? a = some { cls := .type "list", data := .seq vs.toArray } → IntsAre vs ns → ns.length ≤ n →
      s.gens = #[] → s.os = s₁.os →
      Fr s₁.heap s₁.heap.objs.size s.heap (bindL (envOfC d.name d.scope s₁.heap.objs.size fa cd).kindOf [(x, .ref a)] fun _ => none) →
      Cl s₁.heap.objs.size (cellsFrom (s₁.heap.objs.size + 1) d.scope.names []) s.heap (bindC (envOfC d.name d.scope s₁.heap.objs.size fa cd).kindOf [(x, .ref a)] fun _ => none) →
      wpAny (model l.prog w) (callerA.deeper (envOfC d.name d.scope s₁.heap.objs.size fa cd)) (execs d.body (envOfC d.name d.scope s₁.heap.objs.size fa cd))
        (fun f s' => f = .ret (.bool true) ∧ OldK s₁.heap s'.heap ∧ s'.os = s₁.os ∧ AllBare s'.gens) (fun _ _ => False) s) :
    WalkO q loose XP YP l.row.toRowW d [] (fun f vs => PySem.call f vs) := by
  intro w s₀ s₁ mg mb G Y fa o pm cd doc dV kV ho hd hcd hD hmg hg args vals as hpre hlay hrd hwl hlo
  obtain rfl : dV = .none := Dflts.none hD hdf
  obtain rfl : kV = .none := Dflts.noKw hD
  obtain ⟨a, vs, ns, rfl, rfl, hobj, hints, hlen⟩ := script_of hn hpre hwl
  refine enter_call ?_
  refine call_cells_ret (o := o) (by rw [depth_caller]; decide) ho (fd_plain hd) G.T.nolimit hcd (hbind pm cd doc (.ref a)) (fun y hy => ?_) (fun h₁ tk F X => ?_) hco hgen hk
  · obtain rfl : y = (x, Value.ref a) := List.mem_singleton.mp hy
    rcases hx with e | e
    · exact .inl e
    · exact .inr ⟨e, cellsFrom_some _ _ _ (.inl e)⟩
  · refine wpAny_mono (body w s₀ s₁ { s₁ with heap := h₁, toks := tk } mg mb fa o pm cd doc a vs ns G Y ho (fd_plain hd) hcd hmg hobj hints hlen hg rfl F X) (fun f s' hq => ?_) (fun _ _ hq => hq)
    obtain ⟨rfl, h2, h3, h4⟩ := hq
    exact ⟨.inl ⟨.bool true, .bool true, [], rfl, fun _ => rfl, .bool true, post_true l _, fun _ => ⟨List.Pairwise.nil, fun _ hm => (nomatch hm)⟩⟩, h2, h3, h4⟩

/-- the same from a codeAny of the CALL (for a layer whose function contracts speak of calls) -/
theorem attach_call {l : OpenLaw} {n : Nat} {q : Program} {loose : List Str} {XP : (Str → Option Value) → Heap → Prop} {YP : World → Heap → Prop} {d : DefRec}
    (hn : l.most = some n) (hdf : d.params.defaults = [])
    (call : ∀ (w : World) (s₀ s₁ : Shared) (mg mb : Str → Option Value) (fa : Addr) (o : Obj) (pm cd doc : Value) (a : Addr) (vs : List Value) (ns : List Int),
      Ground q loose [] XP w s₀ mg mb s₁.heap → YP w s₁.heap →
      s₁.heap.get? fa = some o → o.data = .func (docDef d.name d.params d.body d.scope pm cd doc) → s₁.heap.CodeRec cd d.name → mg d.name = some (.ref fa) →
      s₁.heap.get? a = some { cls := .type "list", data := .seq vs.toArray } → IntsAre vs ns → ns.length ≤ n → s₁.gens = #[] →
      codeAny (model l.prog w) callerA (.call (.ref fa) ⟨[.ref a], []⟩) (fun r s' => r = .ok (.ret (.bool true)) ∧ OldK s₁.heap s'.heap ∧ s'.os = s₁.os ∧ AllBare s'.gens) s₁) :
    WalkO q loose XP YP l.row.toRowW d [] (fun f vs => PySem.call f vs) := by
  intro w s₀ s₁ mg mb G Y fa o pm cd doc dV kV ho hd hcd hD hmg hg args vals as hpre hlay hrd hwl hlo
  obtain rfl : dV = .none := Dflts.none hD hdf
  obtain rfl : kV = .none := Dflts.noKw hD
  obtain ⟨a, vs, ns, rfl, rfl, hobj, hints, hlen⟩ := script_of hn hpre hwl
  refine enter_call (codeAny_mono (call w s₀ s₁ mg mb fa o pm cd doc a vs ns G Y ho (fd_plain hd) hcd hmg hobj hints hlen hg) fun r s' hq => ?_)
  obtain ⟨rfl, h2, h3, h4⟩ := hq
  exact ⟨.inl ⟨.bool true, .bool true, [], rfl, fun _ => rfl, .bool true, post_true l _, fun _ => ⟨List.Pairwise.nil, fun _ hm => (nomatch hm)⟩⟩, h2, h3, h4⟩

/-- the same where the top left finished generators (o_head chose holds_openN): nothing may have changed at all and no generator may be left -/
theorem attachN {l : OpenLaw} {n : Nat} {q : Program} {loose : List Str} {XP : (Str → Option Value) → Heap → Prop} {YP : World → Heap → Prop} {d : DefRec} {x : Str}
    (hn : l.most = some n) (hdf : d.params.defaults = [])
    (hbind : ∀ pm cd doc v : Value, bindArgs (docDef d.name d.params d.body d.scope pm cd doc) ⟨[v], []⟩ = pure [(x, v)])
    (hx : d.scope.names.lookup x = some .local ∨ d.scope.names.lookup x = some .cell)
    (hk : d.scope.kind = .function) (hco : d.scope.isCoroutine = false) (hgen : d.scope.isGenerator = false)
    (body : ∀ (w : World) (s₀ s₁ s : Shared) (mg mb : Str → Option Value) (fa : Addr) (o : Obj) (pm cd doc : Value) (a : Addr) (vs : List Value) (ns : List Int),
      Ground q loose [] XP w s₀ mg mb s₁.heap → YP w s₁.heap →
      s₁.heap.get? fa = some o → o.data = .func (docDef d.name d.params d.body d.scope pm cd doc) → s₁.heap.CodeRec cd d.name → mg d.name = some (.ref fa) →
      s₁.heap.get? a = some { cls := .type "list", data := .seq vs.toArray } → IntsAre vs ns → ns.length ≤ n →
      s.gens = #[] → s.os = s₁.os →
      Fr s₁.heap s₁.heap.objs.size s.heap (bindL (envOfC d.name d.scope s₁.heap.objs.size fa cd).kindOf [(x, .ref a)] fun _ => none) →
      Cl s₁.heap.objs.size (cellsFrom (s₁.heap.objs.size + 1) d.scope.names []) s.heap (bindC (envOfC d.name d.scope s₁.heap.objs.size fa cd).kindOf [(x, .ref a)] fun _ => none) →
      wpAny (model l.prog w) (callerA.deeper (envOfC d.name d.scope s₁.heap.objs.size fa cd)) (execs d.body (envOfC d.name d.scope s₁.heap.objs.size fa cd))
        (fun f s' => f = .ret (.bool true) ∧ (∀ b o, s₁.heap.get? b = some o → s'.heap.get? b = some o) ∧ s'.os = s₁.os ∧ s'.gens = #[]) (fun _ _ => False) s) :
    WalkN q loose XP YP l.row.toRowW d [] (fun f vs => PySem.call f vs) := by
  intro w s₀ s₁ mg mb G Y fa o pm cd doc dV kV ho hd hcd hD hmg hg args vals as hpre hlay hrd hwl hlo
  obtain rfl : dV = .none := Dflts.none hD hdf
  obtain rfl : kV = .none := Dflts.noKw hD
  obtain ⟨a, vs, ns, rfl, rfl, hobj, hints, hlen⟩ := script_of hn hpre hwl
  refine enter_callW ?_
  refine call_cells_ret (o := o) (by rw [depth_caller]; decide) ho (fd_plain hd) G.T.nolimit hcd (hbind pm cd doc (.ref a)) (fun y hy => ?_) (fun h₁ tk F X => ?_) hco hgen hk
  · obtain rfl : y = (x, Value.ref a) := List.mem_singleton.mp hy
    rcases hx with e | e
    · exact .inl e
    · exact .inr ⟨e, cellsFrom_some _ _ _ (.inl e)⟩
  · refine wpAny_mono (body w s₀ s₁ { s₁ with heap := h₁, toks := tk } mg mb fa o pm cd doc a vs ns G Y ho (fd_plain hd) hcd hmg hobj hints hlen hg rfl F X) (fun f s' hq => ?_) (fun _ _ hq => hq)
    obtain ⟨rfl, h2, h3, h4⟩ := hq
    exact ⟨.inl ⟨.bool true, .bool true, [], rfl, fun _ => rfl, .bool true, post_true l _, fun _ => ⟨List.Pairwise.nil, fun _ hm => (nomatch hm)⟩⟩, h2, h3, h4⟩

/-! ### rules over ANY heap (no ledger) from facts about the written part K: the library's own take a ledger (News) for what they write -/
section
variable {prog : Program} {w : World} {A : Around} {E : Value → Shared → Prop} {s : Shared} {K : Frag}

/-- a def of the module, or a method (qual 'C.m'), entered: the frame is the next address; cells behind it -/
theorem call_fn {R : Result → Shared → Prop} {name qual : Str} {params : Arguments} {body : List Stmt} {scope : Scope} {dV kV doc pm cdv ct oc : Value} {an od : Option Addr} {osl : Array (Option Value)} {f : Addr} {args : Args} {binds : List (Str × Value)}
    (X : K.In s.heap) (hlim : s.heap.NoLimit) (ho : K.lookup f = some ⟨oc, od, .func (fnOf name qual params body scope dV kV doc pm an cdv ct), osl⟩) (hcd : codeIn K cdv qual = true) (hroom : A.depth < recursionLimit)
    (hbind : BindsTo s (fnOf name qual params body scope dV kV doc pm an cdv ct) args binds)
    (hkind : (binds.all fun y => scope.names.lookup y.1 == some .local || scope.names.lookup y.1 == some .cell) = true)
    (h : ∀ s₁, InCallC s s.heap.objs.size (bindL (envOfC qual scope s.heap.objs.size f cdv).kindOf binds fun _ => none) (cellsFrom (s.heap.objs.size + 1) scope.names [])
        (bindC (envOfC qual scope s.heap.objs.size f cdv).kindOf binds fun _ => none) s₁ →
      wpAny (model prog w) (A.deeper (envOfC qual scope s.heap.objs.size f cdv)) (execs body (envOfC qual scope s.heap.objs.size f cdv))
        (fun fl s' => R (.ok (.ret (match fl with | .ret v => v | _ => .none))) s')
        (fun e s' => wpAny (model prog w) (A.deeper (envOfC qual scope s.heap.objs.size f cdv)) (leaving (envOfC qual scope s.heap.objs.size f cdv) e) (fun _ s'' => R (.error e) s'') (fun e' s'' => R (.error e') s'') s') s₁)
    (hco : scope.isCoroutine = false) (hgen : scope.isGenerator = false) (hk : scope.kind = .function) : codeAny (model prog w) A (.call (.ref f) args) R s := by
  refine codeAny_call_function hroom (X _ _ ho) rfl hco hgen rfl (codeRec_of X hcd) (hbind _ _ _ _ ?_)
  refine wpAny_newFunctionEnv_cells hk (kindsX hkind _) fun env he s₁ x => ?_
  subst he
  exact ⟨hlim.keeps x.toInCall.keep, codeAny_func (h s₁ x)⟩

/-- C(..): dict at size, instance at size + 1, then __init__ -/
theorem make_obj {R : Result → Shared → Prop} {C fI : Addr} {rest : List Value} {kw : List (Str × Value)}
    (X : K.In s.heap) (hm : makesIn K C = true) (hi : findIn K (.ref C) "__init__" = some (some (.ref fI))) (hf : isFn K (.ref fI) = true)
    (h : codeAny (model prog w) (A.under (.builtin "type.__call__" ⟨.ref C :: rest, kw⟩)) (.call (.ref fI) ⟨.ref (s.heap.objs.size + 1) :: rest, kw⟩) (InitBack (s.heap.objs.size + 1) R)
      { s with heap := (s.heap.push emptyDict).push (instObj C s.heap.objs.size) }) : codeAny (model prog w) A (.call (.ref C) ⟨rest, kw⟩) R s := by
  obtain ⟨hh, g, d, t, os⟩ := s
  exact make_core (makes_of X hm) (looks_findIn X hi) (fun self => bind_fn X self (beq_iff_eq.mp hf)) (.inl rfl) h

/-- x.name where the instance's dict holds the name and the class does not -/
theorem get_field {x C : Addr} {ox : Obj} {es : List DictEntry} {n : Nat} {name : Str} {expr : Bool} {v : Value} {Q : Value → Shared → Prop}
    (X : K.In s.heap) (I : PySem.W.InstAt s.heap x ox C (some (dictOf es n))) (hg : plainGet K C name = true) (hh : hasDictIn K C = true) (ha : findIn K (.ref C) name = some none)
    (hl : getL name es = some (some v)) (hv : handedIn v = true) (h : Q v { s with toks := s.toks + 1 }) : wpAny (model prog w) A (getAttr (.ref x) name expr) Q E s :=
  get_value X I (plainGet_of hg).1 (findObj_own hh ha rfl hl) hv h

/-- x.m(..): the method found in the class -/
theorem get_method {x C f : Addr} {ox : Obj} {es : List DictEntry} {n : Nat} {name : Str} {pl : Sem Bool} {Q : Value × List Value → Shared → Prop}
    (X : K.In s.heap) (I : PySem.W.InstAt s.heap x ox C (some (dictOf es n))) (hg : plainGet K C name = true) (hf : findIn K (.ref C) name = some (some (.ref f))) (ht : isFn K (.ref f) = true)
    (hl : getL name es = some none) (h : Q (.ref f, [.ref x]) s) : wpAny (model prog w) A (getMethod (.ref x) name pl) Q E s :=
  method_fn X I (plainGet_of hg).1 (plainGet_of hg).2 hf (beq_iff_eq.mp ht) (by show (lookIn name (dictOf es n)).map _ = _; rw [lookIn_dict, hl]; rfl) h

/-! the whole heap as the ledger: makes every rule that writes through a ledger a rule over any heap -/
def noObjs (h : Heap) : Heap := { h with objs := #[] }
theorem noObjs_get (h : Heap) (b : Addr) : (noObjs h).get? b = none := by
  cases e : (noObjs h).get? b with
  | none => rfl
  | some o => exact absurd (Heap.lt_size e) (Nat.not_lt_zero _)
def ledger (h : Heap) (L d : Addr) : List (Addr × Obj) := (List.range h.objs.size).filterMap fun a => if a = L ∨ a = d then none else (h.get? a).map fun o => (a, o)
theorem mem_ledger {h : Heap} {L d a : Addr} {o : Obj} : (a, o) ∈ ledger h L d ↔ a ≠ L ∧ a ≠ d ∧ h.get? a = some o := by
  unfold ledger
  rw [List.mem_filterMap]
  constructor
  · rintro ⟨b, _, e⟩
    split at e
    · cases e
    · rename_i hb
      obtain ⟨o', ho, e'⟩ := Option.map_eq_some_iff.mp e
      cases e'
      exact ⟨fun q => hb (.inl q), fun q => hb (.inr q), ho⟩
  · rintro ⟨n1, n2, ho⟩
    refine ⟨a, List.mem_range.mpr (Heap.lt_size ho), ?_⟩
    rw [if_neg (show ¬ (a = L ∨ a = d) from fun q => q.elim n1 n2), ho] <;> rfl
theorem news_ledger {h : Heap} {L d : Addr} {od : Obj} (hne : d ≠ L) (ho : h.get? d = some od) : News (noObjs h) L h ([] ++ (d, od) :: ledger h L d) := by
  rintro ⟨a, o⟩ hp
  rcases List.mem_cons.mp hp with e | hp
  · cases e
    exact ⟨ho, hne, noObjs_get _ _⟩
  · obtain ⟨n1, n2, e⟩ := mem_ledger.mp hp
    exact ⟨e, n1, noObjs_get _ _⟩
theorem fr_all {h : Heap} {L : Addr} {m : Str → Option Value} (n : h.Ns L m) : Fr (noObjs h) L h m :=
  ⟨n, fun b o e => (by rw [noObjs_get] at e; cases e), Nat.zero_le _⟩
/-- Upd of the head entry (for append_K, setItem_K ..) -/
theorem upd_ledger {h : Heap} {L d : Addr} {o o' : Obj} : Upd d o o' ((d, o) :: ledger h L d) ((d, o') :: ledger h L d) :=
  .head fun ⟨_, _⟩ hp => (mem_ledger.mp hp).2.1

/-- x.name = v over any heap: L is any namespace of the heap (the frame's, say): its map stays, its object is not told; all else but the dict stays -/
theorem set_field {x C dx L : Addr} {ox : Obj} {m : Str → Option Value} {es es' : List DictEntry} {n n' : Nat} {name : Str} {v : Value} {Q : Unit → Shared → Prop}
    (X : K.In s.heap) (I : PySem.W.InstAt s.heap x ox C (some (dictOf es n))) (hd : ox.dict = some dx) (hL : s.heap.Ns L m) (hne : dx ≠ L)
    (hs : findIn K (.ref C) "__setattr__" = some (some (.builtin "object.__setattr__"))) (hp : plainOver K C = true) (ht : takerIn K C name = some none) (hh : hasDictIn K C = true) (hl : (getL name es).isSome = true)
    (e : (putL name (PyData.keyHash w.params name) (.str name (s.toks + 1)) v es, putN name es n) = (es', n')) (hz : es'.length ≤ 1000)
    (h : ∀ h' : Heap, h'.Ns L m → h'.get? dx = some (dictOf es' n') → (∀ b o, b ≠ dx → b ≠ L → s.heap.get? b = some o → h'.get? b = some o) → Q () { s with heap := h', toks := s.toks + 2 }) :
    wpAny (model prog w) A (setAttr (.ref x) name v) Q E s := by
  obtain ⟨e1, e2⟩ := Prod.mk.inj e
  have hdx : s.heap.get? dx = some (dictOf es n) := by
    have := I.dict
    rw [hd] at this
    exact this
  refine set_plain X I hs (osa_dict (s := { s with toks := s.toks + 1 }) (h₀ := noObjs s.heap) (L := L) (m := m) (od := dictOf es n) (od' := dictOf es' n') (es := es') (n := n') (pre := []) (post := ledger s.heap L dx)
    (fr_all hL) (news_ledger hne hdx) X I hd hp ht hh hl (fun _ q => nomatch q) (fun ⟨_, _⟩ q => (mem_ledger.mp q).2.1) (by rw [putName_dict, e1, e2]) rfl hz fun h' F' N' => ?_)
  exact h h' F'.ns (N'.get (List.Mem.head _)) fun b o n1 n2 ho => N'.get (List.Mem.tail _ (mem_ledger.mpr ⟨n2, n1, ho⟩))
end
end Att

namespace L2
open PySem PySem.Spec PyProof.Rows

theorem vals_ints : ∀ {vs : List Value} {ns : List Int}, IntsAre vs ns → Vals (ns.map V.int) vs
  | _, _, .nil => .nil
  | _, _, .cons n t h => .cons ⟨t, rfl⟩ (vals_ints h)

/-- nothing is tracked but the script, known to the object (or it is an object of the module) -/
def Only (H : Hp) : Prop := ∀ b, H b = none ∨ ∃ o xs, H b = some (.frz o (.lst xs))

/-- THE HEAD: the law's promise, at the heap behind the top. F, the promise of the law's def, may use that base is part of the heap (so K.In base, base.Ns mainGlobals mg stand in Mod) -/
theorem law_call {P : Program} {w : World} {K : PySem.W.Frag} {mg mb : Str → Option Value} {CX : CXT} {k : Nat} {fa a : Addr} {fd : FuncData} {x : Str} {sp : Sp} {s₁ : Shared} {vs : List Value} {ns : List Int}
    (KX : K.In s₁.heap) (hns : s₁.heap.Ns mainGlobals mg) (hb : s₁.heap.Ns builtinsNs mb) (hbb : ∀ x : Str, x ≠ "__name__" → mb x = bootBuiltins x) (hlim : s₁.heap.NoLimit) (hg : s₁.gens = #[])
    (ha : s₁.heap.get? a = some { cls := .type "list", data := .seq vs.toArray }) (hi : IntsAre vs ns) (hl : ns.length ≤ sizeLine) (hr : Room k callerA)
    (F : ∀ base : Heap, K.In base → base.Ns mainGlobals mg → FnOk P w K mg base CX k fa fd [x] sp) (hbind : ∀ (s : Shared) (u : Value), BindsTo s fd ⟨[u], []⟩ [(x, u)])
    (hsp : ∀ H : Hp, Only H → SqL K H a (ns.map V.int) → sp [.ref a] H (fun v _ => v = .bl true) fun _ _ _ => False)
    (hCX : ∀ H e s', CX [] H s₁ (fun _ _ _ => False) e s' → False) :
    codeAny (model P w) callerA (.call (.ref fa) ⟨[.ref a], []⟩) (fun r s' => r = .ok (.ret (.bool true)) ∧ OldK s₁.heap s'.heap ∧ s'.os = s₁.os ∧ AllBare s'.gens) s₁ := by
  have rv := vals_ints hi
  have lenV := hi.length
  -- from an abstract heap in which nothing but the script may be tracked
  have core : ∀ H : Hp, Only H → SqL K H a (ns.map V.int) → HOk P w H s₁.heap → (∀ b, H b ≠ none → b = a) → (H a ≠ none → K.lookup a = none) →
      codeAny (model P w) callerA (.call (.ref fa) ⟨[.ref a], []⟩) (fun r s' => r = .ok (.ret (.bool true)) ∧ OldK s₁.heap s'.heap ∧ s'.os = s₁.os ∧ AllBare s'.gens) s₁ := by
    intro H hO hS hok hA hK
    have base_of : ∀ {b : Addr} {o : Obj}, s₁.heap.get? b = some o → H b = none → (hidT s₁.heap H).get? b = some o := fun e n => hidT_get e n
    have noA : ∀ {b : Addr} {o : Obj} {es : Array DictEntry} {ep : Nat}, s₁.heap.get? b = some o → o.data = .dict es ep → H b = none := fun {b o es ep} e d => by
      cases q : H b with
      | none => rfl
      | some u =>
        have e' : b = a := hA b (by rw [q]; simp)
        subst e'
        rw [ha] at e; cases e
        have d' : Data.seq vs.toArray _ = Data.dict es ep := d
        cases d'
    have nsK : ∀ {b : Addr} {m : Str → Option Value}, s₁.heap.Ns b m → (hidT s₁.heap H).Ns b m := fun {b m} ⟨o, es, ep, e, d, r⟩ => ⟨o, es, ep, base_of e (noA e d), d, r⟩
    have hKb : K.In (hidT s₁.heap H) := fun b o e => base_of (KX b o e) (by
      cases q : H b with
      | none => rfl
      | some u =>
        have e' : b = a := hA b (by rw [q]; simp)
        subst e'
        rw [hK (by rw [q]; simp)] at e; cases e)
    have hM : Mod K mg (hidT s₁.heap H) := ⟨hKb, nsK hns, ⟨mb, nsK hb, hbb⟩, let ⟨mc, h1, h2⟩ := hlim; ⟨mc, nsK h1, h2⟩⟩
    have e0 : Env0 P w K mg (hidT s₁.heap H) callerA [] s₁ H := ⟨rfl, hM, fun b o e => of_hidT e, Nat.le_of_eq (hidT_size _ _), trivial, fun b hb => absurd (show b ∈ ([] : List Addr) from hb) (by simp), hok, .of_eq hg⟩
    refine codeAny_mono ((F _ hKb (nsK hns)).run callerA [] s₁ H ⟨[.ref a], []⟩ [.ref a] [.ref a] _ _ hr e0 (hbind s₁ (.ref a)) (.cons rfl .nil) (hsp H hO hS)) fun r s' h => ?_
    cases r with
    | error e => exact (hCX H e s' h).elim
    | ok fl =>
      cases fl with
      | next => exact False.elim h
      | brk => exact False.elim h
      | cont => exact False.elim h
      | ret u =>
        obtain ⟨v, H', os, bare, un, hok', r', q⟩ := h
        have q' : v = .bl true := q
        subst q'
        obtain rfl : u = Value.bool true := r'
        refine ⟨rfl, OldK.of_keep fun b o e => ?_, os, bare⟩
        cases q : H b with
        | none => exact un.keep b o e q (by intro z; exact absurd (show b ∈ ([] : List Addr) from z) (by simp)) (by simp)
        | some u =>
          rcases hO b with z | ⟨ob, xs, z⟩
          · rw [q] at z; cases z
          · have z2 := un.frzs b ob _ z
            obtain ⟨e1, _⟩ := hok b _ z
            obtain ⟨e2, _⟩ := hok' b _ z2
            rw [e] at e1; cases e1
            exact e2
  cases hk : K.lookup a with
  | some o =>
    -- the script is one of the module's own objects
    have e := KX a o hk
    rw [ha] at e
    cases e
    refine core (fun _ => none) (fun _ => .inl rfl) (.inr ⟨_, vs.toArray, _, hk, rfl, rfl, rfl, by rw [List.size_toArray, lenV]; exact hl, by simpa using rv⟩) (fun b u z => by have z' : (none : Option HO) = some u := z; cases z') (fun b z => absurd rfl z) fun z => absurd rfl z
  | none =>
    refine core (fun b => if b = a then some (.frz { cls := .type "list", data := .seq vs.toArray } (.lst (ns.map V.int))) else none) (fun b => ?_) (.inl (.inr ⟨{ cls := .type "list", data := .seq vs.toArray }, if_pos rfl⟩)) (fun b u z => ?_) (fun b z => ?_) fun _ => hk
    · by_cases hb : b = a
      · exact .inr ⟨_, _, if_pos hb⟩
      · exact .inl (if_neg hb)
    · by_cases hb : b = a
      · have z' := (if_pos hb).symm.trans z
        cases z'
        subst hb
        exact ⟨ha, by rw [List.length_map]; exact hl, vs, _, rv, ha⟩
      · have z' := (if_neg hb).symm.trans z
        cases z'
    · by_cases hb : b = a
      · exact hb
      · exact absurd (if_neg hb) z
end L2

namespace L2
open PySem PySem.Spec PyProof.Rows

abbrev KOf {K : PySem.W.Frag} {h : Heap} (_ : K.In h) : PySem.W.Frag := K

/-- the goal that k_head leaves (case hc), from the law's promise. F gives the function object fd (K's own) once, then the promise over every base -/
theorem walk_of {l : PySem.W.OpenLaw} {n k : Nat} {q : Program} {loose : List Str} {XP : (Str → Option Value) → Heap → Prop} {YP : World → Heap → Prop} {d : DefRec} {K : Params → PySem.W.Frag} {CX : World → CXT} {sp : World → Sp} {x : Str}
    (hn : l.most = some n) (hn2 : n ≤ sizeLine) (hdf : d.params.defaults = []) (hr : Room k callerA)
    (hY : ∀ (w : World) (h : Heap), YP w h → (K w.params).In h)
    (F : ∀ (w : World) (mg : Str → Option Value) (fa : Addr) (h : Heap), (K w.params).In h → h.Ns mainGlobals mg → mg d.name = some (.ref fa) →
      ∃ fd : FuncData, (∀ (s : Shared) (u : Value), BindsTo s fd ⟨[u], []⟩ [(x, u)]) ∧
        ∀ base : Heap, (K w.params).In base → base.Ns mainGlobals mg → FnOk l.prog w (K w.params) mg base (CX w) k fa fd [x] (sp w))
    (hsp : ∀ (w : World) (H : Hp) (a : Addr) (ns : List Int), ns.length ≤ n → Only H → SqL (K w.params) H a (ns.map V.int) → sp w [.ref a] H (fun v _ => v = .bl true) fun _ _ _ => False)
    (hCX : ∀ (w : World) (H : Hp) (s : Shared) (e : Value) (s' : Shared), CX w [] H s (fun _ _ _ => False) e s' → False) :
    PySem.W.WalkO q loose XP YP l.row.toRowW d [] (fun f vs => PySem.call f vs) := by
  refine Att.attach_call hn hdf fun w s₀ s₁ mg mb fa o pm cd doc a vs ns G Y ho hd hcd hmg hobj hints hlen hg => ?_
  have KX := hY w _ Y
  obtain ⟨fd, hb, hF⟩ := F w mg fa _ KX G.T.g hmg
  exact law_call KX G.T.g G.T.b G.T.builtins G.T.nolimit hg hobj hints (Nat.le_trans hlen hn2) hr hF hb (fun H hO hS => hsp w H a ns hlen hO hS) fun H e s' => hCX w H s₁ e s'
/-- the same where the promise hangs on the written part alone: (sp := My.sp_law), no hole under a binder -/
theorem walk_ofK {l : PySem.W.OpenLaw} {n k : Nat} {q : Program} {loose : List Str} {XP : (Str → Option Value) → Heap → Prop} {YP : World → Heap → Prop} {d : DefRec} {K : Params → PySem.W.Frag} {CX : CXT} {sp : PySem.W.Frag → Sp} {x : Str}
    (hn : l.most = some n) (hn2 : n ≤ sizeLine) (hdf : d.params.defaults = []) (hr : Room k callerA)
    (hY : ∀ (w : World) (h : Heap), YP w h → (K w.params).In h)
    (F : ∀ (w : World) (mg : Str → Option Value) (fa : Addr) (h : Heap), (K w.params).In h → h.Ns mainGlobals mg → mg d.name = some (.ref fa) →
      ∃ fd : FuncData, (∀ (s : Shared) (u : Value), BindsTo s fd ⟨[u], []⟩ [(x, u)]) ∧
        ∀ base : Heap, (K w.params).In base → base.Ns mainGlobals mg → FnOk l.prog w (K w.params) mg base CX k fa fd [x] (sp (K w.params)))
    (hsp : ∀ (K : PySem.W.Frag) (H : Hp) (a : Addr) (ns : List Int), ns.length ≤ n → Only H → SqL K H a (ns.map V.int) → sp K [.ref a] H (fun v _ => v = .bl true) fun _ _ _ => False)
    (hCX : ∀ (H : Hp) (s : Shared) (e : Value) (s' : Shared), CX [] H s (fun _ _ _ => False) e s' → False) :
    PySem.W.WalkO q loose XP YP l.row.toRowW d [] (fun f vs => PySem.call f vs) :=
  walk_of (K := K) (CX := fun _ => CX) (sp := fun w => sp (K w.params)) hn hn2 hdf hr hY F (fun w H a ns h1 h2 h3 => hsp (K w.params) H a ns h1 h2 h3) fun _ H s e s' => hCX H s e s'
end L2

/- THE LAST THEOREM (shape; LID, My.* are yours):
   My.Adr: a structure of the addresses that your layer names (classes, functions); My.Txt K t: a structure (Prop) of the equations over K;
   My.txt_mk : {K} {implicit addresses ..} (e1 : nsIn K mainGlobals "law" = some (some (.ref f))) (e2 : K.lookup f = some ⟨oc, od, .func (fnOf "law" "law" params body scope dV kV doc pm an cdv ct), sl⟩) (e3 : codeIn K cdv "law" = true) .. : ∃ t, My.Txt K t

set_option maxRecDepth 100000 in
set_option maxHeartbeats 0 in
theorem PySem.Challenge.cw_LID_holds : PySem.Challenge.rw_LID.Holds := by
  w_on; o_law; k_head; (case hw => w_witness2)
  k_fill
  refine L2.walk_of (l := PySem.Challenge.rw_LID) (n := 63) (k := 40) (x := "script") (CX := fun w => ..) (sp := fun _ => My.sp_law) rfl (by decide) rfl ⟨rfl, by decide, by decide⟩ (fun w h Y => PySem.W.kIn_of Y) ?F ?S ?C
  case F =>
    intro w mg fa h KX G hmg
    have T : ∃ t, My.Txt (L2.KOf KX) t := by
      dsimp only [L2.KOf]                          -- K must stand as «<heap const> w.params» for k_is
      refine' My.txt_mk ?e1 ?e2 ?e3 ..
      (case e1 => PySem.W.k_is)                    -- in the order: a name -> its address -> its object -> its parts
      (case e2 => PySem.W.k_is)
      ..
    obtain ⟨t, T⟩ := T
    have e0 := hmg.symm.trans (PySem.W.mg_of KX G T.law)
    cases e0                                       -- fa is the law's own address
    exact ⟨_, fun s u => .of_eq rfl, fun base kb nb => My.law_fn T kb nb⟩     -- if «.of_eq rfl» comes too early: refine' ⟨_, ?b, fun base kb nb => My.law_fn T kb nb⟩; exact fun s u => .of_eq rfl
  case S => exact fun w H a ns hl hO hS => ..
  case C => exact ..
(the tactic k_is has no namespace: write k_is) -/

/-! SHORT WORDS over the layer: a def of the text, its body, what a loop and a test want. -/
namespace L2
open PySem PySem.Spec PyProof.Rows

/-! ### the text by places -/
/-- the j-th statement of a class's body -/
def inClass (s : Stmt) (j : Nat) : Stmt := match s with
  | .ClassDef _ _ _ body _ _ _ _ _ _ _ => body.getD j (.Pass ⟨0, 0, 0, 0⟩)
  | _ => .Pass ⟨0, 0, 0, 0⟩
def defArgs (s : Stmt) : Arguments := match s with
  | .FunctionDef _ a _ _ _ _ _ _ _ _ => a
  | _ => { posonlyargs := [], args := [], vararg := none, kwonlyargs := [], kw_defaults := [], kwarg := none, defaults := [] }
def defBody (s : Stmt) : List Stmt := match s with
  | .FunctionDef _ _ b _ _ _ _ _ _ _ => b
  | _ => []
def defScope (s : Stmt) : Scope := match s with
  | .FunctionDef _ _ _ _ _ _ sc _ _ _ => sc
  | _ => { kind := .function, names := [], isGenerator := false, isCoroutine := false }

/-! ### no exception leaves a def -/
abbrev CX0 : CXT := fun _ _ _ _ _ _ => False
abbrev E0 : XK := fun _ _ _ => False
theorem pass0 {X : Cx} : Passes CX0 X E0 := fun _ _ _ _ _ _ _ h => h.elim

/-! ### a def (or method) of the text as it stands behind the top -/
structure Fun (K : PySem.W.Frag) (x qual : Str) (st : Stmt) (f : Addr) (fd : FuncData) : Prop where
  ex : ∃ (oc : Value) (od : Option Addr) (kV doc pm : Value) (an : Option Addr) (cdv ct : Value) (osl : Array (Option Value)),
    fd = PySem.W.fnOf x qual (defArgs st) (defBody st) (defScope st) .none kV doc pm an cdv ct ∧ K.lookup f = some ⟨oc, od, .func fd, osl⟩ ∧ PySem.W.codeIn K cdv qual = true
  kp : PySem.W.keepIn K (.ref f) = true
section
variable {P : Program} {w : World} {K : PySem.W.Frag} {mg : Str → Option Value} {base : Heap}
/-- THE RULE for a def: its body as a term of rules, and the reading of that term -/
theorem Fun.ok {x qual : Str} {st : Stmt} {f : Addr} {fd : FuncData} {N ps : List Str} {k : Nat} {sp : Sp} (F : Fun K x qual st f fd) (S : FnScope N ps (defScope st)) (len : ∀ vs H Q E, sp vs H Q E → vs.length = ps.length)
    (hbody : ∀ (cdv : Value) (A : Around) (outer : List Env) (s : Shared) (H : Hp) (vs : List V) (Q : VK) (E : XK), Room k (A.deeper (envOfC qual (defScope st) s.heap.objs.size f cdv)) → sp vs H Q E →
      ∃ t, PSs (cxOf CX0 P w K mg base N qual (defScope st) f cdv A outer s H E).nox (defBody st) t ∧ t { nx := fun _ H' => Q .non H', rt := Q } (start N vs) H) : FnOk P w K mg base CX0 (k + 1) f fd ps sp := by
  obtain ⟨oc, od, kV, doc, pm, an, cdv, ct, osl, rfl, lk, hcd⟩ := F.ex
  refine fn_of lk hcd S len fun A outer s H vs Q E hr hsp => ?_
  obtain ⟨t, h, q⟩ := hbody cdv A outer s H vs Q E hr hsp
  exact ⟨t, h.nox, q⟩
/-- how its arguments bind (no defaults): h is «fun _ _ _ _ _ _ us hl => match us, hl with | [_, _], _ => rfl», one _ a parameter -/
theorem Fun.binds {x qual : Str} {st : Stmt} {f : Addr} {fd : FuncData} {ps : List Str} (F : Fun K x qual st f fd)
    (h : ∀ (kV doc pm : Value) (an : Option Addr) (cdv ct : Value) (us : List Value), us.length = ps.length → bindArgs (PySem.W.fnOf x qual (defArgs st) (defBody st) (defScope st) .none kV doc pm an cdv ct) ⟨us, []⟩ = pure (ps.zip us)) : Binds K fd ps [] := by
  obtain ⟨oc, od, kV, doc, pm, an, cdv, ct, osl, rfl, lk, hcd⟩ := F.ex
  exact .all (h kV doc pm an cdv ct)
theorem fun_mk {x qual : Str} {st : Stmt} {f : Addr} {oc : Value} {od an : Option Addr} {osl : Array (Option Value)} {kV doc pm cdv ct : Value} (l : K.lookup f = some ⟨oc, od, .func (PySem.W.fnOf x qual (defArgs st) (defBody st) (defScope st) .none kV doc pm an cdv ct), osl⟩)
    (c : PySem.W.codeIn K cdv qual = true) (k : PySem.W.keepIn K (.ref f) = true) : Fun K x qual st f (PySem.W.fnOf x qual (defArgs st) (defBody st) (defScope st) .none kV doc pm an cdv ct) := ⟨⟨oc, od, kV, doc, pm, an, cdv, ct, osl, rfl, l, c⟩, k⟩
end
theorem hu_of {A : Around} {k : Nat} (hr : Room k A) : A.units + 1 < cLine := Nat.lt_of_le_of_lt (Nat.add_le_add_left (by decide : 1 ≤ 64) _) hr.units
theorem small1000 {n : Nat} (h : n ≤ 1000) : n < sizeLine := Nat.lt_of_le_of_lt h (by decide)

/-! ### expressions in short: the name that stands in the i-th slot -/
section
variable {X : Cx}
theorem pv (i : Nat) {x : Str} {pos : Pos} (hN : X.N[i]? = some x := by rfl) (hv : Vis X.env.scope x := by first | exact Or.inl rfl | exact Or.inr (Or.inl rfl) | exact Or.inr (Or.inr rfl)) (hd : (x == ("__debug__" : Str)) = false := by decide)
    (hcd : (x == ("__classdict__" : Str)) = false := by decide) : PE X (.Name x pos) (tVar i) := pe_var hN hv hd hcd
end

/-! ### tests -/
theorem iteF {A B : Prop} (h : B) : if false = true then A else B := by
  rw [if_neg Bool.false_ne_true]
  exact h
theorem iteT {A B : Prop} (h : A) : if true = true then A else B := by
  rw [if_pos rfl]
  exact h
theorem ite2 {c A B : Prop} [Decidable c] (h1 : c → A) (h2 : ¬ c → B) : if c then A else B := by
  by_cases h : c
  · rw [if_pos h]
    exact h1 h
  · rw [if_neg h]
    exact h2 h
theorem iteNS {c A B : Prop} [Decidable c] (hc : c) (h : B) : if (!decide c) = true then A else B := by
  rw [decide_eq_true hc]
  exact iteF h

/-! ### heaps -/
/-- all that was tracked is as it was -/
def Same (H H' : Hp) : Prop := ∀ b o, H b = some o → H' b = some o
theorem Same.refl (H : Hp) : Same H H := fun _ _ h => h
theorem Same.trans {H H1 H2 : Hp} (a : Same H H1) (b : Same H1 H2) : Same H H2 := fun c o h => b c o (a c o h)
theorem Same.free {H H' : Hp} (e : Same H H') {l : Addr} (h : H' l = Option.none) : H l = Option.none := by
  cases q : H l with
  | none => rfl
  | some o =>
    rw [e l o q] at h
    cases h
theorem Same.seq {K : PySem.W.Frag} {H H' : Hp} {a : Addr} {xs : List V} (e : Same H H') (h : SqL K H a xs) : SqL K H' a xs := by
  rcases h with (h | ⟨o, h⟩) | h
  · exact .inl (.inl (e _ _ h))
  · exact .inl (.inr ⟨o, e _ _ h⟩)
  · exact .inr h

end L2
namespace L2
open PySem PySem.Spec PyProof.Rows

/-! ### the closure of a block -/
def closL (cells : List (Str × Addr)) : List (Str × NameKind) → List (Str × Addr) → List (Str × Addr)
  | [], acc => acc
  | (n, k) :: r, acc => if k == .free then closL cells r ((n, (cells.lookup n).getD 0) :: acc) else closL cells r acc
theorem closureFor_eq {env : Env} {scope : Scope} (h : ∀ n, (n, NameKind.free) ∈ scope.names → ∃ c, env.cells.lookup n = some c) :
    closureFor scope env = pure (closL env.cells scope.names []) := by
  have key : ∀ (names : List (Str × NameKind)) (acc : List (Str × Addr)), (∀ n, (n, NameKind.free) ∈ names → ∃ c, env.cells.lookup n = some c) →
      (forIn (m := Sem) names acc fun x r => match x with | (name, kind) => if (kind == NameKind.free) = true then (do let a ← cellOf env name; pure (ForInStep.yield ((name, a) :: r))) else pure (ForInStep.yield r)) = pure (closL env.cells names acc) := by
    intro names
    induction names with
    | nil => intro acc _; rfl
    | cons x r ih =>
      intro acc hx
      obtain ⟨n, k⟩ := x
      rw [List.forIn_cons]
      unfold closL
      by_cases hk : k = .free
      · subst hk
        obtain ⟨c, hc⟩ := hx n List.mem_cons_self
        simp only [beq_self_eq_true, if_true]
        have e : cellOf env n = pure c := by unfold cellOf; rw [hc]
        rw [e, hc]
        exact ih _ fun m hm => hx m (List.mem_cons_of_mem _ hm)
      · have hb : (k == NameKind.free) = false := by simpa using hk
        simp only [hb, Bool.false_eq_true, if_false]
        exact ih _ fun m hm => hx m (List.mem_cons_of_mem _ hm)
  unfold closureFor
  have := key scope.names [] h
  show ((forIn (m := Sem) scope.names [] fun x r => match x with | (name, kind) => if (kind == NameKind.free) = true then (do let a ← cellOf env name; pure (ForInStep.yield ((name, a) :: r))) else pure (ForInStep.yield r)) >>= fun cs => pure cs) = _
  rw [this]
  rfl
theorem cellsFrom_app : ∀ (names : List (Str × NameKind)) (n : Nat) (acc : List (Str × Addr)), cellsFrom n names acc = cellsFrom n names [] ++ acc
  | [], _, _ => rfl
  | (name, kind) :: r, n, acc => by
    unfold cellsFrom
    split
    · rw [cellsFrom_app r (n + 1) ((name, n) :: acc), cellsFrom_app r (n + 1) [(name, n)], List.append_assoc]; rfl
    · exact cellsFrom_app r n acc
/-- what the closure holds -/
theorem closL_lookup {cells : List (Str × Addr)} : ∀ (names : List (Str × NameKind)) (acc : List (Str × Addr)) (x : Str) (c : Addr), (closL cells names acc).lookup x = some c →
    (acc.lookup x = some c) ∨ ((x, NameKind.free) ∈ names ∧ c = (cells.lookup x).getD 0)
  | [], acc, x, c, h => .inl h
  | (n, k) :: r, acc, x, c, h => by
    unfold closL at h
    split at h
    · rename_i hk
      have hk' : k = .free := by simpa using hk
      subst hk'
      rcases closL_lookup r _ x c h with z | ⟨z, e⟩
      · rw [List.lookup_cons] at z
        cases hb : x == n with
        | true => rw [hb] at z; cases z; rw [beq_iff_eq.mp hb]; exact .inr ⟨List.mem_cons_self, rfl⟩
        | false => rw [hb] at z; exact .inl z
      · exact .inr ⟨List.mem_cons_of_mem _ z, e⟩
    · rcases closL_lookup r _ x c h with z | ⟨z, e⟩
      · exact .inl z
      · exact .inr ⟨List.mem_cons_of_mem _ z, e⟩
theorem closL_acc {cells : List (Str × Addr)} : ∀ (names : List (Str × NameKind)) (acc : List (Str × Addr)) (x : Str), (∃ c, acc.lookup x = some c) → ∃ c, (closL cells names acc).lookup x = some c
  | [], acc, x, h => h
  | (n, k) :: r, acc, x, h => by
    unfold closL
    split
    · refine closL_acc r _ x ?_
      obtain ⟨c, h⟩ := h
      rw [List.lookup_cons]
      cases hb : x == n with
      | true => exact ⟨_, rfl⟩
      | false => exact ⟨c, h⟩
    · exact closL_acc r _ x h
theorem closL_has {cells : List (Str × Addr)} : ∀ (names : List (Str × NameKind)) (acc : List (Str × Addr)) (x : Str), (x, NameKind.free) ∈ names → ∃ c, (closL cells names acc).lookup x = some c
  | [], acc, x, h => by simp at h
  | (n, k) :: r, acc, x, h => by
    unfold closL
    rcases List.mem_cons.mp h with e | h
    · cases e
      simp only [beq_self_eq_true, if_true]
      exact closL_acc r _ _ ⟨(cells.lookup n).getD 0, by rw [List.lookup_cons]; simp⟩
    · split
      · exact closL_has r _ x h
      · exact closL_has r _ x h
theorem cellsFrom_mem : ∀ (names : List (Str × NameKind)) (n : Nat) (acc : List (Str × Addr)) (x : Str) (c : Addr), (x, c) ∈ cellsFrom n names acc → (x, c) ∈ acc ∨ (x, NameKind.cell) ∈ names
  | [], _, _, _, _, h => .inl h
  | (name, kind) :: r, n, acc, x, c, h => by
    unfold cellsFrom at h
    split at h
    · rename_i hk
      have hk' : kind = .cell := by simpa using hk
      subst hk'
      rcases cellsFrom_mem r _ _ x c h with z | z
      · rcases List.mem_cons.mp z with e | z
        · cases e; exact .inr List.mem_cons_self
        · exact .inl z
      · exact .inr (List.mem_cons_of_mem _ z)
    · rcases cellsFrom_mem r _ _ x c h with z | z
      · exact .inl z
      · exact .inr (List.mem_cons_of_mem _ z)

/-! ### the env of a comprehension's block -/
/-- N, sc0: the names and the scope around; N', ixs: the block's names, each its own (none) or one of those around; sc: the block's scope -/
structure CompScope (N : List Str) (sc0 : Scope) (N' : List Str) (ixs : List (Option Nat)) (sc : Scope) : Prop where
  kind : sc.kind = .function
  keys : (sc.names.map (·.1)).Nodup
  nd : N'.Nodup
  len : ixs.length = N'.length
  fv : ∀ (j i : Nat), ixs[j]? = some (some i) → ∃ x, N[i]? = some x ∧ N'[j]? = some x ∧ sc.names.lookup x = some .free
  free : ∀ p ∈ sc.names, p.2 = .free → sc0.names.lookup p.1 = some .cell ∨ sc0.names.lookup p.1 = some .free

theorem lookup_of_mem {α : Type} : ∀ {l : List (Str × α)}, (l.map (·.1)).Nodup → ∀ {x : Str} {k : α}, (x, k) ∈ l → l.lookup x = some k
  | (n, v) :: r, hn, x, k, h => by
    obtain ⟨h1, h2⟩ := List.nodup_cons.mp hn
    rw [List.lookup_cons]
    rcases List.mem_cons.mp h with e | hm
    · cases e; simp
    · have : (x == n) = false := by
        rw [beq_eq_false_iff_ne]
        intro e
        exact h1 (List.mem_map.mpr ⟨_, hm, e⟩)
      rw [this]
      exact lookup_of_mem h2 hm

def compEnv2 (scope : Scope) (L : Addr) (env : Env) : Env :=
  { scope := relabel scope env, locals := L, globals := env.globals, cells := cellsFrom (L + 1) scope.names (closL env.cells scope.names []), qual := env.qual, func := none, code := env.code, frame := env.frame, builtins := env.builtins }

theorem newEnv_comp {M : Model} {A : Around} {E : Value → Shared → Prop} {s : Shared} {scope : Scope} {globals : Addr} {cl : List (Str × Addr)} {qual : Str} {env : Env} {Q : Env → Shared → Prop}
    (hQ : ∀ h', h'.Ns s.heap.objs.size (fun _ => none) → (∀ b o, s.heap.get? b = some o → h'.get? b = some o) → (∀ x c, (x, c) ∈ cellsFrom (s.heap.objs.size + 1) scope.names [] → h'.IsCell c none ∧ s.heap.objs.size < c) →
      ((cellsFrom (s.heap.objs.size + 1) scope.names []).Pairwise fun x y => x.2 ≠ y.2) →
      Q { scope := scope, locals := s.heap.objs.size, globals := globals, cells := cellsFrom (s.heap.objs.size + 1) scope.names cl, qual := qual, func := none, code := env.code, frame := env.frame, builtins := env.builtins } { s with heap := h' }) :
    wpAny M A (newFunctionEnv scope globals cl [] qual none .none (some env)) Q E s := by
  simp only [newFunctionEnv, Option.isSome_some, if_true]
  refine wpAny_bind (wpAny_alloc ?_)
  refine wpAny_bind (wpAny_layCells _ (fun name kind cells => by cases hkc : kind == NameKind.cell <;> simp [hkc]) _ _ _ _ ?_)
  have ok := cellsFrom_ok scope.names (s.heap.push { cls := .type "dict", data := .dict #[] }) (s.heap.objs.size + 1) [] ⟨fun _ _ hm => (nomatch hm), List.Pairwise.nil⟩ (by rw [Heap.size_push]; exact Nat.le_refl _)
  rw [Heap.size_push] at ok
  rw [show ({ s with heap := s.heap.push { cls := .type "dict", data := .dict #[] } } : Shared).heap.objs.size = s.heap.objs.size + 1 from Heap.size_push ..]
  rw [List.forIn_nil]
  refine wpAny_bind (wpAny_pure (wpAny_pure ?_))
  exact hQ _ ((Heap.Ns.new s.heap (.type "dict")).keeps (pushCells_keeps _ _)) (fun b o e => pushCells_keeps _ _ b o (Heap.get?_push_of_some _ e)) (fun x c hm => ⟨(ok.empty x c hm).1, (ok.empty x c hm).2⟩) ok.apart

/-- the context of a comprehension's block, at its entry: s2, H2 just ahead of its env -/
def cxComp (X : Cx) (N' : List Str) (scope : Scope) (s2 : Shared) (H2 : Hp) (fp : List Addr) : Cx :=
  { X with N := N', s₀ := s2, H₀ := H2, env := compEnv2 scope s2.heap.objs.size X.env, outer := X.stack, stack := X.stack, ex := fp, fn := fun x => scope.names.lookup x == some .cell, pn := [], xe := fun _ _ => False }
theorem lookup_relabel {env : Env} : ∀ {names : List (Str × NameKind)} {x : Str} {k : NameKind},
    (names.map fun (n, k) => if (k == NameKind.free && env.scope.kind == .function && env.kindOf n == some .cell) then (n, NameKind.cell) else (n, k)).lookup x = some k →
    ∃ k0, names.lookup x = some k0 ∧ (k = k0 ∨ (k0 = .free ∧ k = .cell))
  | [], _, _, h => by simp at h
  | (n, k0) :: r, x, k, h => by
    have ih := @lookup_relabel env r x k
    have h' : List.lookup x ((if (k0 == NameKind.free && env.scope.kind == .function && env.kindOf n == some .cell) = true then (n, NameKind.cell) else (n, k0)) :: _) = some k := h
    rw [List.lookup_cons]
    by_cases hc : (k0 == NameKind.free && env.scope.kind == .function && env.kindOf n == some .cell) = true
    · rw [if_pos hc, List.lookup_cons] at h'
      cases hx : x == n with
      | true =>
        rw [hx] at h'; cases h'
        have : k0 = .free := by
          have z := hc
          rw [Bool.and_eq_true, Bool.and_eq_true] at z
          simpa using z.1.1
        exact ⟨k0, rfl, .inr ⟨this, rfl⟩⟩
      | false => rw [hx] at h'; exact ih h'
    · rw [if_neg hc, List.lookup_cons] at h'
      cases hx : x == n with
      | true => rw [hx] at h'; cases h'; exact ⟨k0, rfl, .inl rfl⟩
      | false => rw [hx] at h'; exact ih h'
theorem lookup_relabel_of {env : Env} : ∀ {names : List (Str × NameKind)} {x : Str}, names.lookup x = some .free →
    (names.map fun (n, k) => if (k == NameKind.free && env.scope.kind == .function && env.kindOf n == some .cell) then (n, NameKind.cell) else (n, k)).lookup x = some .cell ∨
    (names.map fun (n, k) => if (k == NameKind.free && env.scope.kind == .function && env.kindOf n == some .cell) then (n, NameKind.cell) else (n, k)).lookup x = some .free
  | [], _, h => by simp at h
  | (n, k0) :: r, x, h => by
    have ih := @lookup_relabel_of env r x
    show List.lookup x ((if (k0 == NameKind.free && env.scope.kind == .function && env.kindOf n == some .cell) = true then (n, NameKind.cell) else (n, k0)) :: _) = _ ∨ List.lookup x ((if (k0 == NameKind.free && env.scope.kind == .function && env.kindOf n == some .cell) = true then (n, NameKind.cell) else (n, k0)) :: _) = _
    rw [List.lookup_cons] at h
    cases hx : x == n with
    | true =>
      rw [hx] at h; cases h
      by_cases hc : (NameKind.free == NameKind.free && env.scope.kind == .function && env.kindOf n == some .cell) = true
      · rw [if_pos hc, List.lookup_cons, hx]; exact .inl rfl
      · rw [if_neg hc, List.lookup_cons, hx]; exact .inr rfl
    | false =>
      rw [hx] at h
      by_cases hc : (k0 == NameKind.free && env.scope.kind == .function && env.kindOf n == some .cell) = true
      · rw [if_pos hc, List.lookup_cons, hx]; exact ih h
      · rw [if_neg hc, List.lookup_cons, hx]; exact ih h
def pick (ixs : List (Option Nat)) (σ : St) : St := ixs.map fun o => o.bind fun i => (σ[i]?).join
section
variable {X : Cx} {pins : List (Addr × Obj)} {σ : St} {H : Hp} {s2 : Shared} {N' : List Str} {ixs : List (Option Nat)} {scope : Scope} {fp : List Addr} {h' : Heap}
theorem comp_free (I : Inv X pins σ H s2) (S : CompScope X.N X.env.scope N' ixs scope) {x : Str} (hx : (x, NameKind.free) ∈ scope.names) : ∃ c, X.env.cells.lookup x = some c :=
  I.ok.has x (S.free _ hx rfl)
theorem comp_cells (I : Inv X pins σ H s2) (S : CompScope X.N X.env.scope N' ixs scope) {n : Nat} {x : Str} {c : Addr} (h : (cellsFrom n scope.names (closL X.env.cells scope.names [])).lookup x = some c) :
    ((x, c) ∈ cellsFrom n scope.names [] ∧ (x, NameKind.cell) ∈ scope.names) ∨ ((x, NameKind.free) ∈ scope.names ∧ X.env.cells.lookup x = some c) := by
  rw [cellsFrom_app, List.lookup_append] at h
  cases e : (cellsFrom n scope.names []).lookup x with
  | some d =>
    rw [e] at h
    have z : d = c := by simpa using h
    subst z
    have m := PySem.mem_of_lookup e
    rcases cellsFrom_mem _ _ _ _ _ m with z | z
    · simp at z
    · exact .inl ⟨m, z⟩
  | none =>
    rw [e] at h
    have h' : (closL X.env.cells scope.names []).lookup x = some c := by simpa using h
    rcases closL_lookup _ _ _ _ h' with z | ⟨z, e2⟩
    · simp at z
    · obtain ⟨c0, h0⟩ := comp_free I S z
      rw [h0] at e2
      exact .inr ⟨z, by rw [h0, e2]; rfl⟩
theorem inv_comp (I : Inv X pins σ H s2) (S : CompScope X.N X.env.scope N' ixs scope) (hfp : ∀ b ∈ fp, FpOk X pins H b) (hfo : ∀ b ∈ fp, ∃ o, s2.heap.get? b = some o)
    (hn : h'.Ns s2.heap.objs.size (fun _ => none)) (hk : ∀ b o, s2.heap.get? b = some o → h'.get? b = some o)
    (hc : ∀ x c, (x, c) ∈ cellsFrom (s2.heap.objs.size + 1) scope.names [] → h'.IsCell c none ∧ s2.heap.objs.size < c) (hp : (cellsFrom (s2.heap.objs.size + 1) scope.names []).Pairwise fun x y => x.2 ≠ y.2) :
    Inv (cxComp X N' scope s2 H fp) [] (pick ixs σ) H { s2 with heap := h' } := by
  have old : ∀ {x : Str} {c : Addr}, X.env.cells.lookup x = some c → c < s2.heap.objs.size := fun {x c} e => let ⟨_, q⟩ := I.cell x c e; q.lt
  have cc : ∀ {x : Str} {c : Addr}, (cxComp X N' scope s2 H fp).env.cells.lookup x = some c → ((x, c) ∈ cellsFrom (s2.heap.objs.size + 1) scope.names [] ∧ (x, NameKind.cell) ∈ scope.names) ∨ ((x, NameKind.free) ∈ scope.names ∧ X.env.cells.lookup x = some c) :=
    fun {x c} e => comp_cells I S e
  have isc : ∀ {x : Str} {c : Addr}, (cxComp X N' scope s2 H fp).env.cells.lookup x = some c → ∃ v, h'.IsCell c v := fun {x c} e => by
    rcases cc e with ⟨m, _⟩ | ⟨_, e0⟩
    · exact ⟨_, (hc x c m).1⟩
    · obtain ⟨v, q⟩ := I.cell x c e0
      exact ⟨v, q.keeps hk⟩
  have flt : ∀ b ∈ fp, b < s2.heap.objs.size := fun b hb => let ⟨_, e⟩ := hfo b hb; Heap.lt_size e
  refine ⟨⟨I.ok.mod, S.kind, I.ok.glob, I.ok.blt, Nat.le_refl _, fun x y c e1 e2 => ?_, fun x hx => ?_, fun x c hx e => ?_, I.ok.hd, I.ok.frames, .inl rfl, fun b hb => ⟨Nat.ne_of_lt (flt b hb), fun x c e z => ?_⟩, I.bs, ?_, fun b o e hb => ?_, fun b hb hb2 => ?_, I.stack, I.stkFree⟩,
    rfl, I.bare, Un.kept hk, ⟨_, hn, fun j x v e1 e2 e3 => ?_⟩, fun x c e => isc e, I.hok.fresh (Nat.le_refl _), fun x c e => ?_, fun p hp => absurd (show p ∈ ([] : List (Addr × Obj)) from hp) (by simp), I.hok.kept hk, ?_⟩
  · rcases cc e1 with ⟨m1, _⟩ | ⟨_, o1⟩ <;> rcases cc e2 with ⟨m2, _⟩ | ⟨_, o2⟩
    · exact name_of_addr hp m1 m2
    · exact absurd (Nat.lt_trans (hc _ _ m1).2 (old o2)) (Nat.lt_irrefl _)
    · exact absurd (Nat.lt_trans (hc _ _ m2).2 (old o1)) (Nat.lt_irrefl _)
    · exact I.ok.inj x y c o1 o2
  · have hk0 : ∃ k0, scope.names.lookup x = some k0 ∧ (k0 = .cell ∨ k0 = .free) := by
      rcases hx with hx | hx
      · obtain ⟨k0, e, z⟩ := lookup_relabel (env := X.env) hx
        refine ⟨k0, e, ?_⟩
        rcases z with z | z
        · exact .inl z.symm
        · exact .inr z.1
      · obtain ⟨k0, e, z⟩ := lookup_relabel (env := X.env) hx
        refine ⟨k0, e, ?_⟩
        rcases z with z | z
        · exact .inr z.symm
        · exact .inr z.1
    obtain ⟨k0, e, z⟩ := hk0
    show ∃ c, (cellsFrom (s2.heap.objs.size + 1) scope.names (closL X.env.cells scope.names [])).lookup x = some c
    rw [cellsFrom_app, List.lookup_append]
    rcases z with rfl | rfl
    · obtain ⟨c, hc'⟩ := cell_has (n := s2.heap.objs.size + 1) e
      exact ⟨c, by rw [hc']; rfl⟩
    · cases q : (cellsFrom (s2.heap.objs.size + 1) scope.names []).lookup x with
      | some d => exact ⟨d, rfl⟩
      | none =>
        obtain ⟨c, hc'⟩ := closL_has (cells := X.env.cells) scope.names [] x (PySem.mem_of_lookup e)
        exact ⟨c, by rw [hc']; rfl⟩
  · have hx' : scope.names.lookup x = some .cell := by simpa [cxComp] using hx
    rcases cc e with ⟨m, _⟩ | ⟨m, _⟩
    · exact Nat.le_of_lt (hc _ _ m).2
    · rw [lookup_of_mem S.keys m] at hx'; cases hx'
  · rcases cc e with ⟨m, _⟩ | ⟨_, o1⟩
    · have := flt b hb
      rw [← z] at this
      exact absurd (Nat.lt_trans (hc _ _ m).2 this) (Nat.lt_irrefl _)
    · exact (hfp b hb).2.2.2.2.1 x c o1 z
  · exact Nat.le_trans I.ok.bsz I.sz
  · rcases (hfp b hb).2.2.2.1 with z | z
    · exact I.ok.noex b o e z
    · exact absurd (Nat.lt_of_lt_of_le (Heap.lt_size (I.ok.bs b o e).1) z) (Nat.lt_irrefl _)
  · have := I.stkSub b hb2
    rcases List.mem_cons.mp this with z | z
    · exact (hfp b hb).2.1 z
    · exact (hfp b hb).2.2.1 z
  · -- the names around
    have e2' : (ixs[j]?).bind (fun o => some (o.bind fun i => (σ[i]?).join)) = some (some v) := by
      have e2a : (ixs.map fun o => o.bind fun i => (σ[i]?).join)[j]? = some (some v) := e2
      rw [List.getElem?_map] at e2a
      cases q : ixs[j]? with
      | none => rw [q] at e2a; cases e2a
      | some o => rw [q] at e2a; exact e2a
    cases q : ixs[j]? with
    | none => rw [q] at e2'; cases e2'
    | some o =>
      rw [q] at e2'
      cases o with
      | none => simp at e2'
      | some i =>
        have e3' : (σ[i]?).join = some v := by simpa using e2'
        have e4 : σ[i]? = some (some v) := by
          cases q2 : σ[i]? with
          | none => rw [q2] at e3'; cases e3'
          | some z => rw [q2] at e3'; rw [show z = some v from e3']
        obtain ⟨y, hy1, hy2, hy3⟩ := S.fv j i q
        have exy : x = y := by
          have e1' : N'[j]? = some x := e1
          rw [hy2] at e1'; exact (Option.some.inj e1').symm
        subst exy
        obtain ⟨m, hm, hl⟩ := I.loc
        have hf := S.free _ (PySem.mem_of_lookup hy3) rfl
        obtain ⟨u, r, lk⟩ := hl i x v hy1 e4 (by rcases hf with z | z; exact .inr (.inl z); exact .inr (.inr z))
        refine ⟨u, r, .inr ⟨lookup_relabel_of hy3, ?_⟩⟩
        rcases lk with ⟨k, _⟩ | ⟨_, c, ec, ic⟩
        · have k' : X.env.scope.names.lookup x = some .local := k
          rcases hf with z | z <;> (rw [z] at k'; cases k')
        · refine ⟨c, ?_, ic.keeps hk⟩
          show (cellsFrom (s2.heap.objs.size + 1) scope.names (closL X.env.cells scope.names [])).lookup x = some c
          rw [cellsFrom_app, List.lookup_append]
          cases q3 : (cellsFrom (s2.heap.objs.size + 1) scope.names []).lookup x with
          | some d =>
            rcases cellsFrom_mem _ _ _ _ _ (PySem.mem_of_lookup q3) with z | z
            · simp at z
            · rw [lookup_of_mem S.keys z] at hy3; cases hy3
          | none =>
            obtain ⟨c', hc'⟩ := closL_has (cells := X.env.cells) scope.names [] x (PySem.mem_of_lookup hy3)
            rcases closL_lookup _ _ _ _ hc' with z | ⟨_, e5⟩
            · simp at z
            · rw [ec] at e5
              rw [hc', e5]; rfl
  · rcases cc e with ⟨m, _⟩ | ⟨_, o1⟩
    · exact I.hok.fresh (Nat.le_of_lt (hc _ _ m).2)
    · exact I.freeC x c o1
  · show (ixs.map _).length = N'.length
    rw [List.length_map, S.len]
end
end L2
namespace L2
open PySem PySem.Spec PyProof.Rows

/-! ### the tests of a comprehension -/
def PIfs (X : Cx) (ifs : List Expr) (t : TT) : Prop :=
  ∀ (pins : List (Addr × Obj)) (s : Shared) (σ : St) (H : Hp) (Q : Bool → Hp → Prop), Inv X pins σ H s → t σ H Q →
    wpAny (model X.prog X.w) X.A (forIn ifs true fun c r => if r = true then do let ok ← isTrue c X.env (eval c X.env); pure (ForInStep.yield ok) else pure (ForInStep.yield r)) (TP X pins σ Q) X.xe s
def tTrue : TT := fun _ H Q => Q true H
section
variable {X : Cx}
theorem pifs_nil : PIfs X [] tTrue := fun _ _ _ H _ I h => wpAny_tests_nil ⟨H, I, h⟩
theorem pifs_one {c : Expr} {t : TT} (h : PT X c t) : PIfs X [c] t := fun pins s σ H Q I hw => wpAny_tests_one (h pins s σ H Q I hw)
end

/-! ### a turn of a comprehension of a list -/
theorem codeAny_compLoop2 {prog : Program} {w : World} {A : Around} {R : Result → Shared → Prop} {s : Shared} {elt target iter : Expr} {ifs : List Expr} {scope : Scope} {pos : Pos} {it acc : Value} {env : Env} (I : Nat → Shared → Prop)
    (turn : ∀ n s, I n s → wpAny (model prog w) A (pyNext it) (fun r s1 => match r with
      | none => R (.ok .next) s1
      | some v => wpAny (model prog w) A (letOwnedTupleGo target it v) (fun _ s2 => wpAny (model prog w) A (assign target env v) (fun _ s3 =>
          wpAny (model prog w) A (forIn ifs true fun c r => if r = true then do let ok ← isTrue c env (eval c env); pure (ForInStep.yield ok) else pure (ForInStep.yield r)) (fun ok s4 =>
            if ok = true then wpAny (model prog w) A (eval elt env) (fun x s5 =>
              wpAny (model prog w) A (call (.builtin "list.append") [acc, x]) (fun _ s6 => ∃ m, m < n ∧ I m s6) (fun _ _ => False) s5) (fun _ _ => False) s4
            else ∃ m, m < n ∧ I m s4) (fun _ _ => False) s3) (fun _ _ => False) s2) (fun _ _ => False) s1) (fun _ _ => False) s)
    (n : Nat) (h : I n s) :
    codeAny (model prog w) A (.compLoop (.ListComp elt [⟨target, iter, ifs, 0⟩] scope pos) 0 it acc env) R s := by
  refine codeAny_loop rfl I (fun n s hI => ?_) n h
  show wpAny _ A ((compTurn (.ListComp elt [⟨target, iter, ifs, 0⟩] scope pos) 0 it acc env).onRaise (fun x => do noteFrame x env; theTreesLotGoes x)) _ _ s
  refine wpAny_noted (wpAny_noRaise ?_)
  rw [compTurn_list]
  refine wpAny_bind (wpAny_standAt (wpAny_bind (thn (turn n s hI) fun r s1 h1 => ?_)))
  cases r with
  | none => exact wpAny_pure h1
  | some v =>
    refine wpAny_bind (thn h1 fun _ s2 h2 => wpAny_bind (thn h2 fun _ s3 h3 => wpAny_bind (thn h3 fun ok s4 h4 => ?_)))
    cases ok with
    | false => exact wpAny_pure ⟨rfl, h4⟩
    | true => exact wpAny_bind (wpAny_bind (thn h4 fun x s5 h5 => wpAny_bind (thn h5 fun _ s6 h6 => wpAny_pure (wpAny_pure ⟨rfl, h6⟩))))

/-- the reading of a comprehension's block, its iterator J at hand, the list it fills at p -/
def CompW (J : It) (g : TG) (ti : TT) (te : TE) (τ0 : St) (Q : VK) (p : Addr) (H1 : Hp) : Prop :=
  ∃ W : Nat → Nat → List V → St → Hp → Prop, (∃ m, W 0 m [] τ0 (upd H1 p (.lst []))) ∧ ∀ i m ys τ H2, W i m ys τ H2 → H2 p = some (.lst ys) ∧
    ((J.stop i H2 ∧ Q (.ref p) H2) ∨ (J.go i H2 ∧ ∀ x H3, J.yld i H2 x H3 → g x τ H3 fun τ4 H4 => ti τ4 H4 fun b H5 =>
      if b = true then te τ4 H5 fun y H6 => H6 p = some (.lst ys) ∧ ys.length < sizeLine ∧ ∃ m', m' < m ∧ W (i + 1) m' (ys ++ [y]) τ4 (upd H6 p (.lst (ys ++ [y])))
      else ∃ m', m' < m ∧ W (i + 1) m' ys τ4 H5))
def tComp (wi : TI) (ixs : List (Option Nat)) (g : TG) (ti : TT) (te : TE) : TE := fun σ H Q => wi σ H fun J H1 => ∀ p, H1 p = none → CompW J g ti te (pick ixs σ) Q p H1

section
variable {X : Cx} {pins : List (Addr × Obj)} {σ : St} {H2 : Hp} {s2 : Shared} {N' : List Str} {ixs : List (Option Nat)} {scope : Scope} {tg elt iter : Expr} {ifs : List Expr} {pos : Pos}
/-- behind the block: the state is the outer one's, the block's own dict at C is nobody's -/
def CompEnd (X : Cx) (pins : List (Addr × Obj)) (σ : St) (Q : VK) (acc : Value) (C : Addr) (s' : Shared) : Prop :=
  ∃ (p : Addr) (H' : Hp), acc = .ref p ∧ Inv X pins σ H' s' ∧ FpOk X pins H' C ∧ (∃ m, s'.heap.Ns C m) ∧ Q (.ref p) H'
theorem comp_core {J : It} {fp : List Addr} {it : Addr} {tn : Nat → Heap → Prop} {g : TG} {ti : TT} {te : TE} {Q : VK} {E : Value → Shared → Prop} {RR : Value → Addr → Result → Shared → Prop} (hc : X.calm = true) (S : CompScope X.N X.env.scope N' ixs scope)
    (I2 : Inv X pins σ H2 s2) (T : Turn X.prog X.w X.K tg J fp it tn) (st : tn 0 s2.heap) (hf : ∀ b ∈ fp, FpOk X pins H2 b)
    (hb : ∀ s H fp, PG (cxComp X N' scope s H fp) tg g ∧ PIfs (cxComp X N' scope s H fp) ifs ti ∧ PE (cxComp X N' scope s H fp) elt te)
    (hw : ∀ p, H2 p = none → CompW J g ti te (pick ixs σ) Q p H2) (hR : ∀ acc C s', CompEnd X pins σ Q acc C s' → RR acc C (.ok .next) s') :
    wpAny (model X.prog X.w) X.A (newList []) (fun acc s3 => wpAny (model X.prog X.w) X.A (newFunctionEnv scope X.env.globals (closL X.env.cells scope.names []) [] X.env.qual none .none (some X.env)) (fun cenv s4 =>
      codeAny (model X.prog X.w) X.A (.compStart (.ListComp elt [⟨tg, iter, ifs, 0⟩] scope pos) 0 (.ref it) acc { cenv with scope := relabel scope X.env }) (RR acc cenv.locals) s4) E s3) E s2 := by
  refine wpAny_newObj_type ?_
  have I3 : Inv X pins σ (upd H2 s2.heap.objs.size (.lst [])) { s2 with heap := s2.heap.push { cls := .type "list", data := .seq ([] : List Value).toArray } } :=
    I2.lnew (its := []) (t' := s2.toks) .nil (Nat.zero_le _)
  have hp := hw s2.heap.objs.size I2.fresh
  generalize e3 : ({ s2 with heap := s2.heap.push { cls := .type "list", data := .seq ([] : List Value).toArray } } : Shared) = s3 at I3 ⊢
  generalize eH : upd H2 s2.heap.objs.size (.lst []) = H3 at I3 hp
  have flt : ∀ b ∈ fp, b < s2.heap.objs.size := fun b hb => let ⟨_, e, _⟩ := T.obj _ _ st b hb; Heap.lt_size e
  have get3 : ∀ b o, s2.heap.get? b = some o → s3.heap.get? b = some o := fun b o e => by rw [← e3]; exact Heap.get?_push_of_some _ e
  have st3 : tn 0 s3.heap := T.keep _ _ _ st fun b _ o e => get3 b o e
  have hf3 : ∀ b ∈ fp, FpOk X pins H3 b := fun b hb => ⟨by rw [← eH, upd_ne (Nat.ne_of_lt (flt b hb))]; exact (hf b hb).1, (hf b hb).2⟩
  have ho3 : ∀ b ∈ fp, ∃ o, s3.heap.get? b = some o := fun b hb => let ⟨o, e, _⟩ := T.obj _ _ st3 b hb; ⟨o, e⟩
  refine newEnv_comp fun h4 hn hk hcl hpw => ?_
  have I4 : Inv (cxComp X N' scope s3 H3 fp) [] (pick ixs σ) H3 { s3 with heap := h4 } := inv_comp I3 S hf3 ho3 hn hk hcl hpw
  have st4 : tn 0 ({ s3 with heap := h4 } : Shared).heap := T.keep _ _ _ st3 fun b _ o e => hk b o e
  obtain ⟨hG, hI, hE⟩ := hb s3 H3 fp
  obtain ⟨W, ⟨m0, w0⟩, turn⟩ := hp
  rw [eH] at w0
  have stat : ∀ {H' : Hp}, (∀ b ∈ fp, H' b = none) → ∀ b ∈ fp, FpOk (cxComp X N' scope s3 H3 fp) [] H' b := fun hn b hb =>
    ⟨hn b hb, (I4.ok.exf b hb).1, I4.ok.exfs b hb, .inl hb, fun x c e => (I4.ok.exf b hb).2 x c e, fun p hp => absurd (show p ∈ ([] : List (Addr × Obj)) from hp) (by simp)⟩
  have loop : codeAny (model X.prog X.w) X.A (.compLoop (.ListComp elt [⟨tg, iter, ifs, 0⟩] scope pos) 0 (.ref it) (.ref s2.heap.objs.size) (compEnv2 scope s3.heap.objs.size X.env))
      (RR (.ref s2.heap.objs.size) s3.heap.objs.size) { s3 with heap := h4 } := by
    refine codeAny_compLoop2 (fun n s' => ∃ i ys τ H', Inv (cxComp X N' scope s3 H3 fp) [] τ H' s' ∧ tn i s'.heap ∧ (∀ b ∈ fp, H' b = none) ∧ W i n ys τ H') ?_ m0 ⟨0, [], _, H3, I4, st4, fun b hb => (hf3 b hb).1, w0⟩
    rintro n s5 ⟨i, ys, τ, H5, I5, st5, fr5, w5⟩
    obtain ⟨hp5, w5⟩ := turn i n ys τ H5 w5
    rcases w5 with ⟨stop, qn⟩ | ⟨go, step⟩
    · refine thn (T.done (cxComp X N' scope s3 H3 fp) rfl rfl rfl hc i [] s5 τ H5 _ I5 (stat fr5) st5 stop) fun r s6 ⟨hr, I6⟩ => ?_
      subst hr
      refine hR _ _ _ ⟨_, H5, rfl, ?_, ?_, ?_, qn⟩
      · exact I3.call' (s' := s6) (ch := fp) I6.os I6.base I6.hok I6.bare fun b hb => ⟨(hf3 b hb).2.2.2.1, (hf3 b hb).2.1, (hf3 b hb).2.2.2.2.1, (hf3 b hb).2.2.2.2.2⟩
      · exact I3.fpOk (Nat.le_refl _) I6.free
      · obtain ⟨m, hm, _⟩ := I6.loc
        exact ⟨m, hm⟩
    · refine thn (T.item (cxComp X N' scope s3 H3 fp) rfl rfl rfl hc i [] s5 τ H5 _ I5 (stat fr5) st5 go) fun r s6 ⟨u, hr, h6⟩ => ?_
      subst hr
      refine thn h6 fun _ s7 ⟨x, H7, I7, r7, y7, st7, fr7⟩ => ?_
      have I7' := I7.pinned (stat fr7) (T.obj _ _ st7)
      refine thn (hG _ s7 τ H7 x u _ I7' r7 (step x H7 y7)) fun _ s8 ⟨τ8, H8, I8, q8⟩ => ?_
      refine thn (hI _ s8 τ8 H8 _ I8 q8) fun b s9 ⟨H9, I9, q9⟩ => ?_
      have again : ∀ {τ' : St} {H' : Hp} {s' : Shared} {ys' : List V} {m' : Nat}, Inv (cxComp X N' scope s3 H3 fp) ([] ++ pinsAt fp s7.heap) τ' H' s' → m' < n → W (i + 1) m' ys' τ' H' →
          ∃ m, m < n ∧ ∃ i ys τ H', Inv (cxComp X N' scope s3 H3 fp) [] τ H' s' ∧ tn i s'.heap ∧ (∀ b ∈ fp, H' b = none) ∧ W i m ys τ H' := fun {τ' H' s' ys' m'} I' hm w' => by
        refine ⟨m', hm, i + 1, ys', τ', H', I'.unpinned, T.keep _ _ _ st7 fun b hb o e => (I'.pin (b, o) (List.mem_append_right _ (List.mem_append_right _ (mem_pinsAt hb e)))).1, fun b hb => ?_, w'⟩
        obtain ⟨o, e, d⟩ := T.obj _ _ st7 b hb
        exact (I'.pin (b, o) (List.mem_append_right _ (List.mem_append_right _ (mem_pinsAt hb e)))).2.1
      cases b with
      | false =>
        obtain ⟨m', hm, w'⟩ := q9
        exact again I9 hm w'
      | true =>
        refine thn (hE _ s9 τ8 H9 _ I9 q9) fun y s10 ⟨z, H10, I10, r10, hp10, hz10, m', hm, w'⟩ => ?_
        refine thn (mt_append _ s10 τ8 H10 (.ref s2.heap.objs.size) [z] (.ref s2.heap.objs.size) [y] (fun _ H' => H' = upd H10 s2.heap.objs.size (.lst (ys ++ [z]))) I10 rfl (.cons r10 .nil) ⟨_, _, _, rfl, rfl, hp10, hz10, rfl⟩) fun _ s11 ⟨_, H11, I11, _, e11⟩ => ?_
        subst e11
        exact again I11 hm w'
  exact codeAny_compStart_list loop (T.self X.A 0 _ _ _ st4 loop)

/-- [elt for tg in iter if ..] -/
theorem pe_comp {wi : TI} {g : TG} {ti : TT} {te : TE} (hc : X.calm = true) (S : CompScope X.N X.env.scope N' ixs scope) (hi : PI X tg iter wi)
    (hb : ∀ s H fp, PG (cxComp X N' scope s H fp) tg g ∧ PIfs (cxComp X N' scope s H fp) ifs ti ∧ PE (cxComp X N' scope s H fp) elt te)
    (hs : ∀ x, foldedSetIterable iter X.env x = pure x := by intro _; rfl) : PE X (.ListComp elt [⟨tg, iter, ifs, 0⟩] scope pos) (tComp wi ixs g ti te) := by
  intro pins s σ H Q I h
  rw [eval_ListComp]
  refine wpAny_comprehension_free (use := none) rfl hs (closureFor_eq fun n hn => comp_free I S hn) S.kind (fun x hx hl => lookup_of_mem S.keys (by rw [← hl]; exact hx)) ?_
  refine thn (hi pins s σ H _ I h) fun v s1 h1 => thn h1 fun itv s2 h2 => ?_
  obtain ⟨it, fp, tn, J, H2, e, I2, T, st2, f2, hw⟩ := h2
  subst e
  refine comp_core (RR := fun acc C => compPost (model X.prog X.w) X.A X.xe none (EP X pins σ Q) acc C) hc S I2 T st2 f2 hb hw ?_
  rintro acc C s' ⟨p, H', rfl, I', fC, ⟨m, hm⟩, q⟩
  refine ⟨m, hm, fun h' hs' => ⟨.ref p, H', ?_, rfl, q⟩⟩
  exact I'.turned (it := C) (t' := s'.toks) (fun b o hb e => (hs'.2 b hb).trans e) fC.1 fC.2.1 fC.2.2.2.1 fC.2.2.2.2.1 fC.2.2.2.2.2

/-- x = [elt for tg in iter if ..], x a plain local -/
theorem ps_setComp {wi : TI} {g : TG} {ti : TT} {te : TE} {i : Nat} {x : Str} {pos' spos : Pos} (hc : X.calm = true) (S : CompScope X.N X.env.scope N' ixs scope) (hN : X.N.Nodup) (hx : X.N[i]? = some x) (hl : X.env.scope.names.lookup x = some .local) (hi : PI X tg iter wi)
    (hb : ∀ s H fp, PG (cxComp X N' scope s H fp) tg g ∧ PIfs (cxComp X N' scope s H fp) ifs ti ∧ PE (cxComp X N' scope s H fp) elt te)
    (hsw : swapsWith (.ListComp elt [⟨tg, iter, ifs, 0⟩] scope pos) (some (.Name x pos')) spos.line X.env = pure true := by rfl)
    (hs : ∀ x, foldedSetIterable iter X.env x = pure x := by intro _; rfl) : PS X (.Assign [.Name x pos'] (.ListComp elt [⟨tg, iter, ifs, 0⟩] scope pos) spos) (tAsg (tComp wi ixs g ti te) (gName i)) := by
  intro pins s σ H D I h
  rw [exec_Assign_Name_used _ _ _ _ hsw]
  refine wpAny_bind (wpAny_standAt (wpAny_bind ?_))
  show wpAny _ X.A (do let _ ← comprehension (.ListComp elt [⟨tg, iter, ifs, 0⟩] scope pos) scope X.env _ (newList []) false (eval iter X.env) (some (assign (.Name x pos') X.env))) _ _ s
  refine wpAny_bind (thn (wpAny_comprehension_free (use := some (assign (.Name x pos') X.env)) (Q := fun _ s' => SP X pins D .next s') rfl hs (closureFor_eq fun n hn => comp_free I S hn) S.kind (fun x hx hl => lookup_of_mem S.keys (by rw [← hl]; exact hx)) ?_) fun _ s' hq => wpAny_pure (wpAny_pure hq))
  refine thn (hi pins s σ H _ I h) fun v s1 h1 => thn h1 fun itv s2 h2 => ?_
  obtain ⟨it, fp, tn, J, H2, e, I2, T, st2, f2, hw⟩ := h2
  subst e
  refine comp_core (Q := fun v H' => D.nx (σ.set i (some v)) H') (RR := fun acc C => compPost (model X.prog X.w) X.A X.xe (some (assign (.Name x pos') X.env)) (fun _ s' => SP X pins D .next s') acc C) hc S I2 T st2 f2 hb hw ?_
  rintro acc C s' ⟨p, H', rfl, I', fC, ⟨m, hm⟩, q⟩
  show wpAny (model X.prog X.w) X.A (assign (.Name x pos') X.env (.ref p)) _ _ s'
  refine wpAny_assign_Name (store_ok2 (v := .ref p) I' hN hx (.inl hl) rfl (fun s'' I'' ⟨a, hsb, ha⟩ => ?_) (.inr hl))
  have hCa : C ≠ a := by
    rcases ha with ha | ha
    · rw [ha]; exact fC.2.1
    · exact fun z => fC.2.2.2.2.1 _ _ ha z.symm
  refine ⟨m, hm.sameBut hsb hCa, fun h' hs' => ⟨_, H', ?_, q⟩⟩
  exact I''.turned (it := C) (t' := s''.toks) (fun b o hb e => (hs'.2 b hb).trans e) fC.1 fC.2.1 fC.2.2.2.1 fC.2.2.2.2.1 fC.2.2.2.2.2
end
end L2
namespace L2
open PySem PySem.Spec PyProof.Rows PySem.W PySem.Builtin.ObjectAttr

/-! ### an own error class with an __init__ of its own, under own classes: it is made, then its __init__ runs -/
/-- the heap with the new error and its tuple of arguments -/
def excNew (h : Heap) (C : Addr) (us : List Value) : Heap := (h.push { cls := .type "tuple", data := .seq us.toArray }).push { cls := .ref C, data := .fields #[.ref h.objs.size, .none, .none, .none, .bool false, .none] }
theorem excNew_keep {h : Heap} {C : Addr} {us : List Value} {b : Addr} {o : Obj} (e : h.get? b = some o) : (excNew h C us).get? b = some o := Heap.get?_push_of_some _ (Heap.get?_push_of_some _ e)
theorem excNew_at {h : Heap} {C : Addr} {us : List Value} : (excNew h C us).get? (h.objs.size + 1) = some { cls := .ref C, data := .fields #[.ref h.objs.size, .none, .none, .none, .bool false, .none] } := by
  unfold excNew; heap_get
theorem excNew_made {h : Heap} {C : Addr} {us : List Value} : Heap.MadeExcOf h (excNew h C us) (h.objs.size + 1) (.ref C) us :=
  ⟨fun _ _ e => excNew_keep e, Heap.get?_none_of_le (Nat.le_succ _), h.objs.size, excNew_at, Heap.get?_none_of_le (Nat.le_refl _), Heap.get?_push_of_some _ (Heap.get?_push_at rfl rfl)⟩
section
variable {P : Program} {w : World} {A : Around} {E : Value → Shared → Prop} {h : Heap} {gs : Array GenState} {dr : Drawn} {tk : Nat} {os : OsState}
variable {cn qn : Str} {C N : Addr} {bases up upB : List Value} {hasD : Bool} {sl : List Str} {subs : List Value} {abst : Bool} {coll : Option Bool} {od : Option Addr} {e0 e1 e2 e3 e5 : Option Value} {B nid iid : String}
variable {mN : Str → Option Value} {us : List Value} {fI : Addr} {oI : Obj}
theorem exc_typecall_initT {Q : Fin → Shared → Prop} (F : ExcBaseFacts B nid iid upB) (T : OwnTail h upB up) (atC : h.get? C = some (excClassObj cn qn C N bases up hasD sl subs abst coll od e0 e1 e2 e3 e5 nid)) (nsN : h.Ns N mN)
    (hi : mN "__init__" = some (.ref fI)) (atI : h.get? fI = some oI) (fnI : oI.cls = .type "function") (few : us.length ≤ sizeLine)
    (run : wpAny (model P w) A (call (.ref fI) (.ref (h.objs.size + 1) :: us)) (fun r s' => r = .none ∧ Q (.done (.ret (.ref (h.objs.size + 1)))) s') E ⟨excNew h C us, gs, dr, tk, os⟩) :
    wpAny (model P w) A (Builtin.«type.__call__» ⟨.ref C :: us, []⟩) Q E ⟨h, gs, dr, tk, os⟩ := by
  repeat (first | with_reducible refine wpAny_loadPart_at atC ?_ | with_reducible refine wpAny_madeBy_exc atC ?_ | wp_step)
  refine codeAny_call_builtin_code (Code.quiet_builtin _ F.quiet) (wpAny_check_new_subT F T atC (codeAny_exc_new_subT F T atC ?_ few))
  show wpAny _ _ _ _ _ (⟨excNew h C us, gs, dr, tk, os⟩ : Shared)
  have atC' : (excNew h C us).get? C = _ := excNew_keep atC
  have atE : (excNew h C us).get? (h.objs.size + 1) = _ := excNew_at
  have has : (Value.ref C :: up).contains (.ref C) = true := List.contains_iff_mem.mpr List.mem_cons_self
  unfold isInstance
  repeat (first | with_reducible refine wpAny_loadPart_at atE ?_ | (with_reducible refine wpAny_isSubtype_exc atC' ?_; rw [has]) | wp_step)
  refine wpAny_typeLookup_tail (mN := mN) atC' (nsN.keeps fun _ _ e => excNew_keep e) (T.keeps fun _ _ e => excNew_keep e) F.mroIs F.init.lookup ?_
  rw [hi]
  refine wpAny_holding (wpAny_bind (show wpAny _ _ (bindSpecial _ _) _ _ _ from ?_))
  unfold bindSpecial
  refine wpAny_bind (wpAny_typeOf (T := "function") ⟨oI, excNew_keep atI, fnI⟩ ?_)
  rw [if_pos (show _ from by decide)]
  refine wpAny_pure (wpAny_bind (thn run fun r s' hr => ?_))
  obtain ⟨rfl, q⟩ := hr
  wp_walk
  exact q
theorem exc_call_initT {Q : Value → Shared → Prop} (F : ExcBaseFacts B nid iid upB) (T : OwnTail h upB up) (atC : h.get? C = some (excClassObj cn qn C N bases up hasD sl subs abst coll od e0 e1 e2 e3 e5 nid)) (nsN : h.Ns N mN)
    (hi : mN "__init__" = some (.ref fI)) (atI : h.get? fI = some oI) (fnI : oI.cls = .type "function") (few : us.length ≤ sizeLine)
    (run : wpAny (model P w) (A.under (.builtin "type.__call__" ⟨.ref C :: us, []⟩)) (call (.ref fI) (.ref (h.objs.size + 1) :: us)) (fun r s' => r = .none ∧ Q (.ref (h.objs.size + 1)) s') E ⟨excNew h C us, gs, dr, tk, os⟩) :
    wpAny (model P w) A (call (.ref C) us) Q E ⟨h, gs, dr, tk, os⟩ := by
  have l1 := tc_lookup
  have l2 := tc_bind (.ref C)
  have ty : (⟨h, gs, dr, tk, os⟩ : Shared).TypeIs (.ref C) "type" := ⟨_, atC, rfl⟩
  refine wpAny_call (codeAny_of_tree (show wpAny _ _ (callAny (.ref C) _) _ _ _ from ?_))
  repeat (any_goals (first | assumption | with_reducible refine wpAny_loadPart_at atC ?_ | wp_step))
  exact ⟨rfl, codeAny_call_builtin_at (Code.quiet_builtin _ (by decide +kernel)) entry_typeCall (wpAny_check_type_call_sub atC (exc_typecall_initT F T atC nsN hi atI fnI few run))⟩
end

/-! ### what the fragment says of such a class -/
abbrev bmV : List Value := [.type "ValueError", .type "Exception", .type "BaseException", .type "object"]
/-- C is such a class; i: its own __init__, or none -/
def excInI (K : Frag) (C : Addr) (i : Option Value) : Bool :=
  match K.lookup C with
  | some ⟨.type "type", _, .cls cls, slots⟩ =>
    (match cls.mro, slots.toList with
     | .ref C' :: up, [_, _, _, _, some (.builtin n), _] => C' == C && (n == "ValueError.__new__" && (!cls.hasDel && (tailIn K bmV up && (nsOkIn K cls.ns && nsIn K cls.ns "__init__" == some i))))
     | _, _ => false)
  | _ => false
theorem ns_some_of {K : Frag} {h : Heap} {N : Addr} {mp : Str → Option Value} {n : Str} {v : Value} (X : K.In h) (G : h.Ns N mp) (e : nsIn K N n = some (some v)) : mp n = some v := by
  obtain ⟨ob, ens, _, at_, da, _, look⟩ := G
  unfold nsIn at e
  split at e
  next _ _ _ _ _ q =>
    have two := X _ _ q
    rw [at_] at two
    cases two; cases da
    split at e
    next en he =>
      cases e
      rw [← look, nsFind, findBy, ← Array.find?_toList, he]; rfl
    next => split at e <;> cases e
  next => cases e
structure ExcAt (h : Heap) (C : Addr) (i : Option Value) : Prop where
  ex : ∃ bm N nm q bs hdct sn sub ab col dd k0 k1 k2 k3 k5 mN, h.get? C = some (excClassObj nm q C N bs bm hdct sn sub ab col dd k0 k1 k2 k3 k5 "ValueError.__new__") ∧ h.Ns N mN ∧ mN "__init__" = i ∧ OwnTail h bmV bm
theorem exc_of_in {K : Frag} {h : Heap} {C : Addr} {i : Option Value} (X : K.In h) (q : excInI K C i = true) : ExcAt h C i := by
  unfold excInI at q
  split at q
  next od cls slots at_ =>
    split at q
    next C' up a0 a1 a2 a3 n a5 em es =>
      obtain ⟨p1, q⟩ := Bool.and_eq_true_iff.mp q
      obtain ⟨p2, q⟩ := Bool.and_eq_true_iff.mp q
      obtain ⟨p3, q⟩ := Bool.and_eq_true_iff.mp q
      obtain ⟨p4, q⟩ := Bool.and_eq_true_iff.mp q
      obtain ⟨p5, p6⟩ := Bool.and_eq_true_iff.mp q
      have e1 := beq_iff_eq.mp p1
      have e2 := beq_iff_eq.mp p2
      have e3 : cls.hasDel = false := by simpa using p3
      have e6 := beq_iff_eq.mp p6
      subst e1 e2
      obtain ⟨nm, bs, mro, ns, qn, hd, sn, sb, ab, col, del⟩ := cls
      have em' : mro = _ := em
      have e3' : del = false := e3
      subst em' e3'
      obtain rfl : slots = #[a0, a1, a2, a3, some (.builtin "ValueError.__new__"), a5] := by cases slots; exact congrArg Array.mk es
      refine ⟨⟨up, ns, nm, qn, bs, hd, sn, sb, ab, col, od, a0, a1, a2, a3, a5, h.nsMap ns, X _ _ at_, .of_isNs (isNs_of_in X p5), ?_, tail_of_in X p4⟩⟩
      cases i with
      | none => exact nsMap_none_of_in X p5 e6
      | some v => exact ns_some_of X (.of_isNs (isNs_of_in X p5)) e6
    next => cases q
  next => cases q

/-! ### an attribute of such an object is stored, read -/
def overE : List Value → Bool
  | .ref _ :: r => overE r
  | l => l == bmV
theorem overE_cases : ∀ {l : List Value}, overE l = true → l = bmV ∨ ∃ a r, l = .ref a :: r ∧ overE r = true
  | [], e => .inl (beq_iff_eq.mp e)
  | .ref a :: r, e => .inr ⟨a, r, rfl, e⟩
  | .none :: r, e => .inl (beq_iff_eq.mp e)
  | .bool b :: r, e => .inl (beq_iff_eq.mp e)
  | .int i t :: r, e => .inl (beq_iff_eq.mp e)
  | .float i t :: r, e => .inl (beq_iff_eq.mp e)
  | .str i t :: r, e => .inl (beq_iff_eq.mp e)
  | .bytes i t :: r, e => .inl (beq_iff_eq.mp e)
  | .type i :: r, e => .inl (beq_iff_eq.mp e)
  | .builtin i :: r, e => .inl (beq_iff_eq.mp e)

theorem refuse_E (self : Value) (l : List Value) : overE l = true → refuseLoop self "__setattr__" l = pure () := by
  induction l with
  | nil => intro e; exact absurd e (by decide)
  | cons v r ih =>
    intro e
    rcases overE_cases e with q | ⟨a, r', q, e'⟩
    · rw [q]; kernel_rfl
    · cases q
      rw [refuseLoop_ref]
      exact ih e'
/-- an own error class, as the fragment has it -/
structure XCls (K : Frag) (C : Addr) : Prop where
  ga : findIn K (.ref C) "__getattribute__" = some (some (.builtin "BaseException.__getattribute__"))
  gh : findIn K (.ref C) "__getattr__" = some none
  sa : findIn K (.ref C) "__setattr__" = some (some (.builtin "object.__setattr__"))
  hd : hasDictIn K C = true
  ov : ((clsIn K C).any fun cd => overE cd.mro) = true
  be : mroIn K C (.type "BaseException") = some true
  ve : mroIn K C (.type "ValueError") = some true
  ob : mroIn K C (.type "object") = some true
  ka : findIn K (.ref C) "__class__" = some (some (.builtin "object.__class__"))
  kn : specialIn K (.builtin "object.__class__") "__get__" = some (some (.builtin "getset_descriptor.__get__"))
  kt : takesIn K (.builtin "object.__class__") = some true
section
variable {prog : Program} {w : World} {A : Around} {E : Value → Shared → Prop} {s : Shared} {K : Frag} {x C : Addr} {ox : Obj} {od : Option Obj} {name : Str}
theorem osa_openE {R : Result → Shared → Prop} {tk : Tok} {v : Value} (X : K.In s.heap) (I : InstAt s.heap x ox C od) (c : XCls K C) (no : findIn K (.ref C) name = some none)
    (go : wpAny (model prog w) A.in1 (storeInOwnDict (.ref x) (.ref C) (.str name tk) name v false) (fun fin s' => match fin with | .done f => R (.ok f) s' | .again c' => c'.quiet = true ∧ codeAny (model prog w) A c' R s') (fun e s' => R (.error e) s') s) :
    codeAny (model prog w) A (.call (.builtin "object.__setattr__") ⟨[.ref x, .str name tk, v], []⟩) R s := by
  obtain ⟨cls, ic, ok⟩ := any_some c.ov
  have ty : Looks (model prog w) s.heap (typeOf (.ref x)) (.ref C) := I.type
  have up : Looks (model prog w) s.heap (mroOf (.ref C)) cls.mro := Looks.andThen (looks_clsIn X ic) Looks.now
  have none' : Looks (model prog w) s.heap (typeLookup (.ref C) name) none := looks_findIn X no
  refine codeAny_call_builtin PySem.F.store_object.slot.plain PySem.F.store_object.entry (@check_slot (model prog w) _ _ s _ _ _ (.ref x) [.str name tk, v] [] _ PySem.F.store_object.kind PySem.F.store_object.split (ty.andThen (looks_mroIn X c.ob)) (PySem.F.store_object.args _ _ _) ?_)
  rw [osa_eq, refuse_eq]
  refine wpAny_bind (wpAny_bind (ty.here (wpAny_bind (up.here ?_))))
  rw [refuse_E _ _ ok]
  refine wpAny_pure (show wpAny _ _ _ _ _ s from ?_)
  exact wpAny_bind (ty.here (wpAny_bind (none'.here (wpAny_bind (wpAny_pure go)))))
/-- the road to BaseException.__getattribute__ -/
theorem exc_getBy {tk : Tok} {fill expr : Bool} {Q : Value → Shared → Prop} (X : K.In s.heap) (I : InstAt s.heap x ox C od) (c : XCls K C)
    (h : wpAny (model prog w) A.in1 (Builtin.«object.__getattribute__» ⟨[.ref x, .str name tk], []⟩) (fun fin s' => match fin with | .done (.ret v) => wpAny (model prog w) A (handedOut v) Q E s' | _ => False) (fun _ _ => False) s) :
    wpAny (model prog w) A (getAttrBy (.ref x) (.str name tk) fill expr) Q E s := by
  have L0 := I.type (M := model prog w)
  have L1 := looks_findIn (M := model prog w) X c.ga
  have L2 := looks_findIn (M := model prog w) X c.gh
  have sub : Looks (model prog w) s.heap (isInstance (.ref x) (.type "BaseException")) true := I.type.andThen (looks_mroIn X c.be)
  have hx2 : (Value.builtin "BaseException.__getattribute__" == Value.builtin "object.__getattribute__") = false := by decide +kernel
  have hx1 : (onTheHeap (Value.ref C) && Value.builtin "BaseException.__getattribute__" == Value.builtin "object.__getattribute__") = false := by rw [hx2]; rfl
  have hk : builtinKind "BaseException.__getattribute__" = some .slot := by decide +kernel
  have hsplit : splitId "BaseException.__getattribute__" = some ("BaseException", "__getattribute__") := by decide +kernel
  unfold getAttrBy
  refine wpAny_holding (wpAny_bind (L0.here (wpAny_bind (L1.here ?_))))
  dsimp only
  rw [hx1]
  show wpAny _ _ (getAttrByItsOwn _ _ _ _ _ _) _ _ _
  unfold getAttrByItsOwn hookBefore
  refine wpAny_bind ?_
  rw [if_pos (show onTheHeap (Value.ref C) = true from rfl)]
  refine L2.here (wpAny_bind (wpAny_attempt (wpAny_holding ?_)))
  unfold callGetattribute
  rw [if_neg (show ¬ (expr && onTheHeap (Value.builtin "BaseException.__getattribute__")) = true by cases expr <;> decide)]
  unfold boundAndCalled
  rw [PySem.F.attrBase_ValueError.ga.bind]
  refine wpAny_bind (wpAny_pure (wpAny_call (codeAny_call_builtin PySem.F.attrBase_ValueError.ga.plain PySem.F.entry_bexc_ga (@check_slot (model prog w) _ _ s "BaseException.__getattribute__" "BaseException" "__getattribute__" (.ref x) [.str name tk] [] _ hk hsplit sub (PySem.F.args_bexc_ga _ _) ?_))))
  refine wpAny_mono h (fun fin s' z => ?_) fun _ _ z => z.elim
  rcases fin with (_ | _ | _ | _) | _ <;> first | exact z | exact z.elim
theorem oga_value {tk : Tok} {v : Value} {Q : Fin → Shared → Prop} (X : K.In s.heap) (I : InstAt s.heap x ox C od) (hf : findObj K C od name = some (.value v)) (h : Q (.done (.ret v)) s) :
    wpAny (model prog w) A (Builtin.«object.__getattribute__» ⟨[.ref x, .str name tk], []⟩) Q E s := by
  have L0 := I.type (M := model prog w)
  have L1 := looks_find (M := model prog w) X I hf
  refine wpAny_bind (wpAny_pure (wpAny_bind (wpAny_pure (wpAny_bind (L0.here (wpAny_bind (L1.here ?_)))))))
  exact wpAny_pure h
theorem exc_get {expr : Bool} {v : Value} {Q : Value → Shared → Prop} (X : K.In s.heap) (I : InstAt s.heap x ox C od) (c : XCls K C) (hf : findObj K C od name = some (.value v)) (hh : handedIn v = true)
    (h : Q v { s with toks := s.toks + 1 }) : wpAny (model prog w) A (getAttr (.ref x) name expr) Q E s := by
  unfold getAttr
  refine wpAny_bind (wpAny_mkText ?_)
  exact exc_getBy (s := { s with toks := s.toks + 1 }) X I c (oga_value (s := { s with toks := s.toks + 1 }) X I hf (handed_on hh h))
theorem exc_class {Q : Option Value → Shared → Prop} (X : K.In s.heap) (I : InstAt s.heap x ox C od) (c : XCls K C) (h : Q (some (.ref C)) { s with toks := s.toks + 1 }) : wpAny (model prog w) A (getAttr? (.ref x) "__class__") Q E s := by
  have hf : findObj K C od "__class__" = some (.bind (.builtin "getset_descriptor.__get__") (.builtin "object.__class__")) := by
    obtain ⟨cd, hc, _⟩ := any_some c.hd
    unfold findObj
    rw [hc, Option.bind_some, c.ka, Option.bind_some]
    dsimp only
    rw [c.kn, Option.bind_some]
    dsimp only
    rw [c.kt, Option.bind_some]
  unfold getAttr? getAttrBy?
  refine wpAny_bind (wpAny_mkText (wpAny_bind (wpAny_attempt ?_)))
  have L0 := I.type (M := model prog w)
  have L1 := looks_find (M := model prog w) X I hf
  refine exc_getBy (s := { s with toks := s.toks + 1 }) X I c ?_
  refine wpAny_bind (wpAny_pure (wpAny_bind (wpAny_pure (wpAny_bind (Looks.here (s := { s with toks := s.toks + 1 }) L0 (wpAny_bind (Looks.here (s := { s with toks := s.toks + 1 }) L1 ?_)))))))
  show wpAny _ _ (holding [.builtin "object.__class__"] (call (.builtin "getset_descriptor.__get__") [.builtin "object.__class__", .ref x, .ref C]) >>= ret) _ _ _
  refine wpAny_bind (wpAny_holding (wpAny_call (class_get (s := { s with toks := s.toks + 1 }) (ox := ox) (od := od) X I c.ob ?_)))
  exact wpAny_pure (handed_on rfl (wpAny_pure h))
theorem cls_isType {M : Model} {h : Heap} (X : K.In h) (c : XCls K C) : Looks M h (isType (.ref C)) true := by
  obtain ⟨cls, ic, _⟩ := any_some c.hd
  unfold clsIn at ic
  split at ic
  next at_ =>
    intro A' Q' E' s' k q
    exact wpAny_bind (wpAny_loadPart (part := some headPart) (k _ _ (X _ _ at_)) (wpAny_pure q))
  next => cases ic
theorem kitx_exc (c : XCls K C) : KitX K (.ref x) (.ref C) (fun h => InstAt h x ox C od) where
  ty := fun _ _ _ I => I.type
  it := fun _ _ X _ => cls_isType X c
  ne := fun h tp _ _ _ _ X tup => by
    obtain ⟨cls, ic, _⟩ := any_some c.hd
    cases q : (Value.ref C == .ref tp) with
    | false => rfl
    | true =>
      have e : C = tp := Value.ref.inj (beq_iff_eq.mp q)
      unfold clsIn at ic
      split at ic
      next at_ =>
        have two := (X _ _ at_).symm
        rw [e, tup] at two
        cases two
      next => cases ic
  ca := fun X I k => exc_class X I c k
end
end L2
namespace L2
open PySem PySem.Spec PyProof.Rows PySem.W PySem.Builtin.ObjectAttr

/-! ### a new object at any free place -/
theorem ObjOk.there {P : Program} {w : World} {H : Hp} {h : Heap} {a : Addr} {o : HO} (x : ObjOk P w H h a o) : ∃ ob, h.get? a = some ob := by
  cases o with
  | lst xs => obtain ⟨_, _, _, _, e⟩ := x; exact ⟨_, e⟩
  | tup xs => obtain ⟨_, _, _, ob, e, _⟩ := x; exact ⟨_, e⟩
  | dK kvs => obtain ⟨_, _, _, _, o, _, _, e, _⟩ := x; exact ⟨_, e⟩
  | dT kvs => obtain ⟨_, _, _, _, o, _, _, e, _⟩ := x; exact ⟨_, e⟩
  | set S n => obtain ⟨o, _, _, _, e, _⟩ := x; exact ⟨_, e⟩
  | ins C dx fs => obtain ⟨_, _, _, e, _⟩ := x; exact ⟨_, e⟩
  | own y => exact x
  | xd fs => obtain ⟨_, ⟨_, _, _, e, _⟩, _⟩ := x; exact ⟨_, e⟩
  | rng lo hi => obtain ⟨_, _, _, e⟩ := x; exact ⟨_, e⟩
  | frz ob u => obtain ⟨e, _⟩ := x; exact ⟨_, e⟩
  | tbl ps => exact ⟨_, x⟩
  | met f y => exact ⟨_, x⟩
  | ext φ => exact x.2.1
section
variable {X : Cx} {pins : List (Addr × Obj)} {σ : St} {H : Hp} {s : Shared} {h' : Heap} {a : Addr} {o : HO}
theorem Inv.noneAt (I : Inv X pins σ H s) (e : s.heap.get? a = none) : H a = none := by
  cases q : H a with
  | none => rfl
  | some u =>
    obtain ⟨ob, z⟩ := (I.hok a u q).there
    rw [e] at z; cases z
theorem Inv.put (I : Inv X pins σ H s) (k : ∀ b u, s.heap.get? b = some u → h'.get? b = some u) (e : s.heap.get? a = none) (new : ObjOk X.prog X.w (upd H a o) h' a o) : Inv X pins σ (upd H a o) { s with heap := h' } := by
  have hn := I.noneAt e
  have ne : ∀ b u, s.heap.get? b = some u → b ≠ a := fun b u q z => by rw [z, e] at q; cases q
  refine I.un (t' := s.toks) ⟨fun b u q n _ _ => k b u q, fun b u q n _ _ => ⟨u.slots, k b u q⟩, fun b u q n _ => by rw [upd_ne (ne b u q)]; exact n, fun b u q _ => ⟨u, k b u q⟩, fun b xs q => by rw [upd_ne (ne_of_none q hn)]; exact q,
    fun b u v q => by rw [upd_ne (ne_of_none q hn)]; exact q, fun b ps q => ⟨#[], by rw [upd_ne (ne_of_none q hn), q]; simp⟩⟩ fun b u q => ?_
  by_cases hb : b = a
  · subst hb; rw [upd_same] at q; cases q; exact new
  · rw [upd_ne hb] at q
    exact (I.hok b u q).stay (fun c v _ z => k c v z) (fun c z => by rw [upd_ne (ne_of_none z hn)]; exact z) fun c xs z => by rw [upd_ne (ne_of_none z hn)]; exact z
end

/-! ### an error, tracked: its class, its dict -/
def ExcO (C : Addr) (dx : Option Addr) (a : Addr) : HO := .ext fun h => ∃ t, h.get? a = some { cls := .ref C, dict := dx, data := .fields #[.ref t, .none, .none, .none, .bool false, .none] }
def ExcD (d : Addr) (fs : List (Str × V)) : HO := .ext fun h => fs.length ≤ 100 ∧ ∃ mA, h.Ns1 d mA ∧ (∀ f, RelO (fs.lookup f) (mA f)) ∧ PySem.Within mA (fs.map (·.1))
section
variable {P : Program} {w : World} {H : Hp} {h : Heap} {a d C : Addr} {dx : Option Addr} {fs : List (Str × V)}
theorem excO_mk {t : Addr} (e : h.get? a = some { cls := .ref C, dict := dx, data := .fields #[.ref t, .none, .none, .none, .bool false, .none] }) : ObjOk P w H h a (ExcO C dx a) :=
  ⟨⟨t, e⟩, ⟨_, e⟩, fun _ _ ⟨t, q⟩ k => ⟨t, k _ q⟩⟩
theorem excD_mk {mA : Str → Option Value} (z : fs.length ≤ 100) (n : h.Ns1 d mA) (r : ∀ f, RelO (fs.lookup f) (mA f)) (wi : PySem.Within mA (fs.map (·.1))) : ObjOk P w H h d (ExcD d fs) :=
  ⟨⟨z, mA, n, r, wi⟩, (let ⟨o, _, _, e, _⟩ := n; ⟨o, e⟩), fun _ _ ⟨z, mA, n, r⟩ k => ⟨z, mA, n.at k, r⟩⟩
end
section
variable {X : Cx} {pins : List (Addr × Obj)} {σ : St} {H : Hp} {s : Shared} {A : Around} {E : Value → Shared → Prop} {a d C : Addr} {dx : Option Addr} {fs : List (Str × V)} {f : Str}
theorem Inv.excAt (I : Inv X pins σ H s) (e : H a = some (ExcO C dx a)) : ∃ t, s.heap.get? a = some { cls := .ref C, dict := dx, data := .fields #[.ref t, .none, .none, .none, .bool false, .none] } := (I.hok a _ e).1
theorem Inv.excDict (I : Inv X pins σ H s) (e : H d = some (ExcD d fs)) : fs.length ≤ 100 ∧ ∃ mA, s.heap.Ns1 d mA ∧ (∀ f, RelO (fs.lookup f) (mA f)) ∧ PySem.Within mA (fs.map (·.1)) := (I.hok d _ e).1

/-- e.f is read -/
theorem excget_ok {b : Bool} {v : V} {Q : Value → Shared → Prop} (I : Inv X pins σ H s) (e : H a = some (ExcO C (some d) a)) (ed : H d = some (ExcD d fs)) (c : XCls X.K C) (no : findIn X.K (.ref C) f = some none) (l : fs.lookup f = some v)
    (h : ∀ u s', Inv X pins σ H s' → RelV v u → Q u s') : wpAny (model X.prog X.w) A (getAttr (.ref a) f b) Q E s := by
  obtain ⟨t, at_⟩ := I.excAt e
  obtain ⟨_, mA, n, r, _⟩ := I.excDict ed
  obtain ⟨od, hod, look⟩ := lookIn_ns n
  have rf := r f
  rw [l] at rf
  obtain ⟨u, hu, ru⟩ := RelO.some_of rf
  have J : InstAt s.heap a _ C (some od) := ⟨at_, rfl, rfl, hod⟩
  exact exc_get I.kIn J c (findObj_own c.hd no rfl (by rw [look, hu])) (handed_of ru) (h u _ (I.tok _) ru)
/-- its first attribute is stored: the dict is made -/
theorem excset_new {y : V} {u : Value} {Q : Unit → Shared → Prop} (I : Inv X pins σ H s) (e : H a = some (ExcO C none a)) (c : XCls X.K C) (no : findIn X.K (.ref C) f = some none) (ry : RelV y u)
    (h : ∀ d s', H d = none → d ≠ a → Inv X pins σ (upd (upd H d (ExcD d [(f, y)])) a (ExcO C (some d) a)) s' → Q () s') : wpAny (model X.prog X.w) A (setAttr (.ref a) f u) Q E s := by
  obtain ⟨t, at_⟩ := I.excAt e
  have J : InstAt s.heap a _ C none := ⟨at_, rfl, rfl, True.intro⟩
  refine PySem.W.set_plain I.kIn J c.sa (osa_openE (s := { s with toks := s.toks + 1 }) I.kIn J c no ?_)
  obtain ⟨cls, ic, hasD⟩ := any_some c.hd
  refine wpAny_bind (wpAny_pure (wpAny_bind (show wpAny _ _ (instanceDict a true) _ _ _ from ?_)))
  refine wpAny_bind (wpAny_loadPart (s := { s with toks := s.toks + 1 }) at_ (wpAny_bind (Looks.here (s := { s with toks := s.toks + 1 }) (looks_clsIn I.kIn ic) ?_)))
  rw [hasD]
  refine wpAny_bind (wpAny_alloc ?_)
  have fresh : s.heap.get? s.heap.objs.size = none := Heap.get?_none_of_le (Nat.le_refl _)
  have na : a ≠ s.heap.objs.size := Nat.ne_of_lt (Heap.lt_size at_)
  have at1 : (s.heap.push { cls := .type "dict", data := .dict #[] }).get? a = _ := Heap.get?_push_of_some _ at_
  refine wpAny_bind (wpAny_update (s := { s with heap := s.heap.push { cls := .type "dict", data := .dict #[] }, toks := s.toks + 1 }) at1 (wpAny_pure ?_))
  generalize eh : (s.heap.push { cls := .type "dict", data := .dict #[] }).update a (fun o => { o with dict := some s.heap.objs.size }) = h1
  have at2 : h1.get? a = some { cls := .ref C, dict := some s.heap.objs.size, data := .fields #[.ref t, .none, .none, .none, .bool false, .none] } := by
    rw [← eh]; exact Heap.get?_update_self _ at1 rfl
  have oth : ∀ b o, b ≠ a → s.heap.get? b = some o → h1.get? b = some o := fun b o hb q => by
    rw [← eh, Heap.get?_update_other _ _ (Ne.symm hb)]; exact Heap.get?_push_of_some _ q
  have dAt : h1.get? s.heap.objs.size = some { cls := .type "dict", data := .dict #[] } := by
    rw [← eh, Heap.get?_update_other _ _ na]; exact Heap.get?_push_size _ rfl
  have n0 : h1.Ns1 s.heap.objs.size (fun _ => none) := Heap.Ns1.of_empty ⟨_, #[], _, dAt, rfl, (fun e he => absurd he (by simp)), fun _ => rfl⟩
  refine wpAny_bind (wpAny_pure (wpAny_bind (wpAny_nsSet1 (s := { s with heap := h1, toks := s.toks + 1 }) n0 fun h2 n2 sb => ?_)))
  have w0 : PySem.Within (fun _ => none) ([] : List Str) := fun g hg => absurd rfl hg
  obtain ⟨oD, esD, epD, hoD, hdD, hcD⟩ := n2.count (PySem.Within.cons f u w0)
  refine wpAny_bind (wpAny_lookBehind hoD (by rw [hdD]; exact pastItsLine_dict (Nat.le_trans hcD (by rw [List.length_cons, List.length_nil, sizeLine_eq]; decide))) (wpAny_pure ?_))
  refine h s.heap.objs.size _ (I.noneAt fresh) (Ne.symm na) ?_
  have hd0 := I.noneAt fresh
  have keep2 : ∀ b o, b ≠ a → s.heap.get? b = some o → h2.get? b = some o := fun b o hb q => (sb.2 b (fun z => by rw [z, fresh] at q; cases q)).trans (oth b o hb q)
  have at3 : h2.get? a = _ := (sb.2 a na).trans at2
  have heD : upd H s.heap.objs.size (ExcD s.heap.objs.size [(f, y)]) a = some (ExcO C none a) := by rw [upd_ne na]; exact e
  -- the dict is laid, then the error is written
  have I1 : Inv X pins σ (upd H a (ExcO C (some s.heap.objs.size) a)) { s with heap := h1, toks := s.toks + 1 } := by
    refine I.write (x := a) (e := a) (by rw [e]; exact True.intro) (.inl rfl) (fun b u hb q => oth b u hb q) ⟨_, at2⟩ (excO_mk at2)
  have hda : upd H a (ExcO C (some s.heap.objs.size) a) s.heap.objs.size = none := by rw [upd_ne (Ne.symm na)]; exact hd0
  have cm : upd (upd H s.heap.objs.size (ExcD s.heap.objs.size [(f, y)])) a (ExcO C (some s.heap.objs.size) a) = upd (upd H a (ExcO C (some s.heap.objs.size) a)) s.heap.objs.size (ExcD s.heap.objs.size [(f, y)]) := by
    funext b
    unfold upd
    by_cases h1 : b = a
    · subst h1; rw [if_pos rfl, if_neg na, if_pos rfl]
    · rw [if_neg h1]
      by_cases h2 : b = s.heap.objs.size
      · rw [if_pos h2, if_pos h2]
      · rw [if_neg h2, if_neg h2, if_neg h1]
  rw [cm]
  have hal : upd H a (ExcO C (some s.heap.objs.size) a) a = some (ExcO C (some s.heap.objs.size) a) := upd_same
  -- the dict is not tracked yet and is not the frame's: it is turned, then tracked
  have fp : FpOk X pins (upd H a (ExcO C (some s.heap.objs.size) a)) s.heap.objs.size := by
    have z := I.fpOk (H' := upd H a (ExcO C (some s.heap.objs.size) a)) (Nat.le_refl _) hda
    exact z
  have I2 : Inv X pins σ (upd H a (ExcO C (some s.heap.objs.size) a)) { s with heap := h2, toks := s.toks + 2 } :=
    Inv.turned (s := { s with heap := h1, toks := s.toks + 1 }) (h' := h2) I1 (it := s.heap.objs.size) (t' := s.toks + 2) (fun b o hb q => (sb.2 b hb).trans q) fp.1 fp.2.1 fp.2.2.2.1 fp.2.2.2.2.1 fp.2.2.2.2.2
  refine ⟨I2.ok, I2.os, I2.bare, ?_, I2.loc, I2.cell, ?_, ?_, ?_, ?_, I2.len⟩
  · have B := I2.base
    have nb : ∀ b o, X.s₀.heap.get? b = some o → b ∉ X.ex → b ≠ s.heap.objs.size := fun b o q hx z => by
      obtain ⟨o', q'⟩ := I.base.there b o q hx
      rw [z, fresh] at q'; cases q'
    refine ⟨B.keep, B.slot, fun b o q n hx => by rw [upd_ne (nb b o q hx)]; exact B.free b o q n hx, B.there, fun b xs q => ?_, fun b o u q => ?_, fun b ps q => ?_⟩
    · have z := B.tups b xs q; rw [upd_ne (ne_of_none z hda)]; exact z
    · have z := B.frzs b o u q; rw [upd_ne (ne_of_none z hda)]; exact z
    · obtain ⟨m, z⟩ := B.tbls b ps q; exact ⟨m, by rw [upd_ne (ne_of_none z hda)]; exact z⟩
  · rw [upd_ne (Ne.symm fp.2.1)]; exact I2.free
  · intro x c q; rw [upd_ne (fp.2.2.2.2.1 x c q)]; exact I2.freeC x c q
  · intro p hp
    obtain ⟨p1, p2, p3, p4, p5⟩ := I2.pin p hp
    exact ⟨p1, by rw [upd_ne (fp.2.2.2.2.2 p hp)]; exact p2, p3, p4, p5⟩
  · intro b o q
    by_cases hb : b = s.heap.objs.size
    · subst hb
      rw [upd_same] at q; cases q
      refine excD_mk (by simp) n2 (fun g => ?_) (fun g hg => ?_)
      · show RelO (List.lookup g [(f, y)]) (if g = f then some u else none)
        rw [List.lookup_cons]
        by_cases q : g = f
        · rw [if_pos q, beq_iff_eq.mpr q]; exact ry
        · rw [if_neg q, beq_eq_false_iff_ne.mpr q]; exact True.intro
      · by_cases q : g = f
        · rw [q]; simp
        · exact absurd (if_neg q) hg
    · rw [upd_ne hb] at q
      exact (I2.hok b o q).stay (fun _ _ _ z => z) (fun c z => by rw [upd_ne (ne_of_none z hda)]; exact z) fun c xs z => by rw [upd_ne (ne_of_none z hda)]; exact z
/-- a further attribute is stored -/
theorem excset_more {y : V} {u : Value} {Q : Unit → Shared → Prop} (I : Inv X pins σ H s) (e : H a = some (ExcO C (some d) a)) (ed : H d = some (ExcD d fs)) (c : XCls X.K C) (no : findIn X.K (.ref C) f = some none) (ry : RelV y u) (few : fs.length < 100)
    (h : ∀ s', Inv X pins σ (upd H d (ExcD d (putF f y fs))) s' → Q () s') : wpAny (model X.prog X.w) A (setAttr (.ref a) f u) Q E s := by
  obtain ⟨t, at_⟩ := I.excAt e
  obtain ⟨_, mA, n, r, wi⟩ := I.excDict ed
  obtain ⟨od, hod, look⟩ := lookIn_ns n
  have J : InstAt s.heap a _ C (some od) := ⟨at_, rfl, rfl, hod⟩
  refine PySem.W.set_plain I.kIn J c.sa (osa_openE (s := { s with toks := s.toks + 1 }) I.kIn J c no ?_)
  obtain ⟨cls, ic, hasD⟩ := any_some c.hd
  refine wpAny_bind (wpAny_pure (wpAny_bind (show wpAny _ _ (instanceDict a true) _ _ _ from ?_)))
  refine wpAny_bind (wpAny_loadPart (s := { s with toks := s.toks + 1 }) at_ (wpAny_bind (Looks.here (s := { s with toks := s.toks + 1 }) (looks_clsIn I.kIn ic) ?_)))
  rw [hasD]
  refine wpAny_pure (a := some d) (wpAny_bind (wpAny_pure (wpAny_bind (wpAny_nsSet1 (s := { s with toks := s.toks + 1 }) n fun h2 n2 sb => ?_))))
  obtain ⟨oD, esD, epD, hoD, hdD, hcD⟩ := n2.count (PySem.Within.cons f u wi)
  refine wpAny_bind (wpAny_lookBehind hoD (by rw [hdD]; exact pastItsLine_dict (Nat.le_trans hcD (by rw [List.length_cons, List.length_map, sizeLine_eq]; omega))) (wpAny_pure ?_))
  refine h _ (I.write (t' := s.toks + 2) (x := d) (e := d) (by rw [ed]; exact True.intro) (.inl rfl) (fun b o hb q => (sb.2 b hb).trans q) ⟨oD, hoD⟩ ?_)
  refine excD_mk (by have := length_putF f y fs; omega) n2 (fun g => ?_) (fun g hg => ?_)
  · show RelO ((putF f y fs).lookup g) (if g = f then some u else mA g)
    rw [lookup_putF]
    by_cases q : g = f
    · rw [if_pos q, if_pos q]; exact ry
    · rw [if_neg q, if_neg q]; exact r g
  · by_cases q : g = f
    · rw [q]; exact (keys_putF f y fs).1
    · exact (keys_putF f y fs).2 g (wi g fun z => hg ((if_neg q).trans z))
end
end L2
namespace L2
open PySem PySem.Spec PyProof.Rows PySem.W

/-! ### data -/
mutual
inductive Rep (H : Hp) : V → PyData → Prop where
  | non : Rep H .non .none
  | bl (b : Bool) : Rep H (.bl b) (.bool b)
  | int (i : Int) : Rep H (.int i) (.int i)
  | str (x : Str) : Rep H (.str x) (.str x)
  | lst {a : Addr} {xs : List V} {ds : List PyData} : H a = some (.lst xs) → RepAll H xs ds → Rep H (.ref a) (.list ds)
  | tup {a : Addr} {xs : List V} {ds : List PyData} : H a = some (.tup xs) → RepAll H xs ds → Rep H (.ref a) (.tuple ds)
inductive RepAll (H : Hp) : List V → List PyData → Prop where
  | nil : RepAll H [] []
  | cons {x : V} {d : PyData} {xs : List V} {ds : List PyData} : Rep H x d → RepAll H xs ds → RepAll H (x :: xs) (d :: ds)
end
section
variable {X : Cx} {pins : List (Addr × Obj)} {σ : St} {H H' : Hp} {s : Shared}
mutual
theorem Rep.reads (I : Inv X pins σ H s) : ∀ {v : V} {d : PyData} {u : Value}, Rep H v d → RelV v u → ∃ as, Reads s.heap u d as
  | _, _, _, .non, r => by cases r; exact ⟨_, .none⟩
  | _, _, _, .bl b, r => by cases r; exact ⟨_, .bool b⟩
  | _, _, _, .int i, r => by obtain ⟨t, rfl⟩ := r; exact ⟨_, .int i t⟩
  | _, _, _, .str x, r => by obtain ⟨t, rfl⟩ := r; exact ⟨_, .str x t⟩
  | _, _, _, .lst (a := a) (xs := xs) e rs, r => by
    cases r
    obtain ⟨_, its, n, rv, at_⟩ := (show ObjOk X.prog X.w H s.heap a (.lst xs) from I.hok a _ e)
    obtain ⟨as, ra⟩ := RepAll.reads I rs rv
    exact ⟨_, .list at_ rfl rfl ra⟩
  | _, _, _, .tup (a := a) (xs := xs) e rs, r => by
    cases r
    obtain ⟨_, its, rv, ob, at_, hc, n, hd⟩ := (show ObjOk X.prog X.w H s.heap a (.tup xs) from I.hok a _ e)
    obtain ⟨as, ra⟩ := RepAll.reads I rs rv
    exact ⟨_, .tuple at_ hc hd ra⟩
theorem RepAll.reads (I : Inv X pins σ H s) : ∀ {vs : List V} {ds : List PyData} {us : List Value}, RepAll H vs ds → Vals vs us → ∃ as, ReadsAll s.heap us ds as
  | _, _, _, .nil, r => by cases r; exact ⟨_, .nil⟩
  | _, _, _, .cons r rs, rv => by
    cases rv with
    | cons q qs =>
      obtain ⟨as, h1⟩ := Rep.reads I r q
      obtain ⟨bs, h2⟩ := RepAll.reads I rs qs
      exact ⟨_, .cons h1 h2⟩
end
mutual
theorem Rep.same : ∀ {v : V} {d : PyData}, Rep H v d → Same H H' → Rep H' v d
  | _, _, .non, _ => .non
  | _, _, .bl b, _ => .bl b
  | _, _, .int i, _ => .int i
  | _, _, .str x, _ => .str x
  | _, _, .lst e rs, k => .lst (k _ _ e) (RepAll.same rs k)
  | _, _, .tup e rs, k => .tup (k _ _ e) (RepAll.same rs k)
theorem RepAll.same : ∀ {vs : List V} {ds : List PyData}, RepAll H vs ds → Same H H' → RepAll H' vs ds
  | _, _, .nil, _ => .nil
  | _, _, .cons r rs, k => .cons (Rep.same r k) (RepAll.same rs k)
end
theorem repStrs : ∀ (ys : List Str), RepAll H (ys.map V.str) (ys.map PyData.str)
  | [] => .nil
  | y :: ys => .cons (.str y) (repStrs ys)
theorem repInts : ∀ (ys : List Int), RepAll H (ys.map V.int) (ys.map PyData.int)
  | [] => .nil
  | y :: ys => .cons (.int y) (repInts ys)
end
section
variable {X : Cx}
/-- == and != of data -/
def rEqD : R2 := fun x y H Q => ∃ da db, Rep H x da ∧ Rep H y db ∧ da.canLay0 = true ∧ db.canLay0 = true ∧ da.depth ≤ 60 ∧ Q (.bl (PyData.eqv da db)) H
def rNeD : R2 := fun x y H Q => ∃ da db, Rep H x da ∧ Rep H y db ∧ da.canLay0 = true ∧ db.canLay0 = true ∧ da.depth ≤ 60 ∧ Q (.bl (!PyData.eqv da db)) H
theorem op_eqD (hu : X.A.units + 64 < cLine) : OpR X (compareOp .Eq) rEqD := by
  intro pins s σ H x y v u Q I rx ry h
  obtain ⟨da, db, r1, r2, l1, l2, dp, q⟩ := h
  obtain ⟨as, h1⟩ := r1.reads I rx
  obtain ⟨bs, h2⟩ := r2.reads I ry
  exact SeqAt.compareEq_reads h1 h2 l1 l2 (by omega) ⟨.bl _, H, I, rfl, q⟩
theorem op_neD (hu : X.A.units + 64 < cLine) : OpR X (compareOp .NotEq) rNeD := by
  intro pins s σ H x y v u Q I rx ry h
  obtain ⟨da, db, r1, r2, l1, l2, dp, q⟩ := h
  obtain ⟨as, h1⟩ := r1.reads I rx
  obtain ⟨bs, h2⟩ := r2.reads I ry
  exact SeqAt.compareNe_reads h1 h2 l1 l2 (by omega) ⟨.bl _, H, I, rfl, q⟩
/-- in, not in, of data -/
def rInD (neg : Bool) : R2 := fun x y H Q => ∃ d ds, Rep H x d ∧ (Rep H y (.list ds) ∨ Rep H y (.tuple ds)) ∧ d.canLay0 = true ∧ PyData.canLayAll0 ds = true ∧ d.depth ≤ 60 ∧
  Q (.bl (if neg then !(ds.any fun y => PyData.eqv y d) else ds.any fun y => PyData.eqv y d)) H
theorem op_inD (hu : X.A.units + 64 < cLine) : OpR X (compareOp .In) (rInD false) := by
  intro pins s σ H x y v u Q I rx ry h
  obtain ⟨d, ds, r1, r2, l1, l2, dp, q⟩ := h
  obtain ⟨as, h1⟩ := r1.reads I rx
  rcases r2 with r2 | r2
  · obtain ⟨bs, h2⟩ := r2.reads I ry
    exact SeqAt.in_list_reads h2 h1 l2 l1 (by omega) ⟨.bl _, H, I, rfl, q⟩
  · obtain ⟨bs, h2⟩ := r2.reads I ry
    exact SeqAt.in_tuple_reads h2 h1 l2 l1 (by omega) ⟨.bl _, H, I, rfl, q⟩
theorem op_notInD (hu : X.A.units + 64 < cLine) : OpR X (compareOp .NotIn) (rInD true) := by
  intro pins s σ H x y v u Q I rx ry h
  obtain ⟨d, ds, r1, r2, l1, l2, dp, q⟩ := h
  obtain ⟨as, h1⟩ := r1.reads I rx
  rcases r2 with r2 | r2
  · obtain ⟨bs, h2⟩ := r2.reads I ry
    exact SeqAt.notIn_list_reads h2 h1 l2 l1 (by omega) ⟨.bl _, H, I, rfl, q⟩
  · obtain ⟨bs, h2⟩ := r2.reads I ry
    exact SeqAt.notIn_tuple_reads h2 h1 l2 l1 (by omega) ⟨.bl _, H, I, rfl, q⟩

/-! ### f-strings: a text comes, of so many signs at most -/
def FmtOk (H : Hp) (x : V) : Prop := (∃ z : Str, x = .str z ∧ z.length ≤ 100000) ∨ x = .non ∨ ∃ a d, x = .ref a ∧ Rep H x d ∧ d.showable = true ∧ d.hasDict = false ∧ d.depth ≤ 50 ∧ d.shown.length ≤ 100000
def tFmt (te : TE) : TE := fun σ H Q => te σ H fun x H1 => FmtOk H1 x ∧ ∀ y : Str, y.length ≤ 100000 → Q (.str y) H1
theorem pe_fmt {e : Expr} {te : TE} {pos : Pos} (hu : X.A.units + 64 < cLine) (hg : X.A.guards = some []) (he : PE X e te) : PE X (.FormattedValue e (-1) none pos) (tFmt te) := by
  intro pins s σ H Q I h
  refine wpAny_FormattedValue_plain (thn (he pins s σ H _ I h) fun v s1 ⟨x, H1, I1, rx, f, q⟩ => ?_)
  rcases f with ⟨z, rfl, hz⟩ | rfl | ⟨a, d, rfl, rd, hs, hd, hp, hl⟩
  · obtain ⟨t, rfl⟩ := rx
    exact wpAny_formatField_str ⟨.str z, H1, I1, ⟨_, rfl⟩, q z hz⟩ ⟨.str z, H1, I1.tok _, ⟨_, rfl⟩, q z hz⟩ (by rw [sizeLine_eq]; omega)
  · cases rx
    exact wpAny_formatField_none ⟨.str "None", H1, I1.tok _, ⟨_, rfl⟩, q _ (by decide)⟩
  · obtain ⟨as, r⟩ := rd.reads I1 rx
    cases rx
    exact formatField_of_reads r hs (fun z => by rw [hd] at z; cases z) hg (by omega) (fun _ _ z => z) (fun h' u tk k => ⟨.str d.shown, H1, I1.kept k, ⟨_, rfl⟩, q _ hl⟩) (by rw [sizeLine_eq]; omega)
/-- the parts of an f-string, from the left; only that they are texts is kept -/
def PJ (X : Cx) (vs : List Expr) (n : Nat) (t : St → Hp → (Hp → Prop) → Prop) : Prop :=
  ∀ (pins : List (Addr × Obj)) (s : Shared) (σ : St) (H : Hp) (acc : Str) (Q : Hp → Prop), acc.length + n * 100000 ≤ 2000000 → Inv X pins σ H s → t σ H Q →
    Joins (model X.prog X.w) X.A X.xe (evalEach vs X.env) acc (fun out s1 => out.length ≤ 2000000 ∧ ∃ H1, Inv X pins σ H1 s1 ∧ Q H1) s
def tPart1 (te : TE) (tr : St → Hp → (Hp → Prop) → Prop) : St → Hp → (Hp → Prop) → Prop := fun σ H Q => te σ H fun x H1 => (∃ y : Str, x = .str y ∧ y.length ≤ 100000) ∧ tr σ H1 Q
def tPart0 : St → Hp → (Hp → Prop) → Prop := fun _ H Q => Q H
theorem pj_nil : PJ X [] 0 tPart0 := fun pins s σ H acc Q hz I h => ⟨by omega, H, I, h⟩
theorem pj_cons {v : Expr} {vs : List Expr} {n : Nat} {te : TE} {tr : St → Hp → (Hp → Prop) → Prop} (hv : PE X v te) (hr : PJ X vs n tr) : PJ X (v :: vs) (n + 1) (tPart1 te tr) := by
  intro pins s σ H acc Q hz I h
  refine thn (hv pins s σ H _ I h) fun u s1 ⟨x, H1, I1, rx, ⟨y, e, hy⟩, q⟩ => ?_
  subst e
  obtain ⟨t, rfl⟩ := rx
  have hl : (acc ++ y).length = acc.length + y.length := strLen_append ..
  exact ⟨y, t, rfl, by rw [hl, sizeLine_eq]; omega, hr pins s1 σ H1 (acc ++ y) Q (by rw [hl]; omega) I1 q⟩
def tFstr (tr : St → Hp → (Hp → Prop) → Prop) : TE := fun σ H Q => tr σ H fun H1 => ∀ y : Str, y.length ≤ 2000000 → Q (.str y) H1
theorem pe_fstr {v1 v2 : Expr} {rest : List Expr} {pos : Pos} {n : Nat} {tr : St → Hp → (Hp → Prop) → Prop} (hr : PJ X (v1 :: v2 :: rest) n tr) (hn : n ≤ 20 := by decide) : PE X (.JoinedStr (v1 :: v2 :: rest) pos) (tFstr tr) := by
  intro pins s σ H Q I h
  have z := hr pins s σ H Str.empty _ (by have : Str.empty.length = 0 := rfl; omega) I h
  refine wpAny_JoinedStr ?_
  have mono : ∀ (l : List (Sem Value)) (acc : Str) (P P' : Str → Shared → Prop) (s : Shared), (∀ o s, P o s → P' o s) → Joins (model X.prog X.w) X.A X.xe l acc P s → Joins (model X.prog X.w) X.A X.xe l acc P' s := by
    intro l
    induction l with
    | nil => intro acc P P' s k q; exact k _ _ q
    | cons a l ih => intro acc P P' s k q; exact thn q fun v s1 ⟨y, t, e, hz, q'⟩ => ⟨y, t, e, hz, ih _ P P' s1 k q'⟩
  refine mono _ _ _ _ _ ?_ z
  rintro o s1 ⟨hz, H1, I1, q⟩
  exact ⟨by rw [sizeLine_eq]; omega, .str o, H1, I1.tok _, ⟨_, rfl⟩, q o hz⟩
end
end L2
namespace L2
open PySem PySem.Spec PyProof.Rows PySem.W

/-! ### errors are made -/
section
variable {X : Cx} {pins : List (Addr × Obj)} {σ : St} {H : Hp} {s : Shared} {C fI : Addr} {us : List Value} {vs : List V} {Q : VK} {CX : CXT} {k : Nat} {fd : FuncData} {ps : List Str} {sp : Sp} {E : XK} {x : Str} {p pos : Pos} {e : Expr} {es : List Expr} {t : TA}
theorem run_exc0 (q : excInI X.K C none = true) (I : Inv X pins σ H s) (few : us.length ≤ 100) (h : ∀ e, H e = none → Q (.ref e) (upd H e (ExcO C none e))) : wpAny (model X.prog X.w) X.A (call (.ref C) us) (EP X pins σ Q) X.xe s := by
  obtain ⟨⟨up, N, nm, qn, bs, hd, sn, sb, ab, col, od, a0, a1, a2, a3, a5, mN, at_, ns, ni, T⟩⟩ := exc_of_in I.kIn q
  obtain ⟨hp, g, d, tk, os⟩ := s
  refine wpAny_call_exc_subT PySem.F.excBase_ValueError T at_ ns ni (fun h' e m => ?_) (by rw [sizeLine_eq]; omega)
  obtain ⟨kp, new, t, at2, _, _⟩ := m
  exact ⟨.ref e, _, Inv.put (s := ⟨hp, g, d, tk, os⟩) I kp new (excO_mk at2), rfl, h e (Inv.noneAt (s := ⟨hp, g, d, tk, os⟩) I new)⟩
def tExc0 (C : Addr) (t : TA) : TE := fun σ H Q => t σ H fun vs H1 => vs.length ≤ 100 ∧ ∀ e, H1 e = none → Q (.ref e) (upd H1 e (ExcO C none e))
theorem pe_exc0 (q : excInI X.K C none = true) (kp : keepIn X.K (.ref C) = true) (hg : Gl X x) (hm : X.mg x = some (.ref C)) (ha : PA X (e :: es) t) (hdb : (x == ("__debug__" : Str)) = false := by decide)
    (he : starEach (e :: es) X.env = (false, eval e X.env) :: starEach es X.env := by rfl) (hpl : (backTo pos (starEach es X.env)).any (·.1) = false := by rfl) : PE X (.Call (.Name x p) (e :: es) [] pos) (tExc0 C t) := by
  intro pins s σ H Q I h
  refine wpAny_Call_Name_kw (ld_glob I hg hm ?_ hdb)
  refine callWith_K (h₀ := X.base) I.ok.mod.kin kp (thn (ha pos pins s σ H _ I h) fun us s1 ⟨vs, H1, I1, r, few, q1⟩ => ⟨I1.kIn, ?_⟩) he hpl
  exact run_exc0 q I1 (by show us.length ≤ 100; rw [← r.length]; exact few) q1
theorem run_excI (q : excInI X.K C (some (.ref fI)) = true) (fn : isFn X.K (.ref fI) = true) (F : FnOk X.prog X.w X.K X.mg X.base CX k fI fd ps sp) (hr : Room (k + 1) X.A) (hb : Binds X.K fd ps []) (hx : Passes CX X E) (I : Inv X pins σ H s) (r : Vals vs us) (few : us.length ≤ 100)
    (h : ∀ e, H e = none → sp (.ref e :: vs) (upd H e (ExcO C none e)) (fun v H2 => v = .non ∧ Q (.ref e) H2) E) : wpAny (model X.prog X.w) X.A (call (.ref C) us) (EP X pins σ Q) X.xe s := by
  obtain ⟨⟨up, N, nm, qn, bs, hd, sn, sb, ab, col, od, a0, a1, a2, a3, a5, mN, at_, ns, ni, T⟩⟩ := exc_of_in I.kIn q
  obtain ⟨oI, lk, oc⟩ := Option.map_eq_some_iff.mp (show (X.K.lookup fI).map (·.cls) = some (.type "function") from beq_iff_eq.mp fn)
  have h1 := h (s.heap.objs.size + 1) (I.hok.fresh (Nat.le_succ _))
  have kIn := I.kIn
  have I2 : Inv X pins σ (upd H (s.heap.objs.size + 1) (ExcO C none (s.heap.objs.size + 1))) { s with heap := excNew s.heap C us } := I.put (fun _ _ z => excNew_keep z) (Heap.get?_none_of_le (Nat.le_succ _)) (excO_mk excNew_at)
  have e0 := I2.env0.make C us []
  have hr' := hr.make C us []
  have r2 : Vals (V.ref (s.heap.objs.size + 1) :: vs) (Value.ref (s.heap.objs.size + 1) :: us) := .cons rfl r
  have hl : (Value.ref (s.heap.objs.size + 1) :: us).length = ps.length := by rw [← r2.length]; exact F.len _ _ _ _ h1
  have hbd := hb { s with heap := excNew s.heap C us } (Value.ref (s.heap.objs.size + 1) :: us) I2.kIn (by rw [List.append_nil]; exact hl)
  rw [List.append_nil] at hbd
  have run := F.run _ X.stack _ _ ⟨Value.ref (s.heap.objs.size + 1) :: us, []⟩ (Value.ref (s.heap.objs.size + 1) :: us) _ _ E hr' e0 hbd r2 h1
  obtain ⟨hp, g, d, tk, os⟩ := s
  refine exc_call_initT PySem.F.excBase_ValueError T at_ ns ni (kIn _ _ lk) oc (by rw [sizeLine_eq]; omega) (wpAny_call (codeAny_mono run fun r s' hq => ?_))
  cases r with
  | error e => exact hx pins σ _ _ e s' I2 hq
  | ok fl =>
    cases fl with
    | ret u =>
      obtain ⟨v, H', I3, rv, ev, q3⟩ := I2.after hq
      subst ev
      exact ⟨rv, .ref (hp.objs.size + 1), H', I3, rfl, q3⟩
    | next => exact False.elim hq
    | brk => exact False.elim hq
    | cont => exact False.elim hq
def tExcI (C : Addr) (sp : Sp) (E : XK) (t : TA) : TE := fun σ H Q => t σ H fun vs H1 => vs.length ≤ 100 ∧ ∀ e, H1 e = none → sp (.ref e :: vs) (upd H1 e (ExcO C none e)) (fun v H2 => v = .non ∧ Q (.ref e) H2) E
theorem pe_excI (q : excInI X.K C (some (.ref fI)) = true) (fn : isFn X.K (.ref fI) = true) (kp : keepIn X.K (.ref C) = true) (F : FnOk X.prog X.w X.K X.mg X.base CX k fI fd ps sp) (hr : Room (k + 1) X.A) (hb : Binds X.K fd ps []) (hx : Passes CX X E)
    (hg : Gl X x) (hm : X.mg x = some (.ref C)) (ha : PA X (e :: es) t) (hdb : (x == ("__debug__" : Str)) = false := by decide)
    (he : starEach (e :: es) X.env = (false, eval e X.env) :: starEach es X.env := by rfl) (hpl : (backTo pos (starEach es X.env)).any (·.1) = false := by rfl) : PE X (.Call (.Name x p) (e :: es) [] pos) (tExcI C sp E t) := by
  intro pins s σ H Q I h
  refine wpAny_Call_Name_kw (ld_glob I hg hm ?_ hdb)
  refine callWith_K (h₀ := X.base) I.ok.mod.kin kp (thn (ha pos pins s σ H _ I h) fun us s1 ⟨vs, H1, I1, r, few, q1⟩ => ⟨I1.kIn, ?_⟩) he hpl
  exact run_excI q fn F hr hb hx I1 r (by show us.length ≤ 100; rw [← r.length]; exact few) q1

/-! ### Base.__init__(self, text) -/
structure BaseIn (K : Frag) (B : Addr) : Prop where
  rd : readsIn K B (.type "type") = true
  ga : specialIn K (.ref B) "__getattribute__" = some (some (.builtin "type.__getattribute__"))
  fi : findCls K (.ref B) (.type "type") "__init__" = some (.val (.builtin "ValueError.__init__"))
theorem run_baseInit {a : Addr} {dx : Option Addr} {u : Value} {i : Option Value} (c : XCls X.K C) (q : excInI X.K C i = true) (I : Inv X pins σ H s) (e : H a = some (ExcO C dx a)) (h : Q .non H) :
    wpAny (model X.prog X.w) X.A (call (.builtin "ValueError.__init__") [.ref a, u]) (EP X pins σ Q) X.xe s := by
  obtain ⟨t, at_⟩ := I.excAt e
  obtain ⟨⟨up, N, nm, qn, bs, hd, sn, sb, ab, col, od, a0, a1, a2, a3, a5, mN, atC, ns, ni, T⟩⟩ := exc_of_in I.kIn q
  have FI := PySem.F.excBase_ValueError
  obtain ⟨hp, g, d, tk, os⟩ := s
  refine wpAny_call (codeAny_call_builtin FI.init.plain FI.initEntry (wpAny_check_init_subT (rest := [u]) FI T atC at_ rfl ?_))
  have at1 : (hp.push { cls := .type "tuple", data := .seq #[u] }).get? a = some { cls := .ref C, dict := dx, data := .fields #[.ref t, .none, .none, .none, .bool false, .none] } := Heap.get?_push_of_some _ at_
  have at2 : ((hp.push { cls := .type "tuple", data := .seq #[u] }).update a (Obj.mapFields fun z => z.setIfInBounds 0 (.ref hp.objs.size))).get? a = some { cls := .ref C, dict := dx, data := .fields #[.ref hp.objs.size, .none, .none, .none, .bool false, .none] } := Heap.get?_update_self _ at1 rfl
  have fin : ∀ tk', EP X pins σ Q .none ⟨(hp.push { cls := .type "tuple", data := .seq #[u] }).update a (Obj.mapFields fun z => z.setIfInBounds 0 (.ref hp.objs.size)), g, d, tk', os⟩ := fun tk' => by
    refine ⟨.non, upd H a (ExcO C dx a), ?_, rfl, ?_⟩
    · exact Inv.write (s := ⟨hp, g, d, tk, os⟩) I (x := a) (e := a) (t' := tk') (by rw [e]; exact True.intro) (.inl rfl) (fun b o hb z => by rw [Heap.get?_update_other _ _ (Ne.symm hb)]; exact Heap.get?_push_of_some _ z) ⟨_, at2⟩ (excO_mk at2)
    · have : upd H a (ExcO C dx a) = H := by
        funext b; unfold upd
        by_cases hb : b = a
        · rw [if_pos hb, hb, e]
        · rw [if_neg hb]
      rw [this]; exact h
  wp_walk
  exact fin _
def tBaseInit (X : Cx) (t : TA) : TE := fun σ H Q => t σ H fun vs H1 => ∃ a C dx y i, vs = [.ref a, y] ∧ H1 a = some (ExcO C dx a) ∧ XCls X.K C ∧ excInI X.K C i = true ∧ Q .non H1
theorem pe_baseInit {B : Addr} {apos : Pos} {pl : Sem Bool} (b : BaseIn X.K B) (hg : Gl X x) (hm : X.mg x = some (.ref B)) (ha : PA X (e :: es) t) (hdb : (x == ("__debug__" : Str)) = false := by decide)
    (he : starEach (e :: es) X.env = (false, eval e X.env) :: starEach es X.env := by rfl) (hpl : (backTo pos (starEach es X.env)).any (·.1) = false := by rfl)
    (ht : eval (.Call (.Attribute (.Name x p) "__init__" apos) (e :: es) [] pos) X.env = (do
      let ov ← eval (.Name x p) X.env
      standAt apos.atName
      let (f, first) ← holding [ov] (getMethod ov "__init__" pl)
      callWith pos f first (backTo pos (starEach (e :: es) X.env)) (backToKw pos (keywordEach [] X.env))) := by rfl) :
    PE X (.Call (.Attribute (.Name x p) "__init__" apos) (e :: es) [] pos) (tBaseInit X t) := by
  intro pins s σ H Q I h
  refine methodCall_KW (pl := pl) (ld_glob I hg hm ?_ hdb) ht
  refine method_cls I.kIn b.ga (cls_value I.kIn b.rd b.fi rfl ?_)
  refine PyProof.Rows.callWith_builtin1 (thn (ha pos pins { s with toks := s.toks + 1 } σ H _ (I.tok _) h) fun us s1 ⟨vs, H1, I1, r1, q1⟩ => ?_) he hpl
  obtain ⟨a, C, dx, y, i, rfl, ea, c, qi, q⟩ := q1
  obtain ⟨u1, u2, rfl, r2, r3⟩ := r1.two
  cases r2
  exact run_baseInit c qi I1 ea q
end

/-! ### self.f = value, e.f, of an error -/
section
variable {X : Cx} {o value e : Expr} {f : Str} {pos pos' : Pos} {ta tv : TE}
def sXnew (X : Cx) (ta tv : TE) (f : Str) : TS := fun D σ H => tv σ H fun y H1 => ta σ H1 fun x H2 => ∃ a C, x = .ref a ∧ H2 a = some (ExcO C none a) ∧ XCls X.K C ∧ findIn X.K (.ref C) f = some none ∧
  ∀ d, H2 d = none → d ≠ a → D.nx σ (upd (upd H2 d (ExcD d [(f, y)])) a (ExcO C (some d) a))
theorem ps_xnew (ha : PE X o ta) (hv : PE X value tv) (hs : swapsWith value (some (.Attribute o f pos')) pos.line X.env = pure false := by rfl) : PS X (.Assign [.Attribute o f pos'] value pos) (sXnew X ta tv f) := by
  intro pins s σ H D I h
  refine plainObj_wpAny_Assign_Attribute (thn (hv pins s σ H _ I h) fun u s1 ⟨y, H1, I1, ry, q⟩ => thn (ha pins s1 σ H1 _ I1 q) fun ov s2 ⟨x, H2, I2, rx, a, C, ex, ea, c, n, q2⟩ => ?_) hs
  subst ex
  obtain rfl : ov = Value.ref a := rx
  exact excset_new I2 ea c n ry fun d s3 h1 h2 I3 => ⟨σ, _, I3, q2 d h1 h2⟩
def sXmore (X : Cx) (ta tv : TE) (f : Str) : TS := fun D σ H => tv σ H fun y H1 => ta σ H1 fun x H2 => ∃ a C d fs, x = .ref a ∧ H2 a = some (ExcO C (some d) a) ∧ H2 d = some (ExcD d fs) ∧ XCls X.K C ∧ findIn X.K (.ref C) f = some none ∧ fs.length < 100 ∧
  D.nx σ (upd H2 d (ExcD d (putF f y fs)))
theorem ps_xmore (ha : PE X o ta) (hv : PE X value tv) (hs : swapsWith value (some (.Attribute o f pos')) pos.line X.env = pure false := by rfl) : PS X (.Assign [.Attribute o f pos'] value pos) (sXmore X ta tv f) := by
  intro pins s σ H D I h
  refine plainObj_wpAny_Assign_Attribute (thn (hv pins s σ H _ I h) fun u s1 ⟨y, H1, I1, ry, q⟩ => thn (ha pins s1 σ H1 _ I1 q) fun ov s2 ⟨x, H2, I2, rx, a, C, d, fs, ex, ea, ed, c, n, few, q2⟩ => ?_) hs
  subst ex
  obtain rfl : ov = Value.ref a := rx
  exact excset_more I2 ea ed c n ry few fun s3 I3 => ⟨σ, _, I3, q2⟩
def tXget (X : Cx) (ta : TE) (f : Str) : TE := fun σ H Q => ta σ H fun x H1 => ∃ a C d fs v, x = .ref a ∧ H1 a = some (ExcO C (some d) a) ∧ H1 d = some (ExcD d fs) ∧ XCls X.K C ∧ findIn X.K (.ref C) f = some none ∧ fs.lookup f = some v ∧ Q v H1
theorem pe_xget (he : PE X e ta) (hb : attributeBase e f X.env (eval e X.env) = eval e X.env := by rfl) : PE X (.Attribute e f pos) (tXget X ta f) := by
  intro pins s σ H Q I h
  refine attr_of hb (thn (he pins s σ H _ I h) fun u s1 ⟨x, H1, I1, rx, a, C, d, fs, v, ex, ea, ed, c, n, l, q⟩ => ?_)
  subst ex
  obtain rfl : u = Value.ref a := rx
  exact excget_ok I1 ea ed c n l fun u' s2 I2 ru => ⟨v, H1, I2, ru, q⟩

/-! ### isinstance(x, C) -/
def rIsi (K : Frag) : List V → Hp → VK → Prop := fun xs H Q => ∃ x c t cv b, xs = [x, c] ∧ RelV c cv ∧ (TyOf K H x t ∨ ∃ a C dx, x = .ref a ∧ t = .ref C ∧ H a = some (ExcO C dx a) ∧ XCls K C ∧ (∀ d, dx = some d → ∃ fs, H d = some (ExcD d fs))) ∧ kitOne K t cv = some b ∧ Q (.bl b) H
theorem RelV.uniq {c : V} {u v : Value} (h : ∀ i, c ≠ .int i) (h2 : ∀ i, c ≠ .str i) (h3 : ∀ i, c ≠ .byt i) (h4 : ∀ i, c ≠ .flt i) (a : RelV c u) (b : RelV c v) : u = v := by
  cases c with
  | non => cases a; cases b; rfl
  | bl _ => cases a; cases b; rfl
  | ref _ => cases a; cases b; rfl
  | ty _ => cases a; cases b; rfl
  | int i => exact absurd rfl (h i)
  | str i => exact absurd rfl (h2 i)
  | byt i => exact absurd rfl (h3 i)
  | flt i => exact absurd rfl (h4 i)
theorem call_isi : CallR X (.builtin "isinstance") (fun xs H Q => (∃ x, (∃ C, xs = [x, .ref C]) ∨ (∃ T, xs = [x, .ty T])) ∧ rIsi X.K xs H Q) := by
  intro pins s σ H xs us Q I r h
  obtain ⟨hx, x, c, t, cv, b, rfl, rc, ty, e, q⟩ := h
  obtain ⟨u, w', rfl, ru, rw'⟩ := r.two
  have ecv : w' = cv := by
    obtain ⟨x', ⟨C, z⟩ | ⟨T, z⟩⟩ := hx
    · cases z; cases rc; cases rw'; rfl
    · cases z; cases rc; cases rw'; rfl
  subst ecv
  rcases ty with ty | ⟨a, C, dx, rfl, rfl, ea, c, hd⟩
  · exact isinst_ok I ru ty e fun tk => ⟨.bl b, H, I.tok _, rfl, q⟩
  · cases ru
    obtain ⟨t, at_⟩ := I.excAt ea
    cases dx with
    | none =>
      have J : InstAt s.heap a _ C none := ⟨at_, rfl, rfl, True.intro⟩
      exact kia_one (kitx_exc c) I.kIn J e (fun z => nomatch z) fun tk => ⟨.bl b, H, I.tok _, rfl, q⟩
    | some d =>
      obtain ⟨fs, ed⟩ := hd d rfl
      obtain ⟨_, mA, n, _⟩ := I.excDict ed
      obtain ⟨od, hod, _⟩ := lookIn_ns n
      have J : InstAt s.heap a _ C (some od) := ⟨at_, rfl, rfl, hod⟩
      exact kia_one (kitx_exc c) I.kIn J e (fun z => nomatch z) fun tk => ⟨.bl b, H, I.tok _, rfl, q⟩
end
end L2
namespace L2
open PySem PySem.Spec PyProof.Rows PySem.W

/-! ### enumerate over a list -/
def Ite (K : Frag) (l : Addr) : It :=
  ⟨fun i H => ∃ xs x, SqL K H l xs ∧ xs[i]? = some x, fun i H x H' => ∃ t v, H t = none ∧ x = .ref t ∧ (∀ xs, SqL K H l xs → xs[i]? = some v) ∧ H' = upd H t (.tup [.int i, v]), fun i H => ∃ xs, SqL K H l xs ∧ xs.length ≤ i⟩
theorem turn_enum {P : Program} {w : World} {K : Frag} {elts : List Expr} {n1 : Nat} {tp : Pos} (l e it : Addr) (hne : e ≠ it) :
    Turn P w K (.Tuple elts n1 tp) (Ite K l) [e, it] e (fun i h => (∃ old, IsEnum h e it i old) ∧ h.IsListIter it l i) where
  mem := by simp
  obj := fun i h st b hb => by
    obtain ⟨⟨old, h1⟩, h2⟩ := st
    rcases List.mem_cons.mp hb with z | z
    · subst z; exact ⟨_, h1, fun v q => by cases q⟩
    · have z' : b = it := by simpa using z
      subst z'
      obtain ⟨o, q, _, d⟩ := h2
      exact ⟨o, q, fun v z => by rw [d] at z; cases z⟩
  keep := fun i h h' st k => by
    obtain ⟨⟨old, h1⟩, h2⟩ := st
    exact ⟨⟨old, k e (by simp) _ h1⟩, h2.at fun o q => k it (by simp) o q⟩
  item := by
    intro X hP hw hK hc i pins s σ H E I hf st hg
    subst hP hw hK
    obtain ⟨xs, x, hq, hx⟩ := hg
    obtain ⟨its, rv, p, hz⟩ := I.list hq
    obtain ⟨u, hu, ru⟩ := rv.get hx
    obtain ⟨⟨old, h1⟩, h2⟩ := st
    have fe := hf e (by simp)
    have fi := hf it (by simp)
    refine wpAny_pyNext_enum_item h1 h2 p.isList (x := u) (by simpa using hu) hne fun h' e1 i1 t1 z1 k1 => ⟨_, rfl, ?_⟩
    refine wpAny_letOwnedTupleGo_enum (s := { s with heap := h', toks := s.toks + 1 }) e1 fun h'' e2 sb => ?_
    have eS : e ≠ s.heap.objs.size := Nat.ne_of_lt (Heap.lt_size h1)
    have k2 : ∀ b o, b ≠ e → b ≠ it → s.heap.get? b = some o → h''.get? b = some o := fun b o n1 n2 q => (sb.2 b n1).trans (k1 b o n1 n2 q)
    have t2 : h''.get? s.heap.objs.size = some { cls := .type "tuple", data := .seq #[.int i s.toks, u] } := (sb.2 _ (Ne.symm eS)).trans t1
    have hn : H s.heap.objs.size = none := I.hok.fresh (Nat.le_refl _)
    have lt : ∀ b o, s.heap.get? b = some o → b ≠ s.heap.objs.size := fun b o q => Nat.ne_of_lt (Heap.lt_size q)
    have trk : ∀ b o, H b = some o → b ≠ e ∧ b ≠ it := fun b o q => ⟨(fun z => by rw [z, fe.1] at q; cases q), (fun z => by rw [z, fi.1] at q; cases q)⟩
    have nch : ∀ b, b ∉ [e, it] → b ≠ e ∧ b ≠ it := fun b hb => ⟨fun z => hb (by simp [z]), fun z => hb (by simp [z])⟩
    have J : Inv X pins σ (upd H s.heap.objs.size (.tup [.int i, x])) { s with heap := h'', toks := s.toks + 1 } := by
      refine I.step (g' := s.gens) (d' := s.drawn) (t' := s.toks + 1) (ch := [e, it]) (fun b hb => ?_) (fun b o _ _ hc q _ => k2 b o (nch b hc).1 (nch b hc).2 q) (fun b o _ _ hc q _ => ⟨o.slots, k2 b o (nch b hc).1 (nch b hc).2 q⟩)
        (fun b o _ q n => by rw [upd_ne (lt b o q)]; exact n) (fun b o hc q => ⟨o, k2 b o (nch b hc).1 (nch b hc).2 q⟩) (fun b ys q => by rw [upd_ne (ne_of_none q hn)]; exact q) (fun b o v q => by rw [upd_ne (ne_of_none q hn)]; exact q)
        (fun b ps q => ⟨#[], by rw [upd_ne (ne_of_none q hn), q]; simp⟩) (fun m hm => ?_) (fun b o q => ?_) I.bare
      · rcases List.mem_cons.mp hb with z | z
        · subst z; exact ⟨fe.2.2.2.1, fe.2.1, fe.2.2.2.2.1, fe.2.2.2.2.2⟩
        · have z' : b = it := by simpa using z
          subst z'; exact ⟨fi.2.2.2.1, fi.2.1, fi.2.2.2.2.1, fi.2.2.2.2.2⟩
      · obtain ⟨o, es, ep, ho, r⟩ := hm
        exact ⟨o, es, ep, k2 _ o (Ne.symm fe.2.1) (Ne.symm fi.2.1) ho, r⟩
      · by_cases hb : b = s.heap.objs.size
        · subst hb
          rw [upd_same] at q; cases q
          exact ⟨by rw [sizeLine_eq]; show 2 ≤ _; decide, [.int i s.toks, u], .cons ⟨_, rfl⟩ (.cons ru .nil), _, t2, rfl, _, rfl⟩
        · rw [upd_ne hb] at q
          refine (I.hok b o q).stay (fun c v hc z => ?_) (fun c z => by rw [upd_ne (ne_of_none z hn)]; exact z) fun c ys z => by rw [upd_ne (ne_of_none z hn)]; exact z
          rcases hc with hc | hc
          · subst hc; exact k2 _ v (trk _ _ q).1 (trk _ _ q).2 z
          · exact k2 c v (trk _ _ hc).1 (trk _ _ hc).2 z
    refine ⟨.ref s.heap.objs.size, _, J, rfl, ⟨s.heap.objs.size, x, hn, rfl, fun ys hy => by rw [I.list_inj hy hq]; exact hx, rfl⟩, ⟨⟨u, e2⟩, ?_⟩, fun b hb => ?_⟩
    · exact i1.extBut sb.extBut (Ne.symm hne)
    · have : b ≠ s.heap.objs.size := by
        rcases List.mem_cons.mp hb with z | z
        · rw [z]; exact eS
        · have z' : b = it := by simpa using z
          obtain ⟨o, q, _⟩ := h2
          rw [z']; exact lt _ _ q
      rw [upd_ne this]; exact (hf b hb).1
  done := by
    intro X hP hw hK hc i pins s σ H E I hf st hg
    subst hP hw hK
    obtain ⟨xs, hq, hx⟩ := hg
    obtain ⟨its, rv, p, hz⟩ := I.list hq
    obtain ⟨⟨old, h1⟩, h2⟩ := st
    have fi := hf it (by simp)
    have hl := rv.length
    exact wpAny_pyNext_enum_end (I.ok.hd hc) h1 h2 p.isList (by simp; omega) fun h' eb => ⟨rfl, I.turned (t' := s.toks) (fun b o hb q => eb b o hb q) fi.1 fi.2.1 fi.2.2.2.1 fi.2.2.2.2.1 fi.2.2.2.2.2⟩
  self := fun _ _ _ _ _ st h => let ⟨⟨_, h1⟩, _⟩ := st; wpAny_pyIter_enum h1 h
section
variable {X : Cx}
def iEnum (K : Frag) (ta : TA) : TI := fun σ H R => ta σ H fun vs H1 => ∃ a, vs = [.ref a] ∧ (∃ xs, SqL K H1 a xs) ∧ R (Ite K a) H1
theorem pi_enum {a : Expr} {ta : TA} {p pos tp : Pos} {elts : List Expr} {n1 : Nat} (hg : Gl X "enumerate") (hm : X.mg "enumerate" = none) (ha : PA X [a] ta) (hs : starEach [a] X.env = [(false, eval a X.env)] := by rfl) :
    PI X (.Tuple elts n1 tp) (.Call (.Name "enumerate" p) [a] [] pos) (iEnum X.K ta) := by
  intro pins s σ H R I h
  refine Call_ (ld_blt I hg hm (show bootBuiltins "enumerate" = some (.type "enumerate") by decide +kernel) (PyProof.Rows.callWith_type1 (thn (ha pos pins s σ H _ I h) fun us s1 ⟨vs, H1, I1, r1, q1⟩ => ?_) hs rfl))
  obtain ⟨l, e, ⟨xs, hq⟩, q⟩ := q1
  subst e
  obtain ⟨u, rfl, ru⟩ := r1.one
  cases ru
  obtain ⟨its, rv, pl, hz⟩ := I1.list hq
  refine call_enumerate_list pl.isList fun h' e1 i1 z1 k1 => ?_
  have I2 : Inv X pins σ H1 { s1 with heap := h' } := I1.kept (t' := s1.toks) k1
  refine wpAny_pyIter_enum (s := { s1 with heap := h' }) e1 ?_
  refine ⟨s1.heap.objs.size + 1, [s1.heap.objs.size + 1, s1.heap.objs.size], _, _, H1, rfl, I2, turn_enum l (s1.heap.objs.size + 1) s1.heap.objs.size (Nat.succ_ne_self _), ⟨⟨.none, e1⟩, i1⟩, fun b hb => ?_, q⟩
  rcases List.mem_cons.mp hb with z | z
  · subst z; exact I1.fpOk (Nat.le_succ _) (I1.hok.fresh (Nat.le_succ _))
  · have z' : b = s1.heap.objs.size := by simpa using z
    subst z'; exact I1.fpOk (Nat.le_refl _) (I1.hok.fresh (Nat.le_refl _))

/-! ### texts: join, slices -/
theorem strsAre_of : ∀ {ys : List Str} {us : List Value}, Vals (ys.map V.str) us → StrsAre us ys := by
  intro ys
  induction ys with
  | nil => intro us r; cases r; exact .nil
  | cons y ys ih =>
    intro us r
    cases r with
    | cons q qs =>
      obtain ⟨t, rfl⟩ := q
      exact .cons _ _ (ih qs)
def rJoin (K : Frag) : V → List V → Hp → VK → Prop := fun x vs H Q => ∃ (z : Str) (p : Addr) (ys : List Str), x = .str z ∧ vs = [.ref p] ∧ (SqL K H p (ys.map V.str) ∨ SqT K H p (ys.map V.str)) ∧ (ys.map (·.length)).sum + ys.length * z.length ≤ 1000000 ∧ Q (.str (Txt.join z ys)) H
theorem mt_join : MtR X "str.join" (rJoin X.K) := by
  intro pins s σ H x xs v us Q I rx rv h
  obtain ⟨z, p, ys, rfl, rfl, hp, hz, q⟩ := h
  obtain ⟨t, rfl⟩ := rx
  obtain ⟨u, rfl, ru⟩ := rv.one
  cases ru
  rcases hp with hp | hp
  · obtain ⟨its, r, pl, _⟩ := I.list hp
    exact join_list pl.isList (by simpa using strsAre_of r) (by omega) fun t' k => ⟨.str _, H, I.tok _, ⟨_, rfl⟩, q⟩
  · obtain ⟨its, r, pl, _⟩ := I.tuple hp
    exact join_tuple pl (by simpa using strsAre_of r) (by omega) fun t' k => ⟨.str _, H, I.tok _, ⟨_, rfl⟩, q⟩
def rSlS : V → Option Int → Option Int → Hp → VK → Prop := fun x lo hi H Q => ∃ z : Str, x = .str z ∧ z.length ≤ 1000000 ∧ Q (.str (Txt.slice z lo hi)) H
theorem sl_str : SlR X rSlS := by
  intro pins s σ H x v vl vu lo hi sl Q I rx hs pl pu h
  obtain ⟨z, rfl, hz, q⟩ := h
  obtain ⟨t, rfl⟩ := rx
  have fz : (Txt.slice z lo hi).length ≤ sizeLine := Nat.le_trans (Txt.slice_le z _ _) (by rw [sizeLine_eq]; omega)
  refine ⟨"str", _, PySem.F.slot_str_getitem.lookup, typeIs_str _ _ _, ?_⟩
  cases pl with
  | none =>
    cases pu with
    | none => exact wpAny_getItem_str_slice (l := none) (u := none) (st := none) hs rfl (post_val_or_str ⟨fz, fun t' k => ⟨.str _, H, I.tok _, ⟨_, rfl⟩, q⟩⟩)
    | int j tj => exact wpAny_getItem_str_slice (l := none) (u := some (j, tj)) (st := none) hs rfl (post_val_or_str ⟨fz, fun t' k => ⟨.str _, H, I.tok _, ⟨_, rfl⟩, q⟩⟩)
  | int i ti =>
    cases pu with
    | none => exact wpAny_getItem_str_slice (l := some (i, ti)) (u := none) (st := none) hs rfl (post_val_or_str ⟨fz, fun t' k => ⟨.str _, H, I.tok _, ⟨_, rfl⟩, q⟩⟩)
    | int j tj => exact wpAny_getItem_str_slice (l := some (i, ti)) (u := some (j, tj)) (st := none) hs rfl (post_val_or_str ⟨fz, fun t' k => ⟨.str _, H, I.tok _, ⟨_, rfl⟩, q⟩⟩)
end

/-! ### the forms one uses of a comprehension -/
def CW (Pv : Nat → List V → St → Hp → Prop) (n i m : Nat) (ys : List V) (τ : St) (H : Hp) : Prop := m = n - i ∧ i ≤ n ∧ Pv i ys τ H
theorem cw_next {Pv : Nat → List V → St → Hp → Prop} {n i : Nat} {ys : List V} {τ : St} {H : Hp} (h : i < n) (p : Pv (i + 1) ys τ H) : ∃ m', m' < n - i ∧ CW Pv n (i + 1) m' ys τ H := ⟨n - (i + 1), by omega, rfl, h, p⟩
/-- over a range -/
theorem comp_range {lo : Int} {n : Nat} {g : TG} {ti : TT} {te : TE} {τ0 : St} {Q : VK} {p : Addr} {H1 : Hp} (Pv : Nat → List V → St → Hp → Prop) (h0 : Pv 0 [] τ0 (upd H1 p (.lst []))) (hl : ∀ i ys τ H, Pv i ys τ H → H p = some (.lst ys))
    (hs : ∀ i ys τ H, i < n → Pv i ys τ H → g (.int (lo + i)) τ H fun τ4 H4 => ti τ4 H4 fun b H5 => if b = true then te τ4 H5 fun y H6 => H6 p = some (.lst ys) ∧ ys.length < sizeLine ∧ ∃ m', m' < n - i ∧ CW Pv n (i + 1) m' (ys ++ [y]) τ4 (upd H6 p (.lst (ys ++ [y]))) else ∃ m', m' < n - i ∧ CW Pv n (i + 1) m' ys τ4 H5)
    (hd : ∀ ys τ H, Pv n ys τ H → Q (.ref p) H) : CompW (Itr lo n) g ti te τ0 Q p H1 := by
  refine ⟨CW Pv n, ⟨n, by simp, Nat.zero_le _, h0⟩, ?_⟩
  rintro i m ys τ H ⟨rfl, hi, pv⟩
  refine ⟨hl i ys τ H pv, ?_⟩
  by_cases hlt : i < n
  · refine .inr ⟨hlt, fun x H3 y3 => ?_⟩
    obtain ⟨e3, ex⟩ := y3
    subst e3 ex
    exact hs i ys τ _ hlt pv
  · have e : i = n := by omega
    subst e
    exact .inl ⟨Nat.le_refl _, hd ys τ H pv⟩
/-- over a list, over a tuple, that the block leaves as it is -/
theorem comp_list {K : Frag} {a : Addr} {xs : List V} {g : TG} {ti : TT} {te : TE} {τ0 : St} {Q : VK} {p : Addr} {H1 : Hp} (Pv : Nat → List V → St → Hp → Prop) (h0 : Pv 0 [] τ0 (upd H1 p (.lst []))) (hl : ∀ i ys τ H, Pv i ys τ H → H p = some (.lst ys) ∧ SqL K H a xs)
    (hs : ∀ i x ys τ H, xs[i]? = some x → Pv i ys τ H → g x τ H fun τ4 H4 => ti τ4 H4 fun b H5 => if b = true then te τ4 H5 fun y H6 => H6 p = some (.lst ys) ∧ ys.length < sizeLine ∧ ∃ m', m' < xs.length - i ∧ CW Pv xs.length (i + 1) m' (ys ++ [y]) τ4 (upd H6 p (.lst (ys ++ [y]))) else ∃ m', m' < xs.length - i ∧ CW Pv xs.length (i + 1) m' ys τ4 H5)
    (hd : ∀ ys τ H, Pv xs.length ys τ H → Q (.ref p) H) : CompW (Itl K a) g ti te τ0 Q p H1 := by
  refine ⟨CW Pv xs.length, ⟨xs.length, by simp, Nat.zero_le _, h0⟩, ?_⟩
  rintro i m ys τ H ⟨rfl, hi, pv⟩
  obtain ⟨hp, hq⟩ := hl i ys τ H pv
  refine ⟨hp, ?_⟩
  by_cases hlt : i < xs.length
  · refine .inr ⟨⟨xs, xs[i], hq, by simp [hlt]⟩, fun x H3 y3 => ?_⟩
    obtain ⟨e3, ex⟩ := y3
    subst e3
    exact hs i x ys τ _ (ex xs hq) pv
  · have e : i = xs.length := by omega
    subst e
    exact .inl ⟨⟨xs, hq, Nat.le_refl _⟩, hd ys τ H pv⟩
theorem comp_tup {K : Frag} {a : Addr} {xs : List V} {g : TG} {ti : TT} {te : TE} {τ0 : St} {Q : VK} {p : Addr} {H1 : Hp} (Pv : Nat → List V → St → Hp → Prop) (h0 : Pv 0 [] τ0 (upd H1 p (.lst []))) (hl : ∀ i ys τ H, Pv i ys τ H → H p = some (.lst ys) ∧ SqT K H a xs)
    (hs : ∀ i x ys τ H, xs[i]? = some x → Pv i ys τ H → g x τ H fun τ4 H4 => ti τ4 H4 fun b H5 => if b = true then te τ4 H5 fun y H6 => H6 p = some (.lst ys) ∧ ys.length < sizeLine ∧ ∃ m', m' < xs.length - i ∧ CW Pv xs.length (i + 1) m' (ys ++ [y]) τ4 (upd H6 p (.lst (ys ++ [y]))) else ∃ m', m' < xs.length - i ∧ CW Pv xs.length (i + 1) m' ys τ4 H5)
    (hd : ∀ ys τ H, Pv xs.length ys τ H → Q (.ref p) H) : CompW (Itt K a) g ti te τ0 Q p H1 := by
  refine ⟨CW Pv xs.length, ⟨xs.length, by simp, Nat.zero_le _, h0⟩, ?_⟩
  rintro i m ys τ H ⟨rfl, hi, pv⟩
  obtain ⟨hp, hq⟩ := hl i ys τ H pv
  refine ⟨hp, ?_⟩
  by_cases hlt : i < xs.length
  · refine .inr ⟨⟨xs, xs[i], hq, by simp [hlt]⟩, fun x H3 y3 => ?_⟩
    obtain ⟨e3, ex⟩ := y3
    subst e3
    exact hs i x ys τ _ (ex xs hq) pv
  · have e : i = xs.length := by omega
    subst e
    exact .inl ⟨⟨xs, hq, Nat.le_refl _⟩, hd ys τ H pv⟩
/-- the free names of a block, checked -/
def fvOk (N N' : List Str) (ixs : List (Option Nat)) (sc : Scope) : Bool := (List.range ixs.length).all fun j => match ixs[j]? with
  | some (some i) => (match N[i]? with | some x => N'[j]? == some x && sc.names.lookup x == some .free | none => false)
  | _ => true
theorem fv_of {N N' : List Str} {ixs : List (Option Nat)} {sc : Scope} (h : fvOk N N' ixs sc = true) (j i : Nat) (e : ixs[j]? = some (some i)) : ∃ x, N[i]? = some x ∧ N'[j]? = some x ∧ sc.names.lookup x = some .free := by
  have hj : j < ixs.length := (List.getElem?_eq_some_iff.mp e).1
  have z := List.all_eq_true.mp h j (List.mem_range.mpr hj)
  rw [e] at z
  dsimp only at z
  split at z
  · rename_i x q
    obtain ⟨z1, z2⟩ := Bool.and_eq_true_iff.mp z
    exact ⟨x, q, beq_iff_eq.mp z1, beq_iff_eq.mp z2⟩
  · cases z

/-! ### names -/
structure Nm (x : Str) : Prop where
  lo : 1 ≤ x.length
  hi : x.length ≤ 8
  az : ∀ c ∈ x.cps.toList, 97 ≤ c ∧ c ≤ 122
def sign (c : Nat) : Str := ⟨#[c]⟩
theorem fold_signs : ∀ (cs : List Nat) (acc : Array Nat), (cs.map sign).foldl (fun acc p => acc ++ ("" : Str).cps ++ p.cps) acc = acc ++ cs.toArray
  | [], acc => by simp
  | c :: cs, acc => by
    rw [List.map_cons, List.foldl_cons, fold_signs cs]
    have e : ("" : Str).cps = #[] := rfl
    rw [e]
    apply Array.toList_inj.mp
    simp [sign]
theorem join_signs (cs : List Nat) : Txt.join ("" : Str) (cs.map sign) = ⟨cs.toArray⟩ := by
  unfold Txt.join Builtin.Str.glued
  cases cs with
  | nil => rfl
  | cons c cs =>
    rw [List.map_cons]
    show (⟨(cs.map sign).foldl _ (sign c).cps⟩ : Str) = _
    rw [fold_signs]
    apply congrArg Str.mk
    apply Array.toList_inj.mp
    simp [sign]
theorem slice6_mem {z : Str} {c : Nat} (h : c ∈ (Txt.slice z none (some 6)).cps.toList) : c ∈ z.cps.toList := by
  unfold Txt.slice at h
  split at h
  · exact h
  · simp only [List.mem_filterMap] at h
    obtain ⟨i, _, e⟩ := h
    obtain ⟨_, e2⟩ := Array.getElem?_eq_some_iff.mp e
    rw [← e2]; simp
theorem slice6_len (z : Str) : (Txt.slice z none (some 6)).length ≤ 6 := by
  have hi : (Builtin.Str.strSliceIndices none (some 6) 1 z.length).length ≤ 6 := by
    unfold Builtin.Str.strSliceIndices sliceRange
    simp only [show (1 : Int) > 0 by decide, if_true, List.length_map, List.length_range]
    split <;> (try split) <;> omega
  unfold Txt.slice
  split
  · rename_i h
    have e : (Builtin.Str.strSliceIndices none (some 6) 1 z.length).length = z.length := by simpa using h
    omega
  · show (List.filterMap _ _).toArray.size ≤ 6
    rw [List.size_toArray]
    exact Nat.le_trans (List.length_filterMap_le _ _) hi
theorem strApp (a b : Str) : (a ++ b).cps = a.cps ++ b.cps := rfl
theorem cand_nm {z : Str} {c : Nat} (hz : ∀ c ∈ z.cps.toList, 97 ≤ c ∧ c ≤ 122) (hc : 97 ≤ c ∧ c ≤ 122) : Nm (Txt.slice z none (some 6) ++ sign c ++ ("q" : Str)) := by
  have hq : ("q" : Str).cps = #[113] := by decide +kernel
  have hl := slice6_len z
  have e : (Txt.slice z none (some 6) ++ sign c ++ ("q" : Str)).length = (Txt.slice z none (some 6)).length + 2 := by
    show (_ : Array Nat).size = _
    rw [strApp, strApp, hq]
    show (_ ++ #[c] ++ #[113]).size = _
    rw [Array.size_append, Array.size_append]; rfl
  refine ⟨by omega, by omega, fun d hd => ?_⟩
  rw [strApp, strApp, hq] at hd
  have hd' : d ∈ (Txt.slice z none (some 6)).cps.toList ∨ d = c ∨ d = 113 := by
    have : d ∈ ((Txt.slice z none (some 6)).cps ++ #[c] ++ #[113]).toList := hd
    simp at this
    rcases this with h | h | h
    · exact .inl (by simpa using h)
    · exact .inr (.inl h)
    · exact .inr (.inr h)
  rcases hd' with h | h | h
  · exact hz d (slice6_mem h)
  · rw [h]; exact hc
  · rw [h]; omega
theorem cand_inj {p : Str} {c d : Nat} (h : p ++ sign c ++ ("q" : Str) = p ++ sign d ++ ("q" : Str)) : c = d := by
  have h1 := congrArg (fun s : Str => s.cps.toList) h
  simp only [strApp] at h1
  have h2 : p.cps.toList ++ ([c] ++ ("q" : Str).cps.toList) = p.cps.toList ++ ([d] ++ ("q" : Str).cps.toList) := by
    simpa [sign, Array.toList_append] using h1
  have h3 := List.append_cancel_left h2
  simpa using h3
theorem pigeon : ∀ {ys found : List Str}, ys.Nodup → found.length < ys.length → ∃ y ∈ ys, y ∉ found
  | [], found, _, h => by simp at h
  | y :: ys, found, nd, h => by
    obtain ⟨n1, n2⟩ := List.nodup_cons.mp nd
    by_cases hy : y ∈ found
    · have hl := List.length_erase_of_mem hy
      have hp := List.length_pos_of_mem hy
      obtain ⟨z, hz, hn⟩ := pigeon (found := found.erase y) n2 (by rw [hl]; rw [List.length_cons] at h; omega)
      refine ⟨z, List.mem_cons_of_mem _ hz, fun q => hn ?_⟩
      have ne : z ≠ y := fun e => n1 (by rw [← e]; exact hz)
      exact (List.mem_erase_of_ne ne).mpr q
    · exact ⟨y, List.mem_cons_self, hy⟩
end L2
namespace L2
open PySem PySem.Spec PyProof.Rows PySem.W
/-! ### the rules with the fragment named (within a comprehension's block) -/
section
variable {X : Cx}
theorem op_in_K (K : Frag) (h : X.K = K) : OpR X (compareOp .In) (rIn K false) := by subst h; exact op_in_seq
theorem op_notIn_K (K : Frag) (h : X.K = K) : OpR X (compareOp .NotIn) (rIn K true) := by subst h; exact op_notIn_seq
theorem ix_list_K (K : Frag) (h : X.K = K) : IxR X (rIxL K) := by subst h; exact ix_list
theorem ix_tup_K (K : Frag) (h : X.K = K) : IxR X (rIxT K) := by subst h; exact ix_tup
theorem pi_list_K {tg l : Expr} {tl : TE} (K : Frag) (h : X.K = K) (hl : PE X l tl) : PI X tg l (iList K tl) := by subst h; exact pi_list hl
theorem pi_tup_K {tg l : Expr} {tl : TE} (K : Frag) (h : X.K = K) (hl : PE X l tl) : PI X tg l (iTup K tl) := by subst h; exact pi_tup hl
theorem call_len_K (K : Frag) (h : X.K = K) : CallR X (.builtin "len") (fun xs H Q => ∃ p ys, xs = [.ref p] ∧ (SqL K H p ys ∨ SqT K H p ys) ∧ Q (.int ys.length) H) := by subst h; exact call_len_seq
theorem call_isi_K (K : Frag) (h : X.K = K) : CallR X (.builtin "isinstance") (fun xs H Q => (∃ x, (∃ C, xs = [x, .ref C]) ∨ (∃ T, xs = [x, .ty T])) ∧ rIsi K xs H Q) := by subst h; exact call_isi
end
theorem inV_strs (x : Str) (ys : List Str) : inV (.str x) (ys.map V.str) = decide (x ∈ ys) := by
  unfold inV
  rw [List.any_map]
  induction ys with
  | nil => simp
  | cons y ys ih =>
    rw [List.any_cons, ih]
    show ((y == x) || decide (x ∈ ys)) = decide (x ∈ y :: ys)
    by_cases h : y = x
    · subst h; simp
    · have h' : (y == x) = false := beq_eq_false_iff_ne.mpr h
      rw [h', Bool.false_or]
      have : x ∈ y :: ys ↔ x ∈ ys := by simp [Ne.symm h]
      simp [this]
theorem flat_strs (ys : List Str) : (ys.map V.str).all flatV = true := by
  rw [List.all_eq_true]
  intro v hv
  obtain ⟨y, _, rfl⟩ := List.mem_map.mp hv
  rfl
end L2
namespace L2
open PySem PySem.Spec PyProof.Rows PySem.W

/-! ### an own error that is raised, leaves its def, and is caught by the caller -/
/-- the error itself is let go out of what is tracked -/
def dropA (H : Hp) (a : Addr) : Hp := fun b => if b = a then none else H b
theorem dropA_ne {H : Hp} {a b : Addr} (n : b ≠ a) : dropA H a b = H b := by unfold dropA; rw [if_neg n]
theorem dropA_some {H : Hp} {a b : Addr} {o : HO} (e : dropA H a b = some o) : b ≠ a ∧ H b = some o := by
  unfold dropA at e
  split at e
  · cases e
  next n => exact ⟨n, e⟩
theorem dropA_none {H : Hp} {a b : Addr} (e : H b = none) : dropA H a b = none := by
  unfold dropA; split
  · rfl
  · exact e
/-- how such an error flies: whatever comes next keeps what B has, and of the rest at least all but the slots -/
def CXR (P : Program) (w : World) : CXT := fun outer H s E e s' => ∃ (a : Addr) (cls a0 : Value) (H' : Hp) (B : Heap), e = .ref a ∧ s'.os = s.os ∧ AllBare s'.gens ∧ Heap.FlyingW B outer a cls a0 s'.heap ∧
  (∀ h', B.StaysIn h' → s'.heap.UpToSlots h' → Un (frs outer) [] H H' s.heap h' ∧ HOk P w H' h') ∧ E cls none H'

section
variable {X : Cx} {pins : List (Addr × Obj)} {σ : St} {H H1 : Hp} {s s1 : Shared} {a C : Addr} {dx : Option Addr}
/-- an own error as an instance -/
theorem Inv.excInst (I : Inv X pins σ H s) (e : H a = some (ExcO C dx a)) (hd : ∀ d, dx = some d → ∃ fs, H d = some (ExcD d fs)) : ∃ ox od t, InstAt s.heap a ox C od ∧ ox = { cls := .ref C, dict := dx, data := .fields #[.ref t, .none, .none, .none, .bool false, .none] } := by
  obtain ⟨t, at_⟩ := I.excAt e
  cases dx with
  | none => exact ⟨_, none, t, ⟨at_, rfl, rfl, True.intro⟩, rfl⟩
  | some d =>
    obtain ⟨fs, ed⟩ := hd d rfl
    obtain ⟨_, mA, n, r, _⟩ := I.excDict ed
    obtain ⟨od, hod, _⟩ := lookIn_ns n
    exact ⟨_, some od, t, ⟨at_, rfl, rfl, hod⟩, rfl⟩
/-- what is tracked behind the frames' and the error's hiding -/
theorem Inv.hidden (I : Inv X pins σ H s) (hx : X.ex = []) (hs : X.stack = X.env :: X.outer) (hf : X.env.frame = some X.env.locals) (ha : H a = some (ExcO C dx a)) (h0 : X.H₀ a = none) {h' : Heap}
    (k : (hideAll s.heap (a :: frs X.stack)).StaysIn h') (up : s.heap.UpToSlots h') : Un X.fs [] X.H₀ (dropA H a) X.s₀.heap h' ∧ HOk X.prog X.w (dropA H a) h' := by
  have ub : Un X.fs [] X.H₀ H X.s₀.heap s.heap := by have := I.base; rw [hx] at this; exact this
  have memS : ∀ b, b ∈ frs X.stack → b = X.env.locals ∨ b ∈ X.fs := fun b hb => by
    have := I.stkSub b hb
    rcases List.mem_cons.mp this with z | z
    · exact .inl z
    · exact .inr z
  have nA : ∀ {b : Addr}, H b = none → b ≠ a := fun e z => by subst z; rw [ha] at e; cases e
  have get : ∀ b o, s.heap.get? b = some o → b ≠ a → b ∉ frs X.stack → h'.get? b = some o := fun b o e n m => k b o (hideAll_get _ e fun z => by
    rcases List.mem_cons.mp z with z | z
    · exact n z
    · exact m z)
  have oldL : ∀ b o, X.s₀.heap.get? b = some o → b ≠ X.env.locals := fun b o e z => by
    have h1 := Heap.lt_size e
    have h2 := I.ok.above
    subst z
    exact absurd h1 (Nat.not_lt.mpr h2)
  have slotU : ∀ b o, b ∈ X.fs → s.heap.get? b = some o → ∃ sl, h'.get? b = some { o with slots := sl } := fun b o m e => by
    obtain ⟨_, o', e', nf⟩ := (I.funs).mem m
    rw [e] at e'
    cases e'
    exact up b o e nf
  refine ⟨⟨fun b o e n m _ => ?_, fun b o e n m _ => ?_, fun b o e n _ => dropA_none (ub.free b o e n (by simp)), fun b o e _ => ?_, fun b xs e => ?_, fun b o u e => ?_, fun b ps e => ?_⟩, fun b o e => ?_⟩
  · have e1 := ub.keep b o e n m (by simp)
    refine get b o e1 (nA (ub.free b o e n (by simp))) fun z => ?_
    rcases memS b z with z | z
    · exact oldL b o e z
    · exact m z
  · obtain ⟨sl, e1⟩ := ub.slot b o e n m (by simp)
    obtain ⟨sl', e2⟩ := slotU b _ m e1
    exact ⟨sl', e2⟩
  · obtain ⟨o', e1⟩ := ub.there b o e (by simp)
    by_cases m : b ∈ X.fs
    · obtain ⟨sl, e2⟩ := slotU b _ m e1
      exact ⟨_, e2⟩
    · refine ⟨o', get b o' e1 (fun z => ?_) fun z => ?_⟩
      · subst z
        have := ub.free b o e h0 (by simp)
        rw [ha] at this; cases this
      · rcases memS b z with z | z
        · exact oldL b o e z
        · exact m z
  · have e1 := ub.tups b xs e
    rw [dropA_ne (ne_of e1 ha (by intro z; cases z))]; exact e1
  · have e1 := ub.frzs b o u e
    rw [dropA_ne (ne_of e1 ha (by intro z; cases z))]; exact e1
  · obtain ⟨mo, e1⟩ := ub.tbls b ps e
    exact ⟨mo, by rw [dropA_ne (ne_of e1 ha (by intro z; cases z))]; exact e1⟩
  · obtain ⟨n, e1⟩ := dropA_some e
    have nofr : ∀ {c : Addr} {u : HO}, H c = some u → c ∉ frs X.stack := fun q m => by
      have := I.stkFree _ m
      rw [q] at this; cases this
    refine (I.hok b o e1).stay (fun c u hc q => ?_) (fun c q => ?_) fun c xs q => ?_
    · rcases hc with rfl | q1
      · exact get _ u q n (nofr e1)
      · exact get c u q (ne_of q1 ha (by intro z; cases z)) (nofr q1)
    · rw [dropA_ne (ne_of q ha (by intro z; cases z))]; exact q
    · rw [dropA_ne (ne_of q ha (by intro z; cases z))]; exact q
end

section
variable {X : Cx} {pins : List (Addr × Obj)} {σ : St} {H H1 : Hp} {s s1 : Shared} {a C : Addr} {dx : Option Addr}
/-- raise of such an instance, up to the throw -/
theorem raise_inst {e : Expr} {pos : Pos} {te : TE} {D : Ends} {R : Addr → Addr → Hp → Prop} (I : Inv X pins σ H s) (hc : X.calm = true) (he : PE X e te)
    (h : te σ H fun v H1 => ∃ a C dx i, v = .ref a ∧ H1 a = some (ExcO C dx a) ∧ (∀ d, dx = some d → ∃ fs, H1 d = some (ExcD d fs)) ∧ XCls X.K C ∧ excInI X.K C i = true ∧ R a C H1)
    (fin : ∀ a C dx H1 s1, Inv X pins σ H1 s1 → H1 a = some (ExcO C dx a) → R a C H1 → X.xe (.ref a) s1) :
    wpAny (model X.prog X.w) X.A (exec (.Raise (some e) none pos) X.env) (SP X pins D) X.xe s := by
  rw [arm_exec_Raise]
  refine wpAny_bind (wpAny_standAt (show wpAny _ _ (raiseStmt X.env (some (do let v ← eval e X.env; standAt pos; pure v)) none) _ _ _ from ?_))
  unfold raiseStmt
  refine wpAny_bind (wpAny_bind (thn (he pins s σ H _ I h) fun u s1 ⟨v, H1, J, r, a, C, dx, i, ev, ea, hd, c, q, hR⟩ => wpAny_bind (wpAny_standAt (wpAny_pure ?_))))
  subst ev
  obtain rfl : u = .ref a := r
  obtain ⟨ox, od, t, inst, rfl⟩ := J.excInst ea hd
  have notTy : Looks (model X.prog X.w) s1.heap (isType (.ref a)) false := fun A' Q' E' s' k z => by
    simp only [isType, loadHead]
    exact wpAny_bind (wpAny_loadPart (k _ _ inst.at_) (wpAny_pure z))
  have isB : Looks (model X.prog X.w) s1.heap (isInstance (.ref a) (.type "BaseException")) true := inst.type.andThen (looks_mroIn J.kIn c.be)
  obtain ⟨bm, N, nm, qn, bs, hdct, sn, sub, ab, col, dd, k0, k1, k2, k3, k5, mN, hC, _⟩ := (exc_of_in J.kIn q).ex
  have tyC : s1.TypeIs (.ref C) "type" := ⟨_, hC, rfl⟩
  refine wpAny_bind (wpAny_pure (wpAny_bind (wpAny_holding ?_)))
  unfold excFromValue isExcClass
  refine wpAny_bind (wpAny_bind (notTy.here (wpAny_pure ?_)))
  refine wpAny_bind (isB.here (wpAny_pure ?_))
  refine wpAny_bind (notTy.here ?_)
  unfold raisedInstance
  refine wpAny_bind (wpAny_bind (inst.type.here (wpAny_bind (wpAny_typeOf tyC ?_))))
  rw [if_pos (show (Value.type "type" == Value.type "type") = true from by decide)]
  refine wpAny_pure ?_
  unfold setFlight raiseNew
  refine wpAny_bind (wpAny_bind (wpAny_field inst.at_ rfl (x := .none) rfl ?_))
  rw [if_neg (show ¬ ((Value.none != Value.none) = true) from by decide)]
  refine wpAny_pure (wpAny_bind (wpAny_handled_none (J.ok.hd hc) ?_))
  first
    | exact wpAny_throw (fin a C dx H1 s1 J ea hR)
    | exact wpAny_bind (wpAny_pure (wpAny_throw (fin a C dx H1 s1 J ea hR)))
end

section
variable {P : Program} {w : World} {K : Frag} {mg : Str → Option Value} {base : Heap} {N : List Str} {qual : Str} {scope : Scope} {f : Addr} {cd : Value} {A : Around} {outer : List Env} {s : Shared} {H : Hp} {E : XK}
/-- raise in a def's own body -/
def sRaise (K : Frag) (H0 : Hp) (E : XK) (te : TE) : TS := fun _ σ H => te σ H fun v H1 => ∃ a C dx i, v = .ref a ∧ H1 a = some (ExcO C dx a) ∧ (∀ d, dx = some d → ∃ fs, H1 d = some (ExcD d fs)) ∧ XCls K C ∧ excInI K C i = true ∧ H0 a = none ∧ E (.ref C) none (dropA H1 a)
theorem ps_raise {e : Expr} {pos : Pos} {te : TE} (he : PE (cxOf (CXR P w) P w K mg base N qual scope f cd A outer s H E) e te) :
    PS (cxOf (CXR P w) P w K mg base N qual scope f cd A outer s H E) (.Raise (some e) none pos) (sRaise K H E te) := by
  intro pins s1 σ H1 D I h
  refine raise_inst (R := fun a C H2 => H a = none ∧ E (.ref C) none (dropA H2 a)) I rfl he h fun a C dx H2 s2 J ea ⟨h0, hE⟩ => ?_
  have fr : s2.heap.FunFrames base (envOfC qual scope s.heap.objs.size f cd :: outer) := J.stack
  have all : ∀ env ∈ (envOfC qual scope s.heap.objs.size f cd :: outer), ∀ b, env.frame = some b → b ∈ a :: frs (envOfC qual scope s.heap.objs.size f cd :: outer) := fun env m b hb => List.mem_cons_of_mem _ (List.mem_filterMap.mpr ⟨env, m, hb⟩)
  obtain ⟨t, at_⟩ := J.excAt ea
  show wpAny (model P w) _ (leaving _ (.ref a)) _ _ _
  refine wpAny_leaving_firstW (base := hideAll s2.heap (a :: frs (envOfC qual scope s.heap.objs.size f cd :: outer))) (L := s.heap.objs.size) (a0 := .ref t) J.ok.frames (funFrames_hide fr all) rfl at_ (fun b o q => of_hideAll _ q) (hideAll_none _ List.mem_cons_self) rfl rfl rfl fun h' hL => ?_
  obtain ⟨k1, ⟨_, _, k2⟩, k3, k4⟩ := hL
  refine ⟨a, .ref C, .ref t, dropA H2 a, hideAll s2.heap (a :: frs (envOfC qual scope s.heap.objs.size f cd :: outer)), rfl, J.os, J.bare, ⟨k1, hideAll_none _ List.mem_cons_self, k2, k3⟩, fun h'' kb up => ?_, hE⟩
  exact J.hidden rfl rfl rfl ea h0 kb (Heap.UpToSlots.trans k4 up)

/-- the def's rule, where its body may raise -/
theorem Fun.okX {x : Str} {st : Stmt} {fd : FuncData} {ps : List Str} {k : Nat} {sp : Sp} (F : Fun K x qual st f fd) (S : FnScope N ps (defScope st)) (len : ∀ vs H Q E, sp vs H Q E → vs.length = ps.length)
    (hbody : ∀ (cdv : Value) (A : Around) (outer : List Env) (s : Shared) (H : Hp) (vs : List V) (Q : VK) (E : XK), Room k (A.deeper (envOfC qual (defScope st) s.heap.objs.size f cdv)) → sp vs H Q E →
      ∃ t, PSs (cxOf (CXR P w) P w K mg base N qual (defScope st) f cdv A outer s H E) (defBody st) t ∧ t { nx := fun _ H' => Q .non H', rt := Q } (start N vs) H) : FnOk P w K mg base (CXR P w) (k + 1) f fd ps sp := by
  obtain ⟨oc, od, kV, doc, pm, an, cdv, ct, osl, rfl, lk, hcd⟩ := F.ex
  exact fn_of lk hcd S len fun A outer s H vs Q E hr hsp => hbody cdv A outer s H vs Q E hr hsp
end

/-! ### try: x = f(..) except C: .. -/
/-- within the except suite -/
def Cx.caught (X : Cx) (a : Addr) : Cx := { X with A := X.A.mark (some (.ref a)), calm := false, xe := fun _ _ => False }
section
variable {X : Cx} {pins : List (Addr × Obj)} {σ : St} {H : Hp} {s : Shared} {a C : Addr}
theorem Inv.caught (I : Inv X pins σ H s) (a : Addr) : Inv (X.caught a) pins σ H s :=
  ⟨⟨I.ok.mod, I.ok.kind, I.ok.glob, I.ok.blt, I.ok.above, I.ok.inj, I.ok.has, I.ok.cab, (fun z => Bool.noConfusion (show false = true from z)), I.ok.frames, I.ok.stk, I.ok.exf, I.ok.bs, I.ok.bsz, I.ok.noex, I.ok.exfs, I.ok.funs, I.ok.frf⟩, I.os, I.bare, I.base, I.loc, I.cell, I.free, I.freeC, I.pin, I.hok, I.len⟩
theorem Inv.uncaught {Y : Cx} (ok : X.Ok) (I : Inv (X.caught a) pins σ H s) : Inv X pins σ H s :=
  ⟨ok, I.os, I.bare, I.base, I.loc, I.cell, I.free, I.freeC, I.pin, I.hok, I.len⟩
theorem SP.uncaught {D : Ends} {f : Flow} (ok : X.Ok) (h : SP (X.caught a) pins D f s) : SP X pins D f s := by
  cases f with
  | next => obtain ⟨σ', H', I, q⟩ := h; exact ⟨σ', H', I.uncaught (Y := X) ok, q⟩
  | brk => obtain ⟨σ', H', I, q⟩ := h; exact ⟨σ', H', I.uncaught (Y := X) ok, q⟩
  | cont => obtain ⟨σ', H', I, q⟩ := h; exact ⟨σ', H', I.uncaught (Y := X) ok, q⟩
  | ret u => obtain ⟨v, σ', H', I, r, q⟩ := h; exact ⟨v, σ', H', I.uncaught (Y := X) ok, r, q⟩
/-- an own error meets a clause that names its class -/
theorem exc_matches {A : Around} {E : Value → Shared → Prop} {Q : Bool → Shared → Prop} {P : Program} {w : World} {K : Frag} {ox : Obj} {i : Option Value} (X : K.In s.heap) (c : XCls K C) (me : mroIn K C (.ref C) = some true) (q : excInI K C i = true) (at_ : s.heap.get? a = some ox) (cl : ox.cls = .ref C) (h : Q true s) :
    wpAny (model P w) A (excMatches (.ref a) (.ref C)) Q E s := by
  obtain ⟨bm, N, nm, qn, bs, hdct, sn, sub, ab, col, dd, k0, k1, k2, k3, k5, mN, hC, _, _, T⟩ := (exc_of_in X q).ex
  obtain ⟨hh, g, d, tk, os⟩ := s
  exact wpAny_excMatches_sub_self hC at_ cl (T.hasType (by decide)) h
end

section
variable {X : Cx} {k i : Nat} {f C : Addr} {fd : FuncData} {ps : List Str} {sp : Sp} {x fn cn : Str} {p1 p2 p3 p4 p5 p6 p7 : Pos} {e : Expr} {es : List Expr} {t : TA} {b0 : Stmt} {suite : List Stmt} {th : TS} {ci : Option Value}
def sTryCall (C : Addr) (sp : Sp) (i : Nat) (t : TA) (th : TS) : TS := fun D σ H => t σ H fun vs H1 => sp vs H1 (fun v H2 => D.nx (σ.set i (some v)) H2) fun cls _ H2 => cls = .ref C ∧ th D σ H2
theorem ps_tryCall (F : FnOk X.prog X.w X.K X.mg X.base (CXR X.prog X.w) k f fd ps sp) (hr : Room k X.A) (hg : Gl X fn) (hm : X.mg fn = some (.ref f)) (hk : keepIn X.K (.ref f) = true) (hb : Binds X.K fd ps []) (ha : PA X (e :: es) t)
    (hN : X.N.Nodup) (hi : X.N[i]? = some x) (hx : Loc X.env.scope x) (h0 : X.xe = fun _ _ => False) (hc : X.calm = true) (hs : X.stack = X.env :: X.outer) (hf : X.env.frame = some X.env.locals)
    (gc : Gl X cn) (mc : X.mg cn = some (.ref C)) (c : XCls X.K C) (me : mroIn X.K C (.ref C) = some true) (qc : excInI X.K C ci = true) (hh : ∀ a, PSs (X.caught a) (b0 :: suite) th)
    (hdb : (fn == ("__debug__" : Str)) = false := by decide) (hdc : (cn == ("__debug__" : Str)) = false := by decide) (he : starEach (e :: es) X.env = (false, eval e X.env) :: starEach es X.env := by rfl) (hpl : (backTo p3 (starEach es X.env)).any (·.1) = false := by rfl)
    (hsw : swapsWith (.Call (.Name fn p2) (e :: es) [] p3) (some (.Name x p1)) p4.line X.env = pure false := by rfl) (hfn : X.fn x = true ∨ X.env.scope.names.lookup x = some .local := by first | exact .inl rfl | exact .inr rfl | assumption) :
    PS X (.Try [.Assign [.Name x p1] (.Call (.Name fn p2) (e :: es) [] p3) p4] [.ExceptHandler (some (.Name cn p5)) none (b0 :: suite) p6] [] [] p7) (sTryCall C sp i t th) := by
  intro pins s σ H D I h
  have nr : ∀ {α : Type} {tt : Sem α} {Q : α → Shared → Prop} {E : Value → Shared → Prop} {s' : Shared}, wpAny (model X.prog X.w) X.A tt Q X.xe s' → wpAny (model X.prog X.w) X.A tt Q E s' := fun z => by rw [h0] at z; exact wpAny_noRaise z
  refine wpAny_Try_except (wpAny_execs_cons (wpAny_Assign_Name ?_ hsw))
  refine wpAny_Call_Name_kw (ld_glob I hg hm ?_ hdb)
  refine callWith_K (h₀ := X.base) I.ok.mod.kin hk (thn (nr (ha p3 pins s σ H _ I h)) fun us s1 ⟨vs, H1, I1, r, q⟩ => ⟨I1.kIn, ?_⟩) he hpl
  have hl : us.length = ps.length := by rw [← r.length]; exact F.len _ _ _ _ q
  have hb' := hb s1 us I1.kIn (by rw [List.append_nil]; exact hl)
  rw [List.append_nil] at hb'
  refine wpAny_call (codeAny_mono (F.run X.A X.stack s1 H1 ⟨us, []⟩ us vs _ _ hr I1.env0 hb' r q) fun res s2 hq => ?_)
  cases res with
  | ok fl =>
    cases fl with
    | ret u =>
      obtain ⟨v, H2, I2, rv, q2⟩ := I1.after hq
      exact store_ok I2 hN hi hx rv (fun s3 I3 => wpAny_execs_nil (wpAny_execs_nil ⟨_, H2, I3, q2⟩)) hfn
    | next => exact False.elim hq
    | brk => exact False.elim hq
    | cont => exact False.elim hq
  | error ev =>
    obtain ⟨a, cls, a0, H', B, rfl, os, bare, fly, fut, rfl, hth⟩ := hq
    rw [hs] at fly
    refine wpAny_looks_onW (by rw [← hs]; exact I1.ok.frames) hf fly fun h3 held up3 => ?_
    refine wpAny_landsW held fun h4 fly4 up4 => ?_
    have up : s2.heap.UpToSlots h4 := Heap.UpToSlots.trans up3 up4
    obtain ⟨u4, ok4⟩ := fut h4 fly4.1 up
    have J : Inv X pins σ H' { s2 with heap := h4 } := I1.call' (s' := { s2 with heap := h4 }) os u4 ok4 bare (fun b z => absurd z (by simp))
    obtain ⟨ox, hox, hcl⟩ := fly4.there
    refine wpAny_handleBy_cons (codeAny_handlers_test ?_) (by intro z; cases z)
    refine ld_glob (J.caught a) gc mc ?_ hdc
    refine exc_matches (K := X.K) J.kIn c me qc hox hcl ?_
    refine codeAny_handlers_suite ?_
    refine lands_againW fly4 fun h5 fly5 up5 => ?_
    obtain ⟨u5, ok5⟩ := fut h5 fly5.1 (Heap.UpToSlots.trans up up5)
    have J5 : Inv X pins σ H' { s2 with heap := h5 } := I1.call' (s' := { s2 with heap := h5 }) os u5 ok5 bare (fun b z => absurd z (by simp))
    refine wpAny_noRaise (thn (hh a pins _ σ H' D (J5.caught a) hth) fun fl s6 z => ?_)
    exact SP.uncaught J5.ok z
end
end L2
namespace L2
open PySem PySem.Spec PyProof.Rows PySem.W

/-! ### any(rows): a list of tuples -/
section
variable {P : Program} {w : World} {A : Around} {R : Result → Shared → Prop}
theorem any_tups {it l : Addr} {its : Array Value} {g : Heap} (tr : Nat → Bool) (hh : A.in1.handled = none) (hne : l ≠ it) (hl : g.IsList l its)
    (ht : ∀ i v, its[i]? = some v → ∃ a ws, v = .ref a ∧ a ≠ it ∧ IsTup g a ws ∧ ws.size ≤ sizeLine ∧ tr i = !ws.isEmpty) : ∀ (k i : Nat) (s : Shared), its.size - i = k → i ≤ its.size → (∀ b o, b ≠ it → g.get? b = some o → s.heap.get? b = some o) → s.heap.IsListIter it l i →
    (∀ h' tk, (∀ b o, b ≠ it → g.get? b = some o → h'.get? b = some o) → R (.ok (.ret (.bool (((List.range its.size).drop i).any tr)))) { s with heap := h', toks := tk }) →
    codeAny (model P w) A (.builtin "any.loop" ⟨[.ref it], []⟩) R s := by
  intro k
  induction k with
  | zero =>
    intro i s hk hi kp hit hR
    obtain rfl : i = its.size := by omega
    refine codeAny_builtin F.entry_any_loop (?_ : wpAny _ _ _ _ _ _)
    rw [show A.under (.builtin "any.loop" ⟨[.ref it], []⟩) = A.in1 from Around.under_plainId F.plain_any_loop _]
    show wpAny _ _ (pyNext (.ref it) >>= _) _ _ s
    have hl' : s.heap.IsList l its := hl.at fun o e => kp l o hne e
    refine wpAny_bind (wpAny_pyNext_list_end hh hit hl' (by simp) fun h' ex => wpAny_bind (wpAny_rule (wpAny_pure ?_)))
    have := hR h' s.toks fun b o n e => ex b o n (kp b o n e)
    rw [List.drop_of_length_le (by simp)] at this
    exact this
  | succ k ih =>
    intro i s hk hi kp hit hR
    have hlt : i < its.size := by omega
    have hd : (List.range its.size).drop i = i :: (List.range its.size).drop (i + 1) := by rw [List.drop_eq_getElem_cons (by simpa using hlt), List.getElem_range]
    refine codeAny_builtin F.entry_any_loop (?_ : wpAny _ _ _ _ _ _)
    rw [show A.under (.builtin "any.loop" ⟨[.ref it], []⟩) = A.in1 from Around.under_plainId F.plain_any_loop _]
    show wpAny _ _ (pyNext (.ref it) >>= _) _ _ s
    have hl' : s.heap.IsList l its := hl.at fun o e => kp l o hne e
    have hx : its[i]? = some its[i] := by simp [hlt]
    obtain ⟨a, ws, ea, na, htup, hz, htr⟩ := ht i _ hx
    refine wpAny_bind (wpAny_pyNext_list_item hit hl' hx fun h' hit' sb => ?_)
    have kp' : ∀ b o, b ≠ it → g.get? b = some o → h'.get? b = some o := fun b o n e => sb.extBut b o n (kp b o n e)
    have htup' : IsTup h' a ws := by
      obtain ⟨o, ho, r⟩ := htup
      exact ⟨o, kp' a o na ho, r⟩
    rw [ea]
    refine wpAny_bind (wpAny_holding (truthy_tuple (s := { s with heap := h' }) htup' (by rw [sizeLine_eq] at hz; omega) (wpAny_bind (wpAny_letGo ?_))))
    rw [← htr]
    cases hb : tr i with
    | false =>
      refine wpAny_pure ⟨plainId_quiet F.plain_any_loop _, ih (i + 1) _ (by omega) hlt kp' hit' fun h2 tk2 k2 => ?_⟩
      have := hR h2 tk2 k2
      rw [hd, List.any_cons, hb, Bool.false_or] at this
      exact this
    | true =>
      refine wpAny_bind (wpAny_rule (wpAny_pure ?_))
      have := hR h' (s.toks + 1 + 1) kp'
      rw [hd, List.any_cons, hb, Bool.true_or] at this
      exact this
end
section
variable {X : Cx}
/-- any(list of tuples) -/
theorem call_anyT (hc : X.calm = true) : CallR X (.builtin "any") (fun xs H Q => ∃ (p : Addr) (ys : List V) (rs : List (List V)), xs = [.ref p] ∧ SqL X.K H p ys ∧ Paired (fun y r => ∃ a, y = V.ref a ∧ SqT X.K H a r) ys rs ∧ Q (.bl (rs.any fun r => !r.isEmpty)) H) := by
  intro pins s σ H xs us Q I r h
  obtain ⟨p, ys, rs, rfl, hq, pr, q⟩ := h
  obtain ⟨u, rfl, rx⟩ := vals1 r
  cases rx
  obtain ⟨its, rv, pl, hz⟩ := I.list hq
  have hlen := rv.length
  have all : ∀ i v, its[i]? = some v → ∃ a ws, v = .ref a ∧ IsTup s.heap a ws ∧ ws.size ≤ sizeLine ∧ (rs.map fun r => !r.isEmpty).getD i false = !ws.isEmpty := by
    intro i v e
    clear q hq pl hz r
    induction rv generalizing rs i with
    | nil => simp at e
    | cons r1 rt ih =>
      cases pr with
      | cons p1 pt =>
        cases i with
        | zero =>
          simp at e
          subst e
          obtain ⟨a, rfl, ha⟩ := p1
          cases r1
          obtain ⟨ws, r2, ht, hz2⟩ := I.tuple ha
          have hl2 := r2.length
          exact ⟨a, _, rfl, ht, by rw [List.size_toArray]; omega, by rw [isEmpty_of r2]; rfl⟩
        | succ i => exact ih _ pt (by simpa using hlen) i (by simpa using e)
  have hsz : its.toArray.size = rs.length := by rw [List.size_toArray, ← hlen]; exact Paired.length pr
  have fin : (List.range its.toArray.size).any (fun i => (rs.map fun r => !r.isEmpty).getD i false) = rs.any fun r => !r.isEmpty := by
    rw [hsz]
    apply Bool.eq_iff_iff.mpr
    simp only [List.any_eq_true, List.mem_range]
    constructor
    · rintro ⟨i, hi, e⟩
      refine ⟨rs[i], List.getElem_mem hi, ?_⟩
      simpa [List.getD, hi] using e
    · rintro ⟨r, hr, e⟩
      obtain ⟨i, hi, rfl⟩ := List.getElem_of_mem hr
      exact ⟨i, hi, by simpa [List.getD, hi] using e⟩
  refine call_function_tree F.kind_any F.plain_any F.entry_any (F.args_any1 (.ref p)) (?_ : wpAny _ _ _ _ _ _)
  unfold Builtin.«any»
  refine wpAny_bind (m := oneArg "any" _) (wpAny_pure (wpAny_bind (wpAny_pyIter_list pl.isList ?_)))
  have new : ∀ b o, s.heap.get? b = some o → b ≠ s.heap.objs.size := fun b o e => Nat.ne_of_lt (Heap.lt_size e)
  obtain ⟨ol, hol, _⟩ := id pl.isList
  refine wpAny_pure ⟨plainId_quiet F.plain_any_loop _, any_tups (g := s.heap) (fun i => (rs.map fun r => !r.isEmpty).getD i false) (I.ok.hd hc) (new p ol hol) pl.isList (fun i v e => ?_) _ 0 _ rfl (Nat.zero_le _) (fun b o n e => Heap.get?_push_of_some _ e) ⟨_, Heap.get?_push_size _ rfl, rfl, rfl⟩ fun h' tk kp => ?_⟩
  · obtain ⟨a, ws, ea, ht, hz2, e2⟩ := all i v (by simpa using e)
    obtain ⟨o, ho, _⟩ := id ht
    exact ⟨a, ws, ea, new a o ho, ht, hz2, e2⟩
  · rw [List.drop_zero, fin]
    exact ⟨.bl _, H, I.kept (t' := tk) fun b o e => kp b o (new b o e) e, rfl, q⟩
end

section
variable {X : Cx}
/-- all(list of bools) -/
theorem call_allB (hc : X.calm = true) : CallR X (.builtin "all") (fun xs H Q => ∃ (p : Addr) (bs : List Bool), xs = [.ref p] ∧ SqL X.K H p (bs.map V.bl) ∧ Q (.bl (bs.all id)) H) := by
  intro pins s σ H xs us Q I r h
  obtain ⟨p, bs, rfl, hq, q⟩ := h
  obtain ⟨u, rfl, rx⟩ := vals1 r
  cases rx
  obtain ⟨its, rv, pl, hz⟩ := I.list hq
  have hlen := rv.length
  have vals : its = bs.map Value.bool := by
    clear q hq pl hz r hlen
    induction bs generalizing its with
    | nil => cases rv; rfl
    | cons b bs ih =>
      cases rv with
      | cons r1 rt => cases r1; rw [ih _ rt]; rfl
  have new : ∀ b o, s.heap.get? b = some o → b ≠ s.heap.objs.size := fun b o e => Nat.ne_of_lt (Heap.lt_size e)
  obtain ⟨ol, hol, _⟩ := id pl.isList
  refine call_all_walk (wpAny_pyIter_list pl.isList ?_)
  refine ⟨s.heap.objs.size, _, _, _, _, _, fun i => bs.getD i true, rfl, Walks.list (A := X.A.in1) (I.ok.hd hc) s.heap.objs.size p (new p ol hol) its.toArray, ⟨⟨_, Heap.get?_push_size _ rfl, rfl, rfl⟩, pl.isList.at fun o e => Heap.get?_push_of_some _ e⟩, fun i v s2 Q2 E2 hv hq2 => ?_, fun h' tk kp => ?_⟩
  · rw [vals] at hv
    have : bs[i]?.map Value.bool = some v := by simpa using hv
    obtain ⟨b, hb, rfl⟩ := Option.map_eq_some_iff.mp this
    refine wpAny_truthy_bool ?_
    have e : bs.getD i true = b := by rw [List.getD_eq_getElem?_getD, hb]; rfl
    exact e ▸ hq2
  · have fin : (List.range its.toArray.size).all (fun i => bs.getD i true) = bs.all id := by
      have hs : its.toArray.size = bs.length := by rw [vals]; simp
      rw [hs]
      apply Bool.eq_iff_iff.mpr
      simp only [List.all_eq_true, List.mem_range]
      constructor
      · intro h b hb
        obtain ⟨i, hi, rfl⟩ := List.getElem_of_mem hb
        simpa [List.getD, hi] using h i hi
      · intro h i hi
        simpa [List.getD, hi] using h bs[i] (List.getElem_mem hi)
    rw [fin]
    exact ⟨.bl _, H, I.kept (t' := tk) fun b o e => kp b o (by simpa using new b o e) (Heap.get?_push_of_some _ e), rfl, q⟩
/-- xs.index(x), a list of texts -/
def rIndexL : V → List V → Hp → VK → Prop := fun x vs H Q => ∃ (l : Addr) (ys : List Str) (y : Str) (j : Nat), x = .ref l ∧ vs = [.str y] ∧ H l = some (.lst (ys.map V.str)) ∧ ys[j]? = some y ∧ (∀ m, m < j → ys[m]? ≠ some y) ∧ Q (.int j) H
theorem mt_index : MtM X "list.index" rIndexL := by
  intro pins s σ H x vs v us Q I rx rv h
  obtain ⟨l, ys, y, j, rfl, rfl, hH, hj, hno, q⟩ := h
  cases rx
  obtain ⟨u, rfl, t, rfl⟩ := rv.one
  obtain ⟨z, its, n, r, hl, e⟩ := I.lstM hH
  have hjl : j < its.length := by
    have := (List.getElem?_eq_some_iff.mp hj).1
    rw [← hl, List.length_map]; exact this
  have at_ : ∀ m (hm : m < its.length), ∃ (w : Str) (t' : Tok), ys[m]? = some w ∧ its[m] = .str w t' := fun m hm => by
    have hm' : m < ys.length := by rw [← hl, List.length_map] at hm; exact hm
    obtain ⟨u, hu, t', ht⟩ := r.get (i := m) (x := .str ys[m]) (by rw [List.getElem?_map, List.getElem?_eq_getElem hm']; rfl)
    rw [List.getElem?_eq_getElem hm] at hu
    exact ⟨ys[m], t', List.getElem?_eq_getElem hm', by rw [Option.some.inj hu]; exact ht⟩
  have fl : (ys.map V.str).all flatV = true := flat_strs ys
  refine call_meets F.slot_list_index ⟨_, e, rfl⟩ F.entry_list_index (F.args_list_index_2 _ _) (SeqAt.list_indexAt l its.toArray n none #[] (.str y t) (eqU (.str y)) j (by simpa using hjl) ?_ ?_ ?_) ⟨e, ?_, ?_⟩
  · rw [sizeLine_eq] at z; have := hl; omega
  · obtain ⟨w, t', hw, ew⟩ := at_ j hjl
    rw [hj] at hw; cases hw
    show eqU (.str y) (its.toArray[j]) = true
    rw [List.getElem_toArray, ew, eqU_of (y := .str y) ⟨t', rfl⟩ rfl]
    show decide _ = true
    exact decide_eq_true rfl
  · intro m hm hmj
    have hm' : m < its.length := by simpa using hm
    obtain ⟨w, t', hw, ew⟩ := at_ m hm'
    show eqU (.str y) (its.toArray[m]) = false
    rw [List.getElem_toArray, ew, eqU_of (y := .str w) ⟨t', rfl⟩ rfl]
    have ne := hno m hmj
    rw [hw] at ne
    show decide _ = false
    exact decide_eq_false fun z => ne (by rw [z])
  · intro u hu
    exact mem_eqAt (x := .str y) ⟨t, rfl⟩ rfl r fl u (by simpa using hu)
  · exact ⟨.int j, H, I.tok _, ⟨_, rfl⟩, q⟩
end

section
variable {X : Cx} {e : Expr} {te : TE} {pos p2 p3 p4 : Pos} {k : Nat}
/-- xs[::-1], a list -/
def tRev (K : Frag) (te : TE) : TE := fun σ H Q => te σ H fun x H2 => ∃ (l : Addr) (xs : List V), x = .ref l ∧ SqL K H2 l xs ∧ ∀ p, H2 p = none → Q (.ref p) (upd H2 p (.lst xs.reverse))
theorem pe_rev (he : PE X e te) : PE X (.Subscript e (.Slice none none (some (.UnaryOp .USub (.Constant (.int 1) k p3) p4)) p2) pos) (tRev X.K te) := by
  intro pins s σ H Q I h
  refine Subscript_ (thn (he pins s σ H _ I h) fun v s1 ⟨x, H1, I1, r1, l, xs, ex, hx, q⟩ => ?_)
  subst ex
  cases r1
  refine wpAny_Slice ?_
  rw [evalPart_none]
  refine wpAny_pure (wpAny_pure ?_)
  refine thn (po_some (pe_un un_neg pe_int) pins s1 σ H1 (fun o H' => o = some (-1) ∧ H' = H1) I1 ⟨_, rfl, _, rfl, rfl, rfl⟩) fun vs s4 ⟨o, H4, I4, ps, eo, eH⟩ => ?_
  subst eo eH
  have I5 : Inv X pins σ H4 { s4 with heap := s4.heap.push { cls := .type "slice", data := .fields #[.none, .none, vs] } } := I4.kept (t' := s4.toks) fun b ob z => Heap.get?_push_of_some _ z
  obtain ⟨its, r, ht, hz⟩ := I5.list hx
  have hlen := r.length
  refine tail_any (ops := _) ht.isList.typeIs slot_list_getitem.lookup ?_ (by with_unfolding_all rfl)
  refine wpAny_getItem_list_slice ht.isList (Heap.IsSliceOf.new ..) .none .none ps (by decide) ?_ (by rw [List.size_toArray]; omega)
  rw [krv_pick]
  refine ⟨.ref _, _, I5.laid (t' := s4.toks) (o := .lst xs.reverse) (fun b ob z => Heap.get?_push_of_some _ z) (Nat.le_refl _) ?_, rfl, q _ (I5.hok.fresh (Nat.le_refl _))⟩
  exact ⟨by rw [List.length_reverse]; exact hz, its.reverse, 0, r.reverse, Heap.get?_push_size _ rfl⟩
end
end L2
namespace L2
open PySem PySem.Spec PyProof.Rows

/-! ### lists of pairs as tables -/
section
variable {κ : Type} [DecidableEq κ]
def valV (kvs : List (κ × V)) (k : κ) : Option V := (kvs.find? fun kv => decide (kv.1 = k)).map (·.2)
/-- in its place, or at the end -/
def putK (kvs : List (κ × V)) (k : κ) (v : V) : List (κ × V) :=
  if (kvs.any fun kv => decide (kv.1 = k)) = true then kvs.map (fun kv => if kv.1 = k then (kv.1, v) else kv) else kvs ++ [(k, v)]
def dropK (kvs : List (κ × V)) (k : κ) : List (κ × V) := kvs.filter fun kv => decide (kv.1 ≠ k)

theorem valV_nil {k : κ} : valV ([] : List (κ × V)) k = none := rfl
theorem valV_pos {p : κ × V} {r : List (κ × V)} {k : κ} (e : p.1 = k) : valV (p :: r) k = some p.2 := by simp [valV, List.find?_cons, e]
theorem valV_neg {p : κ × V} {r : List (κ × V)} {k : κ} (e : ¬ p.1 = k) : valV (p :: r) k = valV r k := by simp [valV, List.find?_cons, e]
theorem valV_any (k : κ) : ∀ kvs : List (κ × V), (kvs.any fun kv => decide (kv.1 = k)) = (valV kvs k).isSome
  | [] => rfl
  | p :: r => by
    rw [List.any_cons]
    by_cases e : p.1 = k
    · simp only [valV_pos e, decide_eq_true e, Bool.true_or, Option.isSome_some]
    · rw [valV_neg e, decide_eq_false e, Bool.false_or]; exact valV_any k r
theorem valV_map (k j : κ) (y : V) : ∀ kvs : List (κ × V), valV (kvs.map fun kv => if kv.1 = k then (kv.1, y) else kv) j = (valV kvs j).map fun x => if j = k then y else x
  | [] => rfl
  | p :: r => by
    have ih := valV_map k j y r
    rw [List.map_cons]
    by_cases h : p.1 = k
    · rw [if_pos h]
      by_cases e : p.1 = j
      · rw [valV_pos (p := (p.1, y)) e, valV_pos e, Option.map_some, if_pos (e.symm.trans h)]
      · rw [valV_neg (p := (p.1, y)) e, valV_neg e, ih]
    · rw [if_neg h]
      by_cases e : p.1 = j
      · rw [valV_pos (p := p) e, valV_pos e, Option.map_some, if_neg (fun z => h (e.trans z))]
      · rw [valV_neg (p := p) e, valV_neg e, ih]
theorem valV_snoc (k j : κ) (y : V) : ∀ kvs : List (κ × V), valV kvs k = none → valV (kvs ++ [(k, y)]) j = if j = k then some y else valV kvs j
  | [], _ => by
    by_cases e : k = j
    · rw [if_pos e.symm]; exact valV_pos (p := (k, y)) e
    · rw [if_neg (fun z => e z.symm)]; exact valV_neg (p := (k, y)) e
  | p :: r, hn => by
    rw [List.cons_append]
    have hk : ¬ p.1 = k := fun z => by rw [valV_pos z] at hn; cases hn
    rw [valV_neg hk] at hn
    have ih := valV_snoc k j y r hn
    by_cases e : p.1 = j
    · rw [valV_pos e, valV_pos e, if_neg (fun z => hk (e.trans z))]
    · rw [valV_neg e, valV_neg e, ih]
theorem valV_put (kvs : List (κ × V)) (k j : κ) (y : V) : valV (putK kvs k y) j = if j = k then some y else valV kvs j := by
  unfold putK
  by_cases a : (kvs.any fun kv => decide (kv.1 = k)) = true
  · rw [if_pos a, valV_map]
    rw [valV_any] at a
    by_cases e : j = k
    · obtain ⟨x, hx⟩ := Option.isSome_iff_exists.mp a
      rw [if_pos e, e, hx, Option.map_some, if_pos rfl]
    · rw [if_neg e]
      cases valV kvs j with
      | none => rfl
      | some x => rw [Option.map_some, if_neg e]
  · rw [if_neg a]
    refine valV_snoc k j y kvs ?_
    rw [valV_any] at a
    cases q : valV kvs k with
    | none => rfl
    | some x => rw [q] at a; exact (a rfl).elim
theorem length_putK (kvs : List (κ × V)) (k : κ) (v : V) : (putK kvs k v).length ≤ kvs.length + 1 := by
  unfold putK
  split
  · rw [List.length_map]; omega
  · rw [List.length_append, List.length_cons, List.length_nil]; omega
theorem putK_new {kvs : List (κ × V)} {k : κ} (v : V) (h : valV kvs k = none) : putK kvs k v = kvs ++ [(k, v)] := by
  unfold putK
  rw [valV_any, h]
  exact if_neg (by decide)

theorem RelO.isSome_eq {o : Option V} {u : Option Value} (r : RelO o u) : o.isSome = u.isSome := by
  cases o with
  | none => cases u with
    | none => rfl
    | some _ => exact (show False from r).elim
  | some _ => cases u with
    | none => exact (show False from r).elim
    | some _ => rfl
theorem RelO.getD {o : Option V} {u : Option Value} {d : V} {d' : Value} (r : RelO o u) (rd : RelV d d') : RelV (o.getD d) (u.getD d') := by
  cases o with
  | none => cases u with
    | none => exact rd
    | some _ => exact (show False from r).elim
  | some _ => cases u with
    | none => exact (show False from r).elim
    | some _ => exact r

/-- raw tables of the same keys -/
theorem KV.val {kvs : List (κ × V)} {vs : List (κ × Value)} (r : KV kvs vs) (k : κ) : RelO (valV kvs k) (valueAt vs k) := by
  unfold KV at r
  induction r with
  | nil => exact True.intro
  | @cons p q ps qs h t ih =>
    obtain ⟨h1, h2⟩ := h
    by_cases e : p.1 = k
    · have e' : q.1 = k := h1.symm.trans e
      have b : valueAt (q :: qs) k = some q.2 := by simp [valueAt, List.find?_cons, e']
      rw [valV_pos e, b]; exact h2
    · have e' : ¬ q.1 = k := fun z => e (h1.trans z)
      have b : valueAt (q :: qs) k = valueAt qs k := by simp [valueAt, List.find?_cons, e']
      rw [valV_neg e, b]; exact ih
theorem KV.any {kvs : List (κ × V)} {vs : List (κ × Value)} (r : KV kvs vs) (k : κ) : (kvs.any fun kv => decide (kv.1 = k)) = vs.any fun kv => decide (kv.1 = k) := by
  unfold KV at r
  induction r with
  | nil => rfl
  | cons h t ih => rw [List.any_cons, List.any_cons, ih, h.1]
theorem KV.repl {kvs : List (κ × V)} {vs : List (κ × Value)} (r : KV kvs vs) (k : κ) {y : V} {u : Value} (ry : RelV y u) :
    KV (kvs.map fun kv => if kv.1 = k then (kv.1, y) else kv) (vs.map fun kv => if kv.1 = k then (kv.1, u) else kv) := by
  unfold KV at r ⊢
  induction r with
  | nil => exact .nil
  | @cons p q ps qs h t ih =>
    rw [List.map_cons, List.map_cons]
    refine .cons ?_ ih
    obtain ⟨h1, h2⟩ := h
    by_cases e : p.1 = k
    · rw [if_pos e, if_pos (h1.symm.trans e)]; exact ⟨h1, ry⟩
    · rw [if_neg e, if_neg (fun z => e (h1.trans z))]; exact ⟨h1, h2⟩
theorem KV.put {kvs : List (κ × V)} {vs : List (κ × Value)} (r : KV kvs vs) (k : κ) {y : V} {u : Value} (ry : RelV y u) : KV (putK kvs k y) (stored vs k u) := by
  unfold putK stored
  rw [r.any k]
  by_cases e : (vs.any fun kv => decide (kv.1 = k)) = true
  · rw [if_pos e, if_pos e]; exact r.repl k ry
  · rw [if_neg e, if_neg e]; exact Paired.snoc r ⟨rfl, ry⟩
theorem KV.drop {kvs : List (κ × V)} {vs : List (κ × Value)} (r : KV kvs vs) (k : κ) : KV (dropK kvs k) (without vs k) := by
  unfold KV at r ⊢
  unfold dropK without
  induction r with
  | nil => exact .nil
  | @cons p q ps qs h t ih =>
    obtain ⟨h1, h2⟩ := h
    rw [List.filter_cons, List.filter_cons]
    by_cases e : p.1 = k
    · have a : ¬ decide (p.1 ≠ k) = true := by simp [e]
      have b : ¬ decide (q.1 ≠ k) = true := by simp [h1.symm.trans e]
      rw [if_neg a, if_neg b]; exact ih
    · have e' : ¬ q.1 = k := fun z => e (h1.trans z)
      have a : decide (p.1 ≠ k) = true := by simp [e]
      have b : decide (q.1 ≠ k) = true := by simp [e']
      rw [if_pos a, if_pos b]; exact .cons ⟨h1, h2⟩ ih
theorem KV.keys {kvs : List (κ × V)} {vs : List (κ × Value)} (r : KV kvs vs) : kvs.map (·.1) = vs.map (·.1) := by
  unfold KV at r
  induction r with
  | nil => rfl
  | cons h t ih => rw [List.map_cons, List.map_cons, ih, h.1]
theorem KV.length {kvs : List (κ × V)} {vs : List (κ × Value)} (r : KV kvs vs) : kvs.length = vs.length := Paired.length r
theorem dropK_le (kvs : List (κ × V)) (k : κ) : (dropK kvs k).length ≤ kvs.length := List.length_filter_le _ _
end


/-! ### a tracked dict, its keys ints and texts or tuples of these -/
theorem kV_is {P : Program} {w : World} {k : Key} {u : Value} (r : RelV (kV k) u) : (mixKind P w).is k u = true := by
  cases k with
  | inl i => obtain ⟨t, e⟩ := (show ∃ t, u = Value.int i t from r); subst e; exact mixKind_int P w i t
  | inr x => obtain ⟨t, e⟩ := (show ∃ t, u = Value.str x t from r); subst e; exact mixKind_str P w x t
theorem kV_inj {a b : Key} (e : kV a = kV b) : a = b := by
  cases a with
  | inl i => cases b with
    | inl j => have e' : V.int i = V.int j := e; injection e' with e'; rw [e']
    | inr y => exact nomatch (show V.int i = V.str y from e)
  | inr x => cases b with
    | inl j => exact nomatch (show V.str x = V.int j from e)
    | inr y => have e' : V.str x = V.str y := e; injection e' with e'; rw [e']
theorem kVs_inj : ∀ {a b : List Key}, a.map kV = b.map kV → a = b
  | [], [], _ => rfl
  | [], _ :: _, e => by simp at e
  | _ :: _, [], e => by simp at e
  | x :: xs, y :: ys, e => by
    rw [List.map_cons, List.map_cons] at e
    injection e with e1 e2
    rw [kV_inj e1, kVs_inj e2]
theorem items_are {P : Program} {w : World} : ∀ {ks : List Key} {us : List Value}, Vals (ks.map kV) us → ItemsAre (mixKind P w) ks us
  | [], _, r => by rw [List.map_nil] at r; cases r; exact .nil
  | k :: ks, _, r => by
    rw [List.map_cons] at r
    cases r with
    | cons h t => exact .cons (kV_is h) (items_are t)

/-- raw entries of a dict with tuple keys -/
abbrev KT (H : Hp) : List (List Key × V) → List (List Key × Addr × Value) → Prop := Paired fun p q => p.1 = q.1 ∧ H q.2.1 = some (.tup (p.1.map kV)) ∧ RelV p.2 q.2.2
theorem KT.val {H : Hp} {kvs : List (List Key × V)} {xs : List (List Key × Addr × Value)} (r : KT H kvs xs) (k : List Key) : RelO (valV kvs k) ((atKey xs k).map (·.2)) := by
  induction r with
  | nil => exact True.intro
  | @cons p q ps qs h t ih =>
    obtain ⟨h1, _, h2⟩ := h
    by_cases e : p.1 = k
    · have e' : q.1 = k := h1.symm.trans e
      have b : atKey (q :: qs) k = some q.2 := by simp [atKey, List.find?_cons, e']
      rw [valV_pos e, b]; exact h2
    · have e' : ¬ q.1 = k := fun z => e (h1.trans z)
      have b : atKey (q :: qs) k = atKey qs k := by simp [atKey, List.find?_cons, e']
      rw [valV_neg e, b]; exact ih
theorem KT.repl {H : Hp} {kvs : List (List Key × V)} {xs : List (List Key × Addr × Value)} (r : KT H kvs xs) (k : List Key) {y : V} {u : Value} (ry : RelV y u) :
    KT H (kvs.map fun kv => if kv.1 = k then (kv.1, y) else kv) (xs.map (putAt k u)) := by
  induction r with
  | nil => exact .nil
  | @cons p q ps qs h t ih =>
    rw [List.map_cons, List.map_cons]
    refine .cons ?_ ih
    obtain ⟨h1, h2, h3⟩ := h
    unfold putAt
    by_cases e : p.1 = k
    · rw [if_pos e, if_pos (h1.symm.trans e)]; exact ⟨h1, h2, ry⟩
    · rw [if_neg e, if_neg (fun z => e (h1.trans z))]; exact ⟨h1, h2, h3⟩
theorem KT.put {H : Hp} {kvs : List (List Key × V)} {xs : List (List Key × Addr × Value)} (r : KT H kvs xs) (k : List Key) {b : Addr} {y : V} {u : Value} (hb : H b = some (.tup (k.map kV))) (ry : RelV y u) :
    KT H (putK kvs k y) (storedH xs k b u) := by
  have e : (kvs.any fun kv => decide (kv.1 = k)) = (atKey xs k).isSome := by
    rw [valV_any, (r.val k).isSome_eq, Option.isSome_map]
  unfold putK storedH
  rw [e]
  by_cases q : (atKey xs k).isSome = true
  · rw [if_pos q, if_pos q]; exact r.repl k ry
  · rw [if_neg q, if_neg q]; exact Paired.snoc r ⟨rfl, hb, ry⟩
theorem KT.keeps {H H' : Hp} {kvs : List (List Key × V)} {xs : List (List Key × Addr × Value)} (r : KT H kvs xs) (ht : ∀ b ys, H b = some (.tup ys) → H' b = some (.tup ys)) : KT H' kvs xs :=
  Paired.mapP r fun _ _ z => ⟨z.1, ht _ _ z.2.1, z.2.2⟩

section
variable {P : Program} {w : World} {H : Hp} {h : Heap} {a : Addr}
theorem rd_of {u : HO} (ok : HOk P w H h) (e : Rd H a u) : ObjOk P w H h a u := e.ok ok
theorem dk_rd {kvs : List (Key × V)} (ok : HOk P w H h) (e : Rd H a (.dK kvs)) : kvs.length ≤ sizeLine ∧ (a == sysModules) = false ∧ ∃ vs, KV kvs vs ∧ h.DictOf (mixKind P w) a vs :=
  show ObjOk P w H h a (.dK kvs) from rd_of ok e
theorem dk_of {kvs : List (Key × V)} (ok : HOk P w H h) (e : H a = some (.dK kvs)) : kvs.length ≤ sizeLine ∧ (a == sysModules) = false ∧ ∃ vs, KV kvs vs ∧ h.DictOf (mixKind P w) a vs := dk_rd ok (.inl e)
/-- a tracked tuple of ints and texts is a key -/
theorem key_of {ks : List Key} (ok : HOk P w H h) (e : H a = some (.tup (ks.map kV))) : (tupleKind (mixKind P w)).is h ks a := by
  obtain ⟨_, its, r, o, h1, h2, n, h3⟩ := (show ObjOk P w H h a (.tup (ks.map kV)) from ok a _ e)
  exact ⟨o, its.toArray, n, h1, h2, h3, by simpa using items_are r⟩
theorem dt_rd {kvs : List (List Key × V)} (ok : HOk P w H h) (e : Rd H a (.dT kvs)) : kvs.length ≤ sizeLine ∧ (a == sysModules) = false ∧
    ∃ xs, KT H kvs xs ∧ h.DictOfH (tupleKind (mixKind P w)) a xs := by
  obtain ⟨z, y, xs, r, o, es, ep, h1, h2, h3, h4, h5⟩ := (show ObjOk P w H h a (.dT kvs) from rd_of ok e)
  refine ⟨z, y, xs, r, o, es, ep, h1, h2, h3, h4, fun x hx => ?_, h5⟩
  have all : ∀ {l : List (List Key × V)} {m : List (List Key × Addr × Value)}, KT H l m → ∀ x ∈ m, (tupleKind (mixKind P w)).is h x.1 x.2.1 := by
    intro l m q
    induction q with
    | nil => intro x hx; exact nomatch hx
    | @cons p q ps qs hq t ih =>
      intro x hx
      rcases List.mem_cons.mp hx with e | hx
      · subst e
        exact key_of ok (by rw [← hq.1]; exact hq.2.1)
      · exact ih x hx
  exact all r x hx
theorem dt_of {kvs : List (List Key × V)} (ok : HOk P w H h) (e : H a = some (.dT kvs)) : kvs.length ≤ sizeLine ∧ (a == sysModules) = false ∧
    ∃ xs, KT H kvs xs ∧ h.DictOfH (tupleKind (mixKind P w)) a xs := dt_rd ok (.inl e)
end

/-- what the dict at a holds at the key y -/
def DGet (H : Hp) (a : Addr) (y : V) (r : Option V) : Prop :=
  (∃ kvs k, Rd H a (.dK kvs) ∧ y = kV k ∧ r = valV kvs k) ∨ ∃ kvs k b, Rd H a (.dT kvs) ∧ y = .ref b ∧ H b = some (.tup (k.map kV)) ∧ r = valV kvs k
/-- the heap behind a[y] = v -/
def DPut (H : Hp) (a : Addr) (y v : V) (H' : Hp) : Prop :=
  (∃ kvs k, H a = some (.dK kvs) ∧ y = kV k ∧ kvs.length < sizeLine ∧ H' = upd H a (.dK (putK kvs k v))) ∨
  ∃ kvs k b, H a = some (.dT kvs) ∧ y = .ref b ∧ H b = some (.tup (k.map kV)) ∧ kvs.length < sizeLine ∧ H' = upd H a (.dT (putK kvs k v))
theorem DGet.k {H : Hp} {a : Addr} {kvs : List (Key × V)} {k : Key} (e : H a = some (.dK kvs)) : DGet H a (kV k) (valV kvs k) := .inl ⟨kvs, k, .inl e, rfl, rfl⟩
theorem DGet.t {H : Hp} {a b : Addr} {kvs : List (List Key × V)} {k : List Key} (e : H a = some (.dT kvs)) (eb : H b = some (.tup (k.map kV))) : DGet H a (.ref b) (valV kvs k) := .inr ⟨kvs, k, b, .inl e, rfl, eb, rfl⟩
theorem DPut.k {H : Hp} {a : Addr} {kvs : List (Key × V)} {k : Key} {v : V} (e : H a = some (.dK kvs)) (hl : kvs.length < sizeLine) : DPut H a (kV k) v (upd H a (.dK (putK kvs k v))) := .inl ⟨kvs, k, e, rfl, hl, rfl⟩
theorem DPut.t {H : Hp} {a b : Addr} {kvs : List (List Key × V)} {k : List Key} {v : V} (e : H a = some (.dT kvs)) (eb : H b = some (.tup (k.map kV))) (hl : kvs.length < sizeLine) :
    DPut H a (.ref b) v (upd H a (.dT (putK kvs k v))) := .inr ⟨kvs, k, b, e, rfl, eb, hl, rfl⟩


section
variable {X : Cx} {pins : List (Addr × Obj)} {σ : St} {H : Hp} {s : Shared} {a : Addr} {y v : V} {u r : Value} {o : Option V} {A : Around} {E : Value → Shared → Prop}

theorem Inv.big (I : Inv X pins σ H s) : sysModules < s.heap.objs.size := by
  have h : mainGlobals < s.heap.objs.size := (I.mod.glob.keeps I.bk).lt
  exact Nat.lt_trans (by decide) h

/-- d[y], there -/
theorem d_getItem {Q : Value → Shared → Prop} (hu : A.units + 1 < cLine) (I : Inv X pins σ H s) (g : DGet H a y (some v)) (ry : RelV y u) (h : ∀ w' s', Inv X pins σ H s' → RelV v w' → Q w' s') :
    wpAny (model X.prog X.w) A (getItem (.ref a) u) Q E s := by
  rcases g with ⟨kvs, k, e, ey, l⟩ | ⟨kvs, k, b, e, ey, eb, l⟩
  · subst ey
    obtain ⟨z, hd, vs, rel, dd⟩ := dk_rd I.hok e
    obtain ⟨w', hw, rw'⟩ := RelO.some_of (v := v) (o := valueAt vs k) (by rw [l]; exact rel.val k)
    exact wpAny_getItem_of (kV_is ry) dd.mapOf hw (h w' _ (I.tok _) rw')
  · subst ey
    cases (show u = Value.ref b from ry)
    obtain ⟨z, hd, xs, rel, dd⟩ := dt_rd I.hok e
    obtain ⟨w', hw, rw'⟩ := RelO.some_of (v := v) (o := (atKey xs k).map (·.2)) (by rw [l]; exact rel.val k)
    obtain ⟨p, hp, hp2⟩ := Option.map_eq_some_iff.mp hw
    refine wpAny_getItem_heap (tupleKind_room_in1 hu) (key_of I.hok eb) dd hp ?_
    rw [hp2]
    exact h w' _ (I.tok _) rw'
/-- y in d -/
theorem d_in {Q : Value → Shared → Prop} (hu : A.units + 1 < cLine) (I : Inv X pins σ H s) (g : DGet H a y o) (ry : RelV y u) (h : ∀ s', Inv X pins σ H s' → Q (.bool o.isSome) s') :
    wpAny (model X.prog X.w) A (compareOp .In u (.ref a)) Q E s := by
  rcases g with ⟨kvs, k, e, ey, l⟩ | ⟨kvs, k, b, e, ey, eb, l⟩
  · subst ey
    obtain ⟨z, hd, vs, rel, dd⟩ := dk_rd I.hok e
    refine wpAny_in_of (kV_is ry) hd dd.mapOf ?_
    rw [← (rel.val k).isSome_eq, ← l]
    exact h _ (I.tok _)
  · subst ey
    cases (show u = Value.ref b from ry)
    obtain ⟨z, hd, xs, rel, dd⟩ := dt_rd I.hok e
    refine wpAny_in_heap (tupleKind_room_in1 hu) (key_of I.hok eb) hd dd ?_
    have q := (rel.val k).isSome_eq
    rw [Option.isSome_map] at q
    rw [← q, ← l]
    exact h _ (I.tok _)
theorem d_notIn {Q : Value → Shared → Prop} (hu : A.units + 1 < cLine) (I : Inv X pins σ H s) (g : DGet H a y o) (ry : RelV y u) (h : ∀ s', Inv X pins σ H s' → Q (.bool (!o.isSome)) s') :
    wpAny (model X.prog X.w) A (compareOp .NotIn u (.ref a)) Q E s := by
  rcases g with ⟨kvs, k, e, ey, l⟩ | ⟨kvs, k, b, e, ey, eb, l⟩
  · subst ey
    obtain ⟨z, hd, vs, rel, dd⟩ := dk_rd I.hok e
    refine wpAny_notIn_of (kV_is ry) hd dd.mapOf ?_
    rw [← (rel.val k).isSome_eq, ← l]
    exact h _ (I.tok _)
  · subst ey
    cases (show u = Value.ref b from ry)
    obtain ⟨z, hd, xs, rel, dd⟩ := dt_rd I.hok e
    refine wpAny_notIn_heap (tupleKind_room_in1 hu) (key_of I.hok eb) hd dd ?_
    have q := (rel.val k).isSome_eq
    rw [Option.isSome_map] at q
    rw [← q, ← l]
    exact h _ (I.tok _)
/-- a dict's object is replaced -/
theorem d_write {h' : Heap} {t' : Nat} {ob : HO} (I : Inv X pins σ H s) (mu : Mut (H a)) (hs : Heap.SameBut a s.heap h') (he : ∃ q, h'.get? a = some q) (new : ObjOk X.prog X.w (upd H a ob) h' a ob) :
    Inv X pins σ (upd H a ob) { s with heap := h', toks := t' } :=
  I.write (x := a) (e := a) mu (.inl rfl) (fun b q hb z => (hs.2 b hb).trans z) he new
theorem dk_new {P : Program} {w : World} {H' : Hp} {h' : Heap} {kvs : List (Key × V)} {vs : List (Key × Value)} (z : kvs.length ≤ sizeLine) (hd : (a == sysModules) = false) (rel : KV kvs vs) (dd : h'.DictOf (mixKind P w) a vs) :
    ObjOk P w H' h' a (.dK kvs) := ⟨z, hd, vs, rel, dd⟩
/-- d[y] = v -/
theorem d_setItem {H' : Hp} {Q : Unit → Shared → Prop} (hu : A.units + 1 < cLine) (I : Inv X pins σ H s) (g : DPut H a y v H') (ry : RelV y u) (rv : RelV v r) (h : ∀ s', Inv X pins σ H' s' → Q () s') :
    wpAny (model X.prog X.w) A (setItem (.ref a) u r) Q E s := by
  rcases g with ⟨kvs, k, e, ey, l, eH⟩ | ⟨kvs, k, b, e, ey, eb, l, eH⟩
  · subst ey eH
    obtain ⟨z, hd, vs, rel, dd⟩ := dk_of I.hok e
    have hz : vs.length ≤ sizeLine := by rw [← rel.length]; exact z
    have hl : (putK kvs k v).length ≤ sizeLine := by have := length_putK kvs k v; omega
    refine wpAny_setItem_pairs (hsz := hz) (kV_is ry) dd fun h' dd' hs => h _ ?_
    have he : ∃ q, h'.get? a = some q := let ⟨q, _, _, hq, _⟩ := dd'; ⟨q, hq⟩
    exact d_write I (by rw [e]; exact True.intro) hs he (dk_new hl hd (rel.put k rv) dd')
  · subst ey eH
    cases (show u = Value.ref b from ry)
    obtain ⟨z, hd, xs, rel, dd⟩ := dt_of I.hok e
    have hz : xs.length ≤ sizeLine := by rw [← Paired.length rel]; exact z
    have hl : (putK kvs k v).length ≤ sizeLine := by have := length_putK kvs k v; omega
    refine wpAny_setItem_heap (hsz := hz) (tupleKind_room_in1 hu) (key_of I.hok eb) dd fun h' dd' hs => h _ ?_
    obtain ⟨q, es, ep, hq, h2, h3, h4, _, h5⟩ := dd'
    refine d_write I (by rw [e]; exact True.intro) hs ⟨q, hq⟩ ⟨hl, hd, _, (rel.put k eb rv).keeps fun c ys ec => ?_, q, es, ep, hq, h2, h3, h4, h5⟩
    rw [upd_ne (ne_of ec e (fun z => nomatch z))]
    exact ec
end

section
variable {X : Cx} {pins : List (Addr × Obj)} {σ : St} {H : Hp} {s : Shared} {a : Addr} {kvs : List (Key × V)} {k : Key} {u : Value} {A : Around} {E : Value → Shared → Prop}
/-- del d[k] -/
theorem d_delItem {Q : Unit → Shared → Prop} (I : Inv X pins σ H s) (e : H a = some (.dK kvs)) (ry : RelV (kV k) u) (l : (valV kvs k).isSome = true) (h : ∀ s', Inv X pins σ (upd H a (.dK (dropK kvs k))) s' → Q () s') :
    wpAny (model X.prog X.w) A (delItem (.ref a) u) Q E s := by
  obtain ⟨z, hd, vs, rel, dd⟩ := dk_of I.hok e
  refine wpAny_delItem_slot dd.typeIs (by decide) PySem.F.slot_dict_delitem
    (call_meetsIn PySem.F.slot_dict_delitem dd.typeIs PySem.F.entry_dict_delitem (PySem.F.args_dict_delitem_2 _ _) (meets_dict_delitem_pairs (mixKind X.prog X.w) a (kV_is ry)) ⟨vs, dd, by rw [← rel.length]; exact z, by rw [← (rel.val k).isSome_eq]; exact l, fun h' dd' hs => h _ ?_⟩)
  have he : ∃ q, h'.get? a = some q := let ⟨q, _, _, hq, _⟩ := dd'; ⟨q, hq⟩
  exact d_write I (by rw [e]; exact True.intro) hs he (dk_new (Nat.le_trans (dropK_le kvs k) z) hd (rel.drop k) dd')
/-- d.pop(k[, x]), there -/
theorem d_pop {v : V} {more : List Value} {Q : Value → Shared → Prop} (I : Inv X pins σ H s) (e : H a = some (.dK kvs)) (ry : RelV (kV k) u) (l : valV kvs k = some v) (hm : more = [] ∨ ∃ x, more = [x])
    (h : ∀ w' s', Inv X pins σ (upd H a (.dK (dropK kvs k))) s' → RelV v w' → Q w' s') : wpAny (model X.prog X.w) A (call (.builtin "dict.pop") (.ref a :: u :: more)) Q E s := by
  obtain ⟨z, hd, vs, rel, dd⟩ := dk_of I.hok e
  obtain ⟨w', hw, rw'⟩ := RelO.some_of (v := v) (o := valueAt vs k) (by rw [← l]; exact rel.val k)
  have hp : (keyPart u).isSome = true := by
    cases k with
    | inl i => obtain ⟨t, q⟩ := (show ∃ t, u = Value.int i t from ry); subst q; rfl
    | inr x => obtain ⟨t, q⟩ := (show ∃ t, u = Value.str x t from ry); subst q; rfl
  have ha : argsOk "dict.pop" ⟨.ref a :: u :: more, []⟩ := by
    rcases hm with q | ⟨x, q⟩
    · subst q; exact PySem.F.args_dict_pop_2 _ _
    · subst q; exact PySem.F.args_dict_pop_3 _ _ _
  refine call_meetsIn PySem.F.slot_dict_pop dd.typeIs PySem.F.entry_dict_pop ha (meets_dict_pop_there (mixKind X.prog X.w) a (kV_is ry) more hm hp)
    ⟨vs, w', dd, by rw [← rel.length]; exact z, hw, fun h' dd' hs => h w' _ ?_ rw'⟩
  have he : ∃ q, h'.get? a = some q := let ⟨q, _, _, hq, _⟩ := dd'; ⟨q, hq⟩
  exact d_write I (by rw [e]; exact True.intro) hs he (dk_new (Nat.le_trans (dropK_le kvs k) z) hd (rel.drop k) dd')
/-- d.pop(k, x), not there -/
theorem d_popD {r : Value} {Q : Value → Shared → Prop} (I : Inv X pins σ H s) (e : H a = some (.dK kvs)) (ry : RelV (kV k) u) (l : valV kvs k = none) (h : ∀ s', Inv X pins σ H s' → Q r s') :
    wpAny (model X.prog X.w) A (call (.builtin "dict.pop") [.ref a, u, r]) Q E s := by
  obtain ⟨z, hd, vs, rel, dd⟩ := dk_of I.hok e
  have hn : valueAt vs k = none := RelO.none_of (by rw [← l]; exact rel.val k)
  have hp : (keyPart u).isSome = true := by
    cases k with
    | inl i => obtain ⟨t, q⟩ := (show ∃ t, u = Value.int i t from ry); subst q; rfl
    | inr x => obtain ⟨t, q⟩ := (show ∃ t, u = Value.str x t from ry); subst q; rfl
  exact call_meetsIn PySem.F.slot_dict_pop dd.typeIs PySem.F.entry_dict_pop (PySem.F.args_dict_pop_3 _ _ _) (meets_dict_pop_default (mixKind X.prog X.w) a (kV_is ry) hd hp r) ⟨vs, dd, hn, h _ (I.tok _)⟩
/-- d.clear() -/
theorem d_clear {Q : Value → Shared → Prop} (I : Inv X pins σ H s) (e : H a = some (.dK kvs)) (h : ∀ s', Inv X pins σ (upd H a (.dK [])) s' → Q .none s') : wpAny (model X.prog X.w) A (call (.builtin "dict.clear") [.ref a]) Q E s := by
  obtain ⟨z, hd, vs, rel, dd⟩ := dk_of I.hok e
  refine call_meetsIn PySem.F.slot_dict_clear dd.typeIs PySem.F.entry_dict_clear (PySem.F.args_dict_clear_1 _) (meets_dict_clear (mixKind X.prog X.w) a) ⟨vs, dd, by rw [← rel.length]; exact z, fun h' dd' hs => h _ ?_⟩
  have he : ∃ q, h'.get? a = some q := let ⟨q, _, _, hq, _⟩ := dd'; ⟨q, hq⟩
  exact d_write (t' := s.toks) I (by rw [e]; exact True.intro) hs he (dk_new (Nat.zero_le _) hd .nil dd')
/-- len(d) -/
theorem d_len {Q : Value → Shared → Prop} (I : Inv X pins σ H s) (e : Rd H a (.dK kvs)) (h : ∀ t s', Inv X pins σ H s' → Q (.int kvs.length t) s') : wpAny (model X.prog X.w) A (call (.builtin "len") [.ref a]) Q E s := by
  obtain ⟨z, hd, vs, rel, dd⟩ := dk_rd I.hok e
  refine call_len_dict hd dd (by rw [← rel.length]; rw [sizeLine_eq] at z; omega) ?_
  rw [← rel.length]
  exact h _ _ (I.tok _)
/-- if d -/
theorem d_truth {Q : Bool → Shared → Prop} (I : Inv X pins σ H s) (e : Rd H a (.dK kvs)) (h : ∀ s', Inv X pins σ H s' → Q (!kvs.isEmpty) s') : wpAny (model X.prog X.w) A (truthy (.ref a)) Q E s := by
  obtain ⟨z, hd, vs, rel, dd⟩ := dk_rd I.hok e
  refine wpAny_truthy_dict hd dd (by rw [← rel.length]; rw [sizeLine_eq] at z; omega) ?_
  have q : kvs.isEmpty = vs.isEmpty := by cases rel <;> rfl
  rw [← q]
  exact h _ (I.tok _)
end


/-! ### readings and rules -/
/-- the element of a subscription, not a slice -/
def NoSl (i : Expr) : Prop := ∀ ov iv, subscripted i false ov iv = operate [ov, iv] (getItem ov iv)
theorem subD_of {prog : Program} {w : World} {A : Around} {E : Value → Shared → Prop} {s : Shared} {env : Env} {value slice : Expr} {pos : Pos} {T id : String} {Q : Value → Shared → Prop}
    (hl : typeLookup (.type T) "__getitem__" = pure (some (.builtin id))) (hs : NoSl slice)
    (h : wpAny (model prog w) A (eval value env) (fun o s₁ => wpAny (model prog w) A (eval slice env) (fun i s₂ => s₂.TypeIs o T ∧ wpAny (model prog w) A (getItem o i) Q E s₂) E s₁) E s) :
    wpAny (model prog w) A (eval (.Subscript value slice pos) env) Q E s := by
  refine Subscript_ (wpAny_mono h (fun o s₁ h₁ => wpAny_mono h₁ (fun i s₂ h₂ => ?_) fun _ _ x => x) fun _ _ x => x)
  obtain ⟨hT, h₂⟩ := h₂
  unfold subscriptTail
  refine wpAny_bind ?_
  rw [getitemInPython_of_ne hT.not_modules]
  refine wpAny_bind (wpAny_specialOf hT hl ?_)
  have fin : wpAny (model prog w) A (subscripted slice false o i) (fun r s₃ => wpAny (model prog w) A (letTemporaryGo value o r >>= fun _ => pure r) Q E s₃) E s₂ := by
    rw [hs o i]
    exact wpAny_operating (wpAny_mono h₂ (fun r s₃ h₃ => wpAny_bind (wpAny_letTemporaryGo (wpAny_pure h₃))) fun _ _ x => x)
  first
    | exact wpAny_pure (wpAny_bind fin)
    | exact wpAny_bind (wpAny_pure (wpAny_bind fin))
    | exact wpAny_bind fin

theorem dict_typeIs {X : Cx} {pins : List (Addr × Obj)} {σ : St} {H : Hp} {s : Shared} {a : Addr} {y : V} {o : Option V} (I : Inv X pins σ H s) (g : DGet H a y o) : s.TypeIs (.ref a) "dict" := by
  rcases g with ⟨kvs, k, e, _, _⟩ | ⟨kvs, k, b, e, _, _, _⟩
  · obtain ⟨_, _, vs, _, dd⟩ := dk_rd I.hok e
    exact dd.typeIs
  · obtain ⟨_, _, xs, _, dd⟩ := dt_rd I.hok e
    exact dd.typeIs
theorem dict_noDict {X : Cx} {pins : List (Addr × Obj)} {σ : St} {H : Hp} {s : Shared} {a : Addr} {y : V} {o : Option V} (I : Inv X pins σ H s) (g : DGet H a y o) :
    ∀ b, Value.ref a = .ref b → ∃ ob, s.heap.get? b = some ob ∧ ob.dict = none := fun b q => by
  cases q
  rcases g with ⟨kvs, k, e, _, _⟩ | ⟨kvs, k, b, e, _, _, _⟩
  · obtain ⟨_, _, vs, _, ob, _, _, h1, h2, _⟩ := dk_rd I.hok e
    exact ⟨ob, h1, h2.2.1⟩
  · obtain ⟨_, _, xs, _, ob, _, _, h1, h2, _⟩ := dt_rd I.hok e
    exact ⟨ob, h1, h2.2.1⟩

/-- d[y] -/
def tDGet (td ty : TE) : TE := fun σ H Q => td σ H fun x H1 => ty σ H1 fun y H2 => ∃ a v, x = .ref a ∧ DGet H2 a y (some v) ∧ Q v H2
/-- y in d, y not in d -/
def tDIn (ty td : TE) : TE := fun σ H Q => ty σ H fun y H1 => td σ H1 fun x H2 => ∃ a o, x = .ref a ∧ DGet H2 a y o ∧ Q (.bl o.isSome) H2
def tDNotIn (ty td : TE) : TE := fun σ H Q => ty σ H fun y H1 => td σ H1 fun x H2 => ∃ a o, x = .ref a ∧ DGet H2 a y o ∧ Q (.bl (!o.isSome)) H2
/-- d[y] = v -/
def sDPut (td ty tv : TE) : TS := fun D σ H => tv σ H fun v H1 => td σ H1 fun x H2 => ty σ H2 fun y H3 => ∃ a H4, x = .ref a ∧ DPut H3 a y v H4 ∧ D.nx σ H4
/-- d[y] op= v -/
def sDAug (td ty tv : TE) (rd : V → V → Hp → VK → Prop) : TS := fun D σ H => td σ H fun x H1 => ty σ H1 fun y H2 => ∃ a v, x = .ref a ∧ DGet H2 a y (some v) ∧
  tv σ H2 fun y2 H3 => rd v y2 H3 fun z H4 => ∃ H5, DPut H4 a y z H5 ∧ D.nx σ H5
/-- del d[y] -/
def sDDel (td ty : TE) : TS := fun D σ H => td σ H fun x H1 => ty σ H1 fun y H2 => ∃ a kvs k, x = .ref a ∧ H2 a = some (.dK kvs) ∧ y = kV k ∧ (valV kvs k).isSome = true ∧ D.nx σ (upd H2 a (.dK (dropK kvs k)))

section
variable {X : Cx} {o i e value : Expr} {pos pos' tpos : Pos} {td ty tv : TE}
theorem pe_dget (hu : X.A.units + 1 < cLine) (ho : PE X o td) (hi : PE X i ty) (hs : NoSl i) : PE X (.Subscript o i pos) (tDGet td ty) := by
  intro pins s σ H Q I h
  refine subD_of PySem.F.slot_dict_getitem.lookup hs (thn (ho pins s σ H _ I h) fun u s1 ⟨x, H1, I1, rx, q1⟩ => thn (hi pins s1 σ H1 _ I1 q1) fun iv s2 ⟨y, H2, I2, ry, a, v, ex, g, q2⟩ => ?_)
  subst ex
  obtain rfl : u = Value.ref a := rx
  exact ⟨dict_typeIs I2 g, d_getItem hu I2 g ry fun w' s3 I3 rw' => ⟨v, H2, I3, rw', q2⟩⟩
theorem pc_din (hu : X.A.units + 1 < cLine) (hi : PE X i ty) (ho : PE X o td) : PC X .In i o (tDIn ty td) := by
  intro pins s σ H Q I h
  refine thn (hi pins s σ H _ I h) fun iv s1 ⟨y, H1, I1, ry, q1⟩ => thn (ho pins s1 σ H1 _ I1 q1) fun u s2 ⟨x, H2, I2, rx, a, ov, ex, g, q2⟩ => ?_
  subst ex
  obtain rfl : u = Value.ref a := rx
  exact d_in hu I2 g ry fun s3 I3 => ⟨.bl ov.isSome, H2, I3, rfl, q2⟩
theorem pc_dnotin (hu : X.A.units + 1 < cLine) (hi : PE X i ty) (ho : PE X o td) : PC X .NotIn i o (tDNotIn ty td) := by
  intro pins s σ H Q I h
  refine thn (hi pins s σ H _ I h) fun iv s1 ⟨y, H1, I1, ry, q1⟩ => thn (ho pins s1 σ H1 _ I1 q1) fun u s2 ⟨x, H2, I2, rx, a, ov, ex, g, q2⟩ => ?_
  subst ex
  obtain rfl : u = Value.ref a := rx
  exact d_notIn hu I2 g ry fun s3 I3 => ⟨.bl (!ov.isSome), H2, I3, rfl, q2⟩
theorem ps_dput (hu : X.A.units + 1 < cLine) (ho : PE X o td) (hi : PE X i ty) (hv : PE X value tv) (hs : swapsWith value (some (.Subscript o i pos')) pos.line X.env = pure false) :
    PS X (.Assign [.Subscript o i pos'] value pos) (sDPut td ty tv) := by
  intro pins s σ H D I h
  refine wpAny_Assign_Subscript (thn (hv pins s σ H _ I h) fun r s1 ⟨v, H1, I1, rv, q1⟩ => thn (ho pins s1 σ H1 _ I1 q1) fun u s2 ⟨x, H2, I2, rx, q2⟩ => thn (hi pins s2 σ H2 _ I2 q2) fun iv s3 ⟨y, H3, I3, ry, a, H4, ex, g, q3⟩ => ?_) hs
  subst ex
  obtain rfl : u = Value.ref a := rx
  exact d_setItem hu I3 g ry rv fun s4 I4 => ⟨σ, H4, I4, q3⟩
theorem ps_daug {op : Operator} {rd : V → V → Hp → VK → Prop} (hu : X.A.units + 1 < cLine) (ho : PE X o td) (hi : PE X i ty) (hv : PE X value tv) (hop : InOp X op rd)
    (ha : ∀ ov iv new, augStore i ov iv new = (do holding [new, ov, iv] (setItem ov iv new); release [new, ov, iv] []; pure .next)) : PS X (.AugAssign (.Subscript o i tpos) op value pos) (sDAug td ty tv rd) := by
  intro pins s σ H D I h
  refine wpAny_AugAssign_SubscriptAny (thn (ho pins s σ H _ I h) fun u s1 ⟨x, H1, I1, rx, q1⟩ => thn (hi pins s1 σ H1 _ I1 q1) fun iv s2 ⟨y, H2, I2, ry, a, v, ex, g, q2⟩ => ?_) ha
  subst ex
  obtain rfl : u = Value.ref a := rx
  refine d_getItem hu I2 g ry fun w' s3 I3 rw' => thn (hv pins s3 σ H2 _ I3 q2) fun w2 s4 ⟨y2, H3, I4, ry2, q3⟩ => thn (hop pins s4 σ H3 v y2 w' w2 _ I4 rw' ry2 q3) fun w3 s5 ⟨z, H4, I5, rz, H5, g5, q4⟩ => ?_
  exact d_setItem hu I5 g5 ry rz fun s6 I6 => ⟨σ, H5, I6, q4⟩
theorem ps_ddel (ho : PE X o td) (hi : PE X i ty) : PS X (.Delete [.Subscript o i tpos] pos) (sDDel td ty) := by
  intro pins s σ H D I h
  refine wpAny_Delete (wpAny_deleteEach_cons (wpAny_delete_Subscript (thn (ho pins s σ H _ I h) fun u s1 ⟨x, H1, I1, rx, q1⟩ => thn (hi pins s1 σ H1 _ I1 q1) fun iv s2 ⟨y, H2, I2, ry, a, kvs, k, ex, e, ey, l, q2⟩ => ?_)))
  subst ex ey
  obtain rfl : u = Value.ref a := rx
  exact d_delItem I2 e ry l fun s3 I3 => wpAny_deleteEach_nil ⟨σ, _, I3, q2⟩
end


/-! ### displays -/
theorem dk_empty {P : Program} {w : World} {H : Hp} (h : Heap) (hb : sysModules < h.objs.size) : ObjOk P w H (h.push { cls := .type "dict", data := .dict #[] }) h.objs.size (.dK []) :=
  ⟨Nat.zero_le _, beq_eq_false_iff_ne.mpr (Ne.symm (Nat.ne_of_lt hb)), [], .nil, Heap.DictOf.new h⟩
theorem dt_empty {P : Program} {w : World} {H : Hp} (h : Heap) (hb : sysModules < h.objs.size) : ObjOk P w H (h.push { cls := .type "dict", data := .dict #[] }) h.objs.size (.dT []) :=
  ⟨Nat.zero_le _, beq_eq_false_iff_ne.mpr (Ne.symm (Nat.ne_of_lt hb)), [], .nil, _, #[], 0, Heap.get?_push_size _ rfl, ⟨rfl, rfl, rfl⟩, rfl, rfl, List.nodup_nil⟩
/-- {}, to be a dict of the kind that is wanted -/
def tDNewK : TE := fun _ H Q => ∀ p, H p = none → Q (.ref p) (upd H p (.dK []))
def tDNewT : TE := fun _ H Q => ∀ p, H p = none → Q (.ref p) (upd H p (.dT []))
section
variable {X : Cx} {pos : Pos}
theorem pe_dnewK : PE X (.Dict [] [] pos) tDNewK := fun pins s σ H Q I h =>
  wpAny_Dict_empty ⟨.ref s.heap.objs.size, _, I.laid (a := s.heap.objs.size) (o := .dK []) (t' := s.toks) (fun _ _ q => Heap.get?_push_of_some _ q) (Nat.le_refl _) (dk_empty s.heap I.big), rfl, h _ (I.hok.fresh (Nat.le_refl _))⟩
theorem pe_dnewT : PE X (.Dict [] [] pos) tDNewT := fun pins s σ H Q I h =>
  wpAny_Dict_empty ⟨.ref s.heap.objs.size, _, I.laid (a := s.heap.objs.size) (o := .dT []) (t' := s.toks) (fun _ _ q => Heap.get?_push_of_some _ q) (Nat.le_refl _) (dt_empty s.heap I.big), rfl, h _ (I.hok.fresh (Nat.le_refl _))⟩
end

end L2
namespace HT
open PySem PyProof.Rows
section
variable {prog : Program} {w : World} {A : Around} {E : Value → Shared → Prop} {s : Shared}
/-- t[a:b], the whole of it: t itself -/
theorem getItem_tuple_all {t sl : Addr} {items : Array Value} {vl vu : Value} {lo hi : Option Int} {Q : Value → Shared → Prop} (ht : IsTup s.heap t items) (hs : s.heap.IsSliceOf sl vl vu .none) (pl : IsPart vl lo) (pu : IsPart vu hi)
    (h0 : sIx items.size 0 lo = 0) (h1 : sIx items.size items.size hi = items.size) (h : Q (.ref t) s) : wpAny (model prog w) A (getItem (.ref t) (.ref sl)) Q E s := by
  obtain ⟨os, hos, hcs, hds⟩ := id hs
  have hTs : s.TypeIs (.ref sl) "slice" := ⟨os, hos, hcs⟩
  unfold getItem
  try with_reducible refine wpAny_holding ?_
  first | refine wpAny_bind (wpAny_pure ?_) | skip
  refine wpAny_bind (wpAny_sequenceKey ht.typeIs (by decide) ?_)
  refine wpAny_bind (wpAny_callSpecial?_slot (name := Str.ofString "__getitem__") ht.typeIs PyProof.Rows.slot_tuple_getitem
    (wpAny_call_entry PyProof.Rows.slot_tuple_getitem ht.typeIs entry_tuple_getitem ?_ (args_tuple_getitem _ _)))
  show wpAny _ _ (Builtin.Tuple.tupleItemsOf (.ref t) >>= _) _ _ s
  refine wpAny_bind (tupleItemsOf_ ht ?_)
  refine wpAny_bind (wpAny_typeOf hTs ?_)
  rw [if_pos (by decide)]
  refine wpAny_bind (sliceApplied_gen hs pl pu ?_)
  rw [h0, h1]
  have hyes : ((((0 : Nat) : Int) == 0 && (1 : Int) == 1 && (items.size - 0) == items.size) = true) := by simp
  show wpAny _ _ (if ((((0 : Nat) : Int) == 0 && (1 : Int) == 1 && (items.size - 0) == items.size) = true) then _ else _) _ _ s
  rw [if_pos hyes]
  refine wpAny_bind (wpAny_bind (wpAny_typeOf ht.typeIs (wpAny_pure ?_)))
  rw [if_pos (by decide)]
  exact wpAny_bind (wpAny_rule (wpAny_pure ⟨_, rfl, wpAny_pure h⟩))
/-- () + u: u itself -/
theorem cat_tup0 {t b : Addr} {ws : List Value} {Q : Value → Shared → Prop} (ht : IsTup s.heap t ([] : List Value).toArray) (hb : IsTup s.heap b ws.toArray) (h : Q (.ref b) s) : wpAny (model prog w) A (binaryOp .Add (.ref t) (.ref b)) Q E s := by
  obtain ⟨⟨cls, dd, data, sl⟩, ho, hc, n, hd⟩ := id ht
  obtain ⟨⟨cls2, dd2, data2, sl2⟩, ho2, hc2, n2, hd2⟩ := id hb
  obtain rfl : cls = .type "tuple" := hc
  obtain rfl : data = .seq #[] n := hd
  obtain rfl : cls2 = .type "tuple" := hc2
  obtain rfl : data2 = .seq ws.toArray n2 := hd2
  exact concat_meets ⟨_, ho, rfl⟩ ⟨_, ho2, rfl⟩ noFill_tuple_add seq_tuple_add PySem.F.slot_tuple_add PySem.F.entry_tuple_add (PySem.F.args_tuple_add_2 _ _) (tuple_addW0 t b #[] ws.toArray n n2 dd dd2 sl sl2 rfl) ⟨ho, ho2, h⟩
end
end HT
namespace L2
open PySem PySem.Spec PyProof.Rows PySem.W
theorem same_one {H : Hp} {q : Addr} {o : HO} (hq : H q = none) : Same H (upd H q o) := fun b u e => by rw [upd_ne (ne_of_none e hq)]; exact e
section
variable {X : Cx}
/-- t[lo:hi], t tracked -/
def rSlA : V → Option Int → Option Int → Hp → VK → Prop := fun x lo hi H Q => ∃ a xs, x = .ref a ∧ H a = some (.tup xs) ∧ ∀ p H', Same H H' → H' p = some (.tup (cutV xs lo hi)) → Q (.ref p) H'
theorem sl_tupA : SlR X rSlA := by
  intro pins s σ H x v vl vu lo hi sl Q I rx hs pl pu h
  obtain ⟨a, xs, rfl, hx, q⟩ := h
  by_cases hw : HT.sIx xs.length 0 lo = 0 ∧ HT.sIx xs.length xs.length hi = xs.length
  · cases rx
    obtain ⟨its, r, ht, hz⟩ := I.tuple (SqT.of hx)
    have hlen : its.toArray.size = xs.length := by rw [List.size_toArray]; exact r.length.symm
    refine ⟨"tuple", _, PyProof.Rows.slot_tuple_getitem.lookup, ht.typeIs, HT.getItem_tuple_all ht hs pl pu (by rw [hlen]; exact hw.1) (by rw [hlen]; exact hw.2) ?_⟩
    refine ⟨.ref a, H, I, rfl, q a H (Same.refl _) ?_⟩
    unfold cutV
    rw [hw.1, hw.2, List.drop_zero, Nat.sub_zero, List.take_length]
    exact hx
  · exact sl_tup pins s σ H (.ref a) v vl vu lo hi sl Q I rx hs pl pu ⟨a, xs, rfl, SqT.of hx, hw, fun p hp => q p _ (same_one hp) upd_same⟩
/-- t + u, both tracked -/
def rCatA : R2 := fun x y H Q => ∃ a b xs ys, x = .ref a ∧ y = .ref b ∧ H a = some (.tup xs) ∧ H b = some (.tup ys) ∧ xs.length + ys.length ≤ sizeLine ∧ ∀ p H', Same H H' → H' p = some (.tup (xs ++ ys)) → Q (.ref p) H'
theorem op_catA : OpR X (binaryOp .Add) rCatA := by
  intro pins s σ H x y v u Q I rx ry h
  obtain ⟨a, b, xs, ys, rfl, rfl, ha, hb, hz, q⟩ := h
  cases xs with
  | nil =>
    cases rx
    cases ry
    obtain ⟨its, r1, p1, _⟩ := I.tuple (SqT.of ha)
    obtain ⟨its2, r2, p2, _⟩ := I.tuple (SqT.of hb)
    cases r1
    exact HT.cat_tup0 p1 p2 ⟨.ref b, H, I, rfl, q b H (Same.refl _) hb⟩
  | cons z xs => exact op_catT pins s σ H (.ref a) (.ref b) v u Q I rx ry ⟨a, b, _, ys, rfl, rfl, SqT.of ha, SqT.of hb, by simp, hz, fun e => q a H (Same.refl _) (by rw [e, List.append_nil]; exact ha), fun _ p hp => q p _ (same_one hp) upd_same⟩
theorem key_rel {P : Program} {w : World} {k : Key} {u : Value} (h : (mixKind P w).is k u = true) : RelV (kV k) u := by
  cases k with
  | inl i => exact Value.isInt_shape (show Value.isInt i u = true from h)
  | inr x => exact Value.isStrOf_shape (show Value.isStrOf x u = true from h)
theorem vals_at : ∀ {xs : List V} {us : List Value}, xs.length = us.length → (∀ (i : Nat) x u, xs[i]? = some x → us[i]? = some u → RelV x u) → Vals xs us
  | [], [], _, _ => .nil
  | [], _ :: _, h, _ => by simp at h
  | _ :: _, [], h, _ => by simp at h
  | x :: xs, u :: us, h, f => .cons (f 0 x u rfl rfl) (vals_at (by simpa using h) fun i y v a b => f (i + 1) y v (by simpa using a) (by simpa using b))
/-- list(d), a dict by ints and texts -/
theorem call_listD (hc : X.calm = true) : CallR X (.type "list") (fun xs H Q => ∃ d kvs, xs = [.ref d] ∧ H d = some (.dK kvs) ∧ ∀ l, H l = none → Q (.ref l) (upd H l (.lst (kvs.map fun kv => kV kv.1)))) := by
  intro pins s σ H xs us Q I r h
  obtain ⟨d, kvs, rfl, hd, q⟩ := h
  obtain ⟨u, rfl, rx⟩ := vals1 r
  cases rx
  obtain ⟨hz, lo, vs, kv, dd⟩ := dk_of I.hok hd
  obtain ⟨ep, da⟩ := dd.dictAt
  have hlen : kvs.length = vs.length := kv.length
  refine kdl_call (kdl_dict (kvs := vs) (ep := ep) lo) (I.ok.hd hc) da (by rw [← hlen]; exact hz) fun h' tk acc c kp e it => ?_
  refine ⟨.ref s.heap.objs.size, _, I.laid (t' := tk) kp (Nat.le_refl _) (show ObjOk X.prog X.w _ h' _ (.lst (kvs.map fun kv => kV kv.1)) from ⟨by rw [List.length_map]; exact hz, acc.toList, c, ?_, by rw [Array.toArray_toList]; exact e⟩), rfl, q _ (I.hok.fresh (Nat.le_refl _))⟩
  refine vals_at (by rw [List.length_map, Array.length_toList]; exact hlen.trans it.1.symm) fun i x v hx hv => ?_
  obtain ⟨k, y, hk, hi⟩ := it.2 i v (by rw [← Array.getElem?_toList]; exact hv)
  obtain ⟨kv', hkv, rfl⟩ := Option.map_eq_some_iff.mp (by rw [← List.getElem?_map]; exact hx)
  have e : kv'.1 = k := by
    clear it hx hv hlen da dd q hz hd
    induction kv generalizing i with
    | nil => simp at hkv
    | cons p _ ih =>
      cases i with
      | zero =>
        simp at hkv hk
        subst hkv
        rw [p.1, hk]
      | succ i => exact ih i (by simpa using hk) (by simpa using hkv)
  rw [e]
  exact key_rel hi
end
end L2
namespace HT
open PySem PyProof.Rows
theorem ints_at : ∀ {vs : List Value} {ns : List Int} {i : Nat} {v : Value}, IntsAre vs ns → vs[i]? = some v → ∃ a t, v = .int a t ∧ ns[i]? = some a
  | _, _, i, v, .nil, e => by simp at e
  | _, _, 0, v, .cons a t _, e => ⟨a, t, by simpa using e.symm, rfl⟩
  | _, _, i + 1, v, .cons a t r, e => by simpa using ints_at (i := i) r (by simpa using e)
section
open PySem.SeqAt
open PySem.AutoSeq1 (wpAny_loadPart')
open PySem.MeetsSeq PySem.MeetsSeq2 PySem.MeetsSeq3
/-- xs < ys, lists of ints: the walk from the i-th place on -/
theorem lt_walk (l b : Addr) (va vb : Array Value) (n n2 : Nat) (dd dd2 : Option Addr) (sl sl2 : Array (Option Value)) (ns ms : List Int) (hi : IntsAre va.toList ns) (hj : IntsAre vb.toList ms) (k : Nat) :
    ∀ i : Nat, va.size - i = k → i ≤ va.size → i ≤ vb.size → Meets (Builtin.«list.__eq__.loop» ⟨[.ref l, .ref b, rawInt i, rawInt 0], []⟩)
      (fun A R s => s.heap.get? l = some { cls := .type "list", dict := dd, data := .seq va n, slots := sl } ∧ s.heap.get? b = some { cls := .type "list", dict := dd2, data := .seq vb n2, slots := sl2 } ∧
        R (.ok (.ret (.bool (lexLt (ns.drop i) (ms.drop i))))) s) := by
  have z1 : va.size = ns.length := by rw [← hi.length]; simp
  have z2 : vb.size = ms.length := by rw [← hj.length]; simp
  induction k with
  | zero =>
    intro i hk h1 h2 prog w A R s h
    obtain ⟨hp, g, d, tk, os⟩ := s; obtain ⟨hl, hb, h⟩ := h
    wp_walk using wpAny_loadPart' hl, wpAny_loadPart' hb
    have e0 : i = va.size := by omega
    have q1 : va[((i : Nat) : Int).toNat]? = none := by simp; omega
    rw [q1]
    wp_walk using wpAny_loadPart' hl, wpAny_loadPart' hb
    show R (.ok (.ret (.bool (decide (va.size < vb.size))))) _
    have e1 : ns.drop i = [] := by rw [List.drop_of_length_le (by omega)]
    rw [e1] at h
    by_cases hlt : i < vb.size
    · have e2 : ∃ y ys, ms.drop i = y :: ys := ⟨ms[i], ms.drop (i + 1), List.drop_eq_getElem_cons (by omega)⟩
      obtain ⟨y, ys, e2⟩ := e2
      rw [e2, lexLt_nil_cons] at h
      rw [decide_eq_true (by omega)]
      exact h
    · have e2 : ms.drop i = [] := by rw [List.drop_of_length_le (by omega)]
      rw [e2, lexLt_nil_nil] at h
      rw [decide_eq_false (by omega)]
      exact h
  | succ k ih =>
    intro i hk h1 h2 prog w A R s h
    obtain ⟨hp, g, d, tk, os⟩ := s; obtain ⟨hl, hb, h⟩ := h
    wp_walk using wpAny_loadPart' hl, wpAny_loadPart' hb
    have l1 : i < va.size := by omega
    obtain ⟨a, t, ea, na⟩ := ints_at (i := i) (v := va[i]) hi (by rw [Array.getElem?_toList]; simp [l1])
    have q1 : va[((i : Nat) : Int).toNat]? = some (.int a t) := by rw [← ea]; simp [l1]
    have d1 : ns.drop i = a :: ns.drop (i + 1) := by
      obtain ⟨hh, rfl⟩ := List.getElem?_eq_some_iff.mp na
      exact List.drop_eq_getElem_cons hh
    by_cases l2 : i < vb.size
    · obtain ⟨c, u, ec, nc⟩ := ints_at (i := i) (v := vb[i]) hj (by rw [Array.getElem?_toList]; simp [l2])
      have q2 : vb[((i : Nat) : Int).toNat]? = some (.int c u) := by rw [← ec]; simp [l2]
      have d2 : ms.drop i = c :: ms.drop (i + 1) := by
        obtain ⟨hh, rfl⟩ := List.getElem?_eq_some_iff.mp nc
        exact List.drop_eq_getElem_cons hh
      rw [d1, d2, lexLt_cons] at h
      rw [q1, q2]
      obtain ⟨e, he, hiff⟩ := eqAt_int A.in1 ⟨hp, g, d, tk, os⟩ a t c u
      refine wpAny_bind (he prog w _ _ ?_)
      cases e with
      | true =>
        rw [if_pos (hiff.mp rfl)] at h
        wp_walk
        rw [show ((i : Int) + 1) = ((i + 1 : Nat) : Int) from rfl]
        exact ⟨plainId_quiet plain_eq_loop _, codeAny_builtin entry_eq_loop (by rw [Around.under_plainId plain_eq_loop _]; exact ih (i + 1) (by omega) (by omega) (by omega) prog w A R _ ⟨hl, hb, h⟩)⟩
      | false =>
        rw [if_neg (fun q => absurd (hiff.mpr q) Bool.false_ne_true)] at h
        have hri := rcLt_int A.in1 ⟨hp, g, d, tk, os⟩ a t c u prog w
        wp_walk using wpAny_loadPart' hl, wpAny_loadPart' hb
        rw [q1, q2]
        wp_walk using hri
        exact h
    · have q2 : vb[((i : Nat) : Int).toNat]? = none := by simp; omega
      have d2 : ms.drop i = [] := by rw [List.drop_of_length_le (by omega)]
      rw [d1, d2, lexLt_cons_nil] at h
      rw [q1, q2]
      wp_walk using wpAny_loadPart' hl, wpAny_loadPart' hb
      show R (.ok (.ret (.bool (decide (va.size < vb.size))))) _
      rw [decide_eq_false (by omega)]
      exact h
theorem list_lt_ints (l b : Addr) (va vb : Array Value) (n n2 : Nat) (dd dd2 : Option Addr) (sl sl2 : Array (Option Value)) (ns ms : List Int) (hi : IntsAre va.toList ns) (hj : IntsAre vb.toList ms) :
    Meets (Builtin.«list.__lt__» ⟨[.ref l, .ref b], []⟩)
      (fun A R s => s.heap.get? l = some { cls := .type "list", dict := dd, data := .seq va n, slots := sl } ∧ s.heap.get? b = some { cls := .type "list", dict := dd2, data := .seq vb n2, slots := sl2 } ∧
        R (.ok (.ret (.bool (lexLt ns ms)))) s) := by
  intro prog w A R s h
  obtain ⟨hp, g, d, tk, os⟩ := s; obtain ⟨hl, hb, h⟩ := h
  have f3 := AutoSeq1.sub_list_list
  wp_walk using wpAny_loadPart' hl, wpAny_loadPart' hb
  exact ⟨plainId_quiet plain_eq_loop _, codeAny_builtin entry_eq_loop (by rw [Around.under_plainId plain_eq_loop _]; exact lt_walk l b va vb n n2 dd dd2 sl sl2 ns ms hi hj _ 0 rfl (Nat.zero_le _) (Nat.zero_le _) prog w A R _ ⟨hl, hb, h⟩)⟩
end
end HT
namespace HT
open PySem PyProof.Rows
theorem lexLt_irrefl : ∀ x : List Int, lexLt x x = false
  | [] => rfl
  | a :: x => by rw [lexLt_cons, if_pos rfl]; exact lexLt_irrefl x
theorem lexLt_trans : ∀ {x y z : List Int}, lexLt x y = true → lexLt y z = true → lexLt x z = true
  | [], [], _, h, _ => by rw [lexLt_nil_nil] at h; cases h
  | [], b :: y, [], _, h => by rw [lexLt_cons_nil] at h; cases h
  | [], b :: y, c :: z, _, _ => rfl
  | a :: x, [], _, h, _ => by rw [lexLt_cons_nil] at h; cases h
  | a :: x, b :: y, [], _, h => by rw [lexLt_cons_nil] at h; cases h
  | a :: x, b :: y, c :: z, h1, h2 => by
    rw [lexLt_cons] at h1 h2 ⊢
    by_cases e1 : a = b
    · rw [if_pos e1] at h1
      by_cases e2 : b = c
      · rw [if_pos e2] at h2
        rw [if_pos (e1.trans e2)]
        exact lexLt_trans h1 h2
      · rw [if_neg e2] at h2
        rw [if_neg (by rw [e1]; exact e2), e1]
        exact h2
    · rw [if_neg e1] at h1
      have l1 := of_decide_eq_true h1
      by_cases e2 : b = c
      · rw [if_neg (by rw [← e2]; exact e1), ← e2]
        exact h1
      · rw [if_neg e2] at h2
        have l2 := of_decide_eq_true h2
        rw [if_neg (by omega)]
        exact decide_eq_true (by omega)
section
variable {prog : Program} {w : World} {A : Around} {R : Result → Shared → Prop}
/-- a list of ints on the heap -/
def IntsL (h : Heap) (a : Addr) (ns : List Int) : Prop := ∃ vs n dd sl, h.get? a = some { cls := .type "list", dict := dd, data := .seq vs n, slots := sl } ∧ IntsAre vs.toList ns
theorem rc_lists {A : Around} {E : Value → Shared → Prop} {s : Shared} {a b : Addr} {ns ms : List Int} {Q : Value → Shared → Prop} (ha : IntsL s.heap a ns) (hb : IntsL s.heap b ms) (hu : A.units < cLine) (h : Q (.bool (lexLt ns ms)) s) :
    wpAny (model prog w) A (richCompare .Lt (.ref a) (.ref b)) Q E s := by
  obtain ⟨va, n, dd, sl, e, hi⟩ := ha
  obtain ⟨vb, n2, dd2, sl2, e2, hj⟩ := hb
  exact richCompare_meets_room (op := .Lt) ⟨_, e, rfl⟩ ⟨_, e2, rfl⟩ PySem.F.slot_list_lt PySem.F.entry_list_lt (PySem.F.args_list_lt_2 _ _) (list_lt_ints a b va vb n n2 dd dd2 sl sl2 ns ms hi hj)
    ⟨e, e2, show Value.bool (lexLt ns ms) ≠ Value.notImplemented ∧ Q (.bool (lexLt ns ms)) s from ⟨(fun x => nomatch x), h⟩⟩ hu
theorem min_lists {it l S : Addr} {its : Array Value} {g : Heap} (nss : List (List Int)) (hh : A.in1.handled = none) (hu : A.in1.units < cLine) (hne : l ≠ it) (hSi : S ≠ it) (hSl : l ≠ S) (hl : g.IsList l its)
    (ht : ∀ (i : Nat) v, its[i]? = some v → ∃ a ns, v = .ref a ∧ a ≠ it ∧ a ≠ S ∧ IntsL g a ns ∧ nss[i]? = some ns) :
    ∀ (k j : Nat) (s : Shared) (m : Nat) (vb : Value) (mb : List Int) (c : Nat), its.size - (j + 1) = k → j + 1 ≤ its.size → (∀ b o, b ≠ it → b ≠ S → g.get? b = some o → s.heap.get? b = some o) → s.heap.IsListIter it l (j + 1) →
      its[m]? = some vb → nss[m]? = some mb → (∀ (i : Nat) ns, i ≤ j → nss[i]? = some ns → lexLt ns mb = false) → s.heap.get? S = some { cls := .type "list", dict := none, data := .seq #[vb, vb] c, slots := #[] } →
      (∀ v h' tk (m : Nat) mb, its[m]? = some v → nss[m]? = some mb → (∀ (i : Nat) ns, i < its.size → nss[i]? = some ns → lexLt ns mb = false) → (∀ b o, b ≠ it → b ≠ S → g.get? b = some o → h'.get? b = some o) → R (.ok (.ret v)) { s with heap := h', toks := tk }) →
      codeAny (model prog w) A (.builtin "min.loop" ⟨[.ref it, .none, .ref S], []⟩) R s := by
  have nm : (toString "min" ++ toString ".loop" : String) = "min.loop" := by decide
  intro k
  induction k with
  | zero =>
    intro j s m vb mb c hk hj kp hit hm hmb best hS hR
    refine codeAny_builtin F.entry_min_loop (?_ : wpAny _ _ _ _ _ _)
    rw [Around.under_plainId F.plain_min_loop _]
    show wpAny _ A.in1 (seqItems? (.ref S) >>= _) _ _ s
    refine wpAny_bind (wpAny_seqItems hS rfl (?_ : wpAny _ A.in1 (tryCatch (pyNext (.ref it)) _ >>= _) _ _ s))
    have hl' : s.heap.IsList l its := hl.at fun o e => kp l o hne hSl e
    refine wpAny_bind (wpAny_tryCatch (wpAny_pyNext_list_end hh hit hl' (by simp; omega) fun h' ex => ?_))
    have hS' := ex S _ hSi hS
    refine wpAny_bind (?_ : wpAny _ A.in1 (updateSeq S (fun _ => #[])) _ _ _)
    refine wpAny_updateSeq hS' rfl (wpAny_bind (wpAny_letGo (wpAny_pure ?_)))
    exact hR vb _ s.toks m mb hm hmb (fun i ns hi e => best i ns (by omega) e) fun b o n1 n2 e => (Heap.get?_update_other _ _ (Ne.symm n2)).trans (ex b o n1 (kp b o n1 n2 e))
  | succ k ih =>
    intro j s m vb mb c hk hj kp hit hm hmb best hS hR
    have hlt : j + 1 < its.size := by omega
    refine codeAny_builtin F.entry_min_loop (?_ : wpAny _ _ _ _ _ _)
    rw [Around.under_plainId F.plain_min_loop _]
    show wpAny _ A.in1 (seqItems? (.ref S) >>= _) _ _ s
    refine wpAny_bind (wpAny_seqItems hS rfl (?_ : wpAny _ A.in1 (tryCatch (pyNext (.ref it)) _ >>= _) _ _ s))
    have hl' : s.heap.IsList l its := hl.at fun o e => kp l o hne hSl e
    have hx : its[j + 1]? = some its[j + 1] := by simp [hlt]
    obtain ⟨a, ns, ea, na1, na2, hL, hns⟩ := ht (j + 1) _ hx
    obtain ⟨ab, ms, eb, nb1, nb2, hLb, hms⟩ := ht m _ hm
    obtain rfl : mb = ms := by rw [hmb] at hms; exact Option.some.inj hms
    refine wpAny_bind (wpAny_tryCatch (wpAny_pyNext_list_item hit hl' hx fun h' hit' sb => ?_))
    have kp' : ∀ b o, b ≠ it → b ≠ S → g.get? b = some o → h'.get? b = some o := fun b o n1 n2 e => sb.extBut b o n1 (kp b o n1 n2 e)
    have hS' := sb.extBut S _ hSi hS
    have up : ∀ {x : Addr} {q : List Int}, x ≠ it → x ≠ S → IntsL g x q → IntsL h' x q := fun n1 n2 ⟨vs, n, dd, sl, e, i⟩ => ⟨vs, n, dd, sl, kp' _ _ n1 n2 e, i⟩
    rw [ea]
    subst eb
    show wpAny _ A.in1 (tryCatch (holding [Value.ref a, Value.ref a] (richCompare .Lt (.ref a) (.ref ab) >>= _)) _ >>= _) _ _ _
    refine wpAny_bind (wpAny_tryCatch (wpAny_holding (wpAny_bind (rc_lists (s := { s with heap := h' }) (up na1 na2 hL) (up nb1 nb2 hLb) hu ?_))))
    refine wpAny_bind (wpAny_holding (wpAny_truthy_bool ?_))
    refine wpAny_bind (wpAny_letGo (wpAny_pure ?_))
    cases hb : lexLt ns mb with
    | true =>
      simp only [if_true]
      refine wpAny_bind ?_
      refine wpAny_updateSeq hS' rfl (wpAny_bind (wpAny_letGo ?_))
      rw [nm]
      refine wpAny_pure ⟨plainId_quiet F.plain_min_loop _, ih (j + 1) _ (j + 1) (.ref a) ns _ (by omega) hlt (fun b o n1 n2 e => (Heap.get?_update_other _ _ (Ne.symm n2)).trans (kp' b o n1 n2 e)) (hit'.at fun o e => (Heap.get?_update_other _ _ hSi).trans e) (by rw [hx, ea]) hns (fun i q hi e => ?_) (Heap.get?_update_self _ hS' rfl) hR⟩
      by_cases z : i = j + 1
      · subst z
        rw [hns] at e
        rw [← Option.some.inj e]; exact lexLt_irrefl _
      · cases y : lexLt q ns with
        | false => rfl
        | true => rw [← best i q (by omega) e, lexLt_trans y hb]
    | false =>
      simp only [Bool.false_eq_true, if_false]
      refine wpAny_bind (wpAny_letGo ?_)
      rw [nm]
      refine wpAny_pure ⟨plainId_quiet F.plain_min_loop _, ih (j + 1) _ m (.ref ab) mb c (by omega) hlt kp' hit' hm hmb (fun i q hi e => ?_) hS' hR⟩
      by_cases z : i = j + 1
      · subst z
        rw [hns] at e
        rw [← Option.some.inj e]; exact hb
      · exact best i q (by omega) e
end
end HT
namespace L2
open PySem PySem.Spec PyProof.Rows PySem.W HT
theorem pair_at {α β : Type} {F : α → β → Prop} : ∀ {l : List α} {m : List β} {i : Nat} {x : α}, Paired F l m → l[i]? = some x → ∃ y, m[i]? = some y ∧ F x y
  | _, _, i, x, .nil, e => by simp at e
  | _, _, 0, x, .cons p _, e => by simp at e; subst e; exact ⟨_, rfl, p⟩
  | _, _, i + 1, x, .cons _ t, e => by simpa using pair_at (i := i) t (by simpa using e)
section
variable {X : Cx}
/-- min of a list of lists of ints -/
def rMinL (K : Frag) : List V → Hp → VK → Prop := fun xs H Q => ∃ (p : Addr) (ys : List V) (nss : List (List Int)), xs = [.ref p] ∧ SqL K H p ys ∧ Paired (fun y ns => ∃ a, y = V.ref a ∧ H a = some (.lst (ns.map V.int))) ys nss ∧ nss ≠ [] ∧
  ∀ a mb, mb ∈ nss → H a = some (.lst (mb.map V.int)) → (∀ ns ∈ nss, lexLt ns mb = false) → Q (.ref a) H
theorem call_minL (hc : X.calm = true) (hu : X.A.units + 64 < cLine) : CallR X (.builtin "min") (rMinL X.K) := by
  intro pins s σ H xs us Q I r h
  obtain ⟨p, ys, nss, rfl, hq, pr, hne, q⟩ := h
  obtain ⟨u, rfl, rx⟩ := vals1 r
  cases rx
  obtain ⟨its, rv, pl, hz⟩ := I.list hq
  have hlen := rv.length
  have hlen2 : ys.length = nss.length := Paired.length pr
  have all : ∀ (i : Nat) v, its.toArray[i]? = some v → ∃ a ns, v = .ref a ∧ H a = some (.lst (ns.map V.int)) ∧ nss[i]? = some ns := by
    intro i v e
    have e' : its[i]? = some v := by simpa using e
    have hi : i < ys.length := by rw [hlen]; exact (List.getElem?_eq_some_iff.mp e').1
    obtain ⟨ns, hns, a, ey, ha⟩ := pair_at pr (show ys[i]? = some ys[i] from List.getElem?_eq_getElem hi)
    obtain ⟨u, hu, ru⟩ := rv.get (show ys[i]? = some (V.ref a) by rw [List.getElem?_eq_getElem hi, ey])
    rw [e'] at hu
    cases hu
    exact ⟨a, ns, ru, ha, hns⟩
  have new : ∀ b o, s.heap.get? b = some o → b ≠ s.heap.objs.size := fun b o e => Nat.ne_of_lt (Heap.lt_size e)
  have new1 : ∀ b o, s.heap.get? b = some o → b ≠ s.heap.objs.size + 1 := fun b o e => Nat.ne_of_lt (Nat.lt_succ_of_lt (Heap.lt_size e))
  obtain ⟨ol, hol, _⟩ := id pl.isList
  have ht : ∀ (i : Nat) v, its.toArray[i]? = some v → ∃ a ns, v = .ref a ∧ a ≠ s.heap.objs.size ∧ a ≠ s.heap.objs.size + 1 ∧ IntsL s.heap a ns ∧ nss[i]? = some ns := by
    intro i v e
    obtain ⟨a, ns, ea, ha, hns⟩ := all i v e
    obtain ⟨it2, r2, p2, _⟩ := I.list (SqL.of ha)
    obtain ⟨o, ho, hcl, n, hd⟩ := id p2.isList
    obtain ⟨cl, dd, dt, sl⟩ := o
    obtain rfl : cl = .type "list" := hcl
    obtain rfl : dt = .seq it2.toArray n := hd
    exact ⟨a, ns, ea, new a _ ho, new1 a _ ho, ⟨it2.toArray, n, dd, sl, ho, by simpa using intsAre_of r2⟩, hns⟩
  have h0 : 0 < its.toArray.size := by
    rw [List.size_toArray, ← hlen, hlen2]
    exact List.length_pos_iff.mpr hne
  have hsz : (s.heap.push { cls := .type "list_iterator", data := .fields #[.ref p, .int 0 0] }).objs.size = s.heap.objs.size + 1 := Heap.size_push ..
  have nm : (toString "min" ++ toString ".loop" : String) = "min.loop" := by decide
  refine call_function_tree F.kind_min F.plain_min F.entry_min (F.args_min1 _) (?_ : wpAny _ _ _ _ _ _)
  refine wpAny_bind (m := Builtin.Builtins.bindParams "min" ["key", "default"] 0 ⟨[], []⟩) (wpAny_of_eq (a := [none, none]) rfl (wpAny_bind (wpAny_pure ?_)))
  refine wpAny_bind (wpAny_pyIter_list pl.isList (wpAny_bind (wpAny_newObj_type ?_)))
  rw [nm, hsz]
  refine wpAny_pure ⟨plainId_quiet F.plain_min_loop _, ?_⟩
  refine codeAny_builtin F.entry_min_loop (?_ : wpAny _ _ _ _ _ _)
  rw [Around.under_plainId F.plain_min_loop _]
  have hS0 : ((s.heap.push { cls := .type "list_iterator", data := .fields #[.ref p, .int 0 0] }).push { cls := .type "list", data := .seq #[] }).get? (s.heap.objs.size + 1) = some { cls := .type "list", data := .seq #[] } := by
    rw [← hsz]; exact Heap.get?_push_size _ rfl
  have hit0 : ((s.heap.push { cls := .type "list_iterator", data := .fields #[.ref p, .int 0 0] }).push { cls := .type "list", data := .seq #[] }).IsListIter s.heap.objs.size p 0 := ⟨_, Heap.get?_push_of_some _ (Heap.get?_push_size _ rfl), rfl, rfl⟩
  have kp0 : ∀ b o, s.heap.get? b = some o → ((s.heap.push { cls := .type "list_iterator", data := .fields #[.ref p, .int 0 0] }).push { cls := .type "list", data := .seq #[] }).get? b = some o := fun b o e => Heap.get?_push_of_some _ (Heap.get?_push_of_some _ e)
  generalize (s.heap.push { cls := .type "list_iterator", data := .fields #[.ref p, .int 0 0] }).push { cls := .type "list", data := .seq #[] } = h1 at hS0 hit0 kp0 ⊢
  refine wpAny_bind (m := seqItems? (.ref (s.heap.objs.size + 1))) (wpAny_seqItems hS0 rfl ?_)
  have hx : its.toArray[0]? = some (its.toArray[0]) := by simp [h0]
  obtain ⟨a, ns, ea, na1, na2, hL, hns⟩ := ht 0 _ hx
  refine wpAny_bind (m := tryCatch (pyNext (.ref s.heap.objs.size)) _) (wpAny_tryCatch (wpAny_pyNext_list_item hit0 (pl.isList.at fun o e => kp0 _ o e) hx fun h' hit' sb => ?_))
  have hSi : s.heap.objs.size + 1 ≠ s.heap.objs.size := Nat.succ_ne_self _
  have hS' := sb.extBut _ _ hSi hS0
  refine wpAny_bind (m := updateSeq (s.heap.objs.size + 1) (fun _ => #[its.toArray[0], its.toArray[0]])) (wpAny_updateSeq hS' rfl ?_)
  rw [nm]
  refine wpAny_pure ⟨plainId_quiet F.plain_min_loop _, min_lists (g := s.heap) nss (I.ok.hd hc) (Nat.lt_of_le_of_lt (Nat.le_refl (X.A.units + 1)) (by omega)) (new p ol hol) hSi (new1 p ol hol) pl.isList ht _ 0 _ 0 _ ns _ rfl h0 (fun b o n1 n2 e => (Heap.get?_update_other _ _ (Ne.symm n2)).trans (sb.extBut b o n1 (kp0 b o e))) (hit'.at fun o e => (Heap.get?_update_other _ _ hSi).trans e) hx hns (fun i q hi e => ?_) (Heap.get?_update_self _ hS' rfl) fun v h2 tk m mb hv hmb best kp => ?_⟩
  · obtain rfl : i = 0 := by omega
    rw [hns] at e
    rw [← Option.some.inj e]; exact lexLt_irrefl _
  · obtain ⟨a2, ns2, ea2, ha2, hn2⟩ := all m v hv
    obtain rfl : mb = ns2 := by rw [hmb] at hn2; exact Option.some.inj hn2
    subst ea2
    refine ⟨.ref a2, H, I.kept (t' := tk) fun b o e => kp b o (new b o e) (new1 b o e) e, rfl, q a2 mb (List.mem_of_getElem? hmb) ha2 fun q2 hq2 => ?_⟩
    obtain ⟨i, hi, rfl⟩ := List.getElem_of_mem hq2
    exact best i _ (by rw [List.size_toArray, ← hlen, hlen2]; exact hi) (List.getElem?_eq_getElem hi)
end
end L2
/-! ### enumerate over a tuple -/
namespace HT
open PySem PyProof.Rows
section
variable {prog : Program} {w : World} {A : Around} {E : Value → Shared → Prop} {s : Shared}
theorem step_tup {it t : Addr} {i : Nat} {vs : Array Value} {x : Value} {Q : Value → Shared → Prop} (ti : IsTupIter s.heap it t i) (ht : IsTup s.heap t vs) (hx : vs[i]? = some x)
    (q : ∀ h', IsTupIter h' it t (i + 1) → Heap.SameBut it s.heap h' → Q x { s with heap := h' }) : wpAny (model prog w) A (Builtin.SmallTypes.nextOf (.ref it)) Q E s := by
  obtain ⟨o, e1, e2, e3⟩ := id ti
  obtain ⟨u, f1, _, n, f2⟩ := ht
  unfold Builtin.SmallTypes.nextOf
  refine wpAny_bind (wpAny_callSpecial?_slot (name := Str.ofString "__next__") ti.typeIs slot_tupleiter_next (wpAny_call_entry slot_tupleiter_next ti.typeIs entry_tupleiter_next ?_ (args_tupleiter_next _)))
  refine wpAny_bind (m := field (.ref it) 0) (wpAny_field e1 e3 (x := .ref t) rfl (?_ : wpAny _ _ (if (Value.ref t == Value.none) = true then _ else _) _ _ s))
  rw [if_neg (show ¬ ((Value.ref t == Value.none) = true) from Bool.false_ne_true)]
  refine wpAny_bind (m := field (.ref it) 1) (wpAny_field e1 e3 (x := .int i 0) rfl (wpAny_bind (m := seqItems? (.ref t)) (wpAny_seqItems f1 f2 ?_)))
  simp only [Int.toNat_natCast, hx]
  refine wpAny_bind (wpAny_setField e1 e3 (by simp) (wpAny_pure ⟨x, rfl, wpAny_pure (q _ ⟨_, Heap.get?_update_self _ e1 (Obj.isFreed_of_fields (Obj.data_mapFields e3 _)), (Obj.cls_mapFields ..).trans e2, ?_⟩ (Heap.SameBut.update ..))⟩))
  rw [Obj.data_mapFields e3]; simp [rawInt]
theorem stop_tup {it t : Addr} {i : Nat} {vs : Array Value} {Q : Value → Shared → Prop} (hh : A.handled = none) (ti : IsTupIter s.heap it t i) (ht : IsTup s.heap t vs) (hx : vs[i]? = none)
    (q : ∀ h' e, Heap.ExtBut it s.heap h' → (∃ o, h'.get? e = some o ∧ o.cls = .type "StopIteration") → E (.ref e) { s with heap := h' }) : wpAny (model prog w) A (Builtin.SmallTypes.nextOf (.ref it)) Q E s := by
  obtain ⟨o, e1, e2, e3⟩ := id ti
  obtain ⟨u, f1, _, n, f2⟩ := ht
  unfold Builtin.SmallTypes.nextOf
  refine wpAny_bind (wpAny_callSpecial?_slot (name := Str.ofString "__next__") ti.typeIs slot_tupleiter_next (wpAny_call_entry slot_tupleiter_next ti.typeIs entry_tupleiter_next ?_ (args_tupleiter_next _)))
  refine wpAny_bind (m := field (.ref it) 0) (wpAny_field e1 e3 (x := .ref t) rfl (?_ : wpAny _ _ (if (Value.ref t == Value.none) = true then _ else _) _ _ s))
  rw [if_neg (show ¬ ((Value.ref t == Value.none) = true) from Bool.false_ne_true)]
  refine wpAny_bind (m := field (.ref it) 1) (wpAny_field e1 e3 (x := .int i 0) rfl (wpAny_bind (m := seqItems? (.ref t)) (wpAny_seqItems f1 f2 ?_)))
  simp only [Int.toNat_natCast, hx]
  refine wpAny_bind (wpAny_rule (wpAny_bind (wpAny_setField e1 e3 (by simp) (?_ : wpAny _ _ (newExc (.type "StopIteration") [] >>= _) _ _ _))))
  refine wpAny_bind ?_
  simp only [newExc, newTuple]
  refine wpAny_bind (wpAny_newObj_type (wpAny_bind (m := firstArgMember _ _) (wpAny_of_eq (a := Value.none) (by first | rfl | (simp only [firstArgMember]; rfl)) (wpAny_newObj_type ?_ (by size_fits)))) (by size_fits))
  simp only [raiseNew]
  refine wpAny_bind (wpAny_handled ?_)
  rw [show A.in1.handled = none from hh]
  exact wpAny_bind (wpAny_pure (wpAny_throw (q _ _ (((Heap.SameBut.update ..).extBut.push _).push _) ⟨_, Heap.get?_push_size _ rfl, rfl⟩)))
/-- enumerate's own step, whatever stands within -/
theorem enum_step {e it : Addr} {i : Nat} {x old : Value} {Tn : Heap → Prop} {Q : Option Value → Shared → Prop} (he : IsEnum s.heap e it i old) (hne : e ≠ it)
    (inner : ∀ (A : Around) (E : Value → Shared → Prop) (Q : Value → Shared → Prop), (∀ h', Tn h' → Heap.SameBut it s.heap h' → Q x { s with heap := h' }) → wpAny (model prog w) A (Builtin.SmallTypes.nextOf (.ref it)) Q E s)
    (tn : ∀ h h' : Heap, Tn h → (∀ o, h.get? it = some o → h'.get? it = some o) → Tn h')
    (q : ∀ h', IsEnumOut h' e it ((i : Int) + 1) x s.heap.objs.size → Tn h' → h'.get? s.heap.objs.size = some { cls := .type "tuple", data := .seq #[.int i s.toks, x] } → (∀ b o, b ≠ e → b ≠ it → s.heap.get? b = some o → h'.get? b = some o) → Q (some (.ref s.heap.objs.size)) { s with heap := h', toks := s.toks + 1 }) :
    wpAny (model prog w) A (pyNext (.ref e)) Q E s := by
  have hT : s.TypeIs (.ref e) "enumerate" := ⟨_, he, rfl⟩
  unfold pyNext
  refine wpAny_bind (wpAny_attempt (wpAny_callSpecial?_slot (name := Str.ofString "__next__") hT F.slot_enumerate_next (wpAny_call_entry F.slot_enumerate_next hT F.entry_enumerate_next ?_ (F.args_enumerate_next_1 _))))
  obtain ⟨hp, g, d, tk, os⟩ := s
  refine wpAny_bind (m := field (.ref e) 2) (wpAny_field he rfl (x := .ref it) rfl (wpAny_bind (inner _ _ _ fun k1 t1 (b1 : Heap.SameBut it hp k1) => ?_)))
  have e1 : IsEnum k1 e it i old := (b1.2 e hne).trans he
  refine wpAny_bind (m := field (.ref e) 3) (s := ⟨k1, g, d, tk, os⟩) (wpAny_field e1 rfl (x := rawInt i) rfl (wpAny_bind (m := field (.ref e) 4) (wpAny_field e1 rfl (x := .none) rfl (wpAny_bind (m := mkInt i) (wpAny_mkInt ?_)))))
  refine wpAny_bind (m := setField (.ref e) 3 (rawInt ((i : Int) + 1))) (s := ⟨k1, g, d, tk + 1, os⟩) (wpAny_setField_rec e1 (by simp) fun k2 e2 (b2 : Heap.SameBut e k1 k2) => ?_)
  replace e2 : IsEnum k2 e it ((i : Int) + 1) old := e2
  refine wpAny_bind (m := setField (.ref e) 4 .none) (s := ⟨k2, g, d, tk + 1, os⟩) (wpAny_setField_rec e2 (by simp) fun k3 e3 (b3 : Heap.SameBut e k2 k3) => ?_)
  replace e3 : IsEnum k3 e it ((i : Int) + 1) old := e3
  refine wpAny_bind (m := newTuple [.int i tk, x]) (s := ⟨k3, g, d, tk + 1, os⟩) (wpAny_newTuple ?_)
  have z3 : k3.objs.size = hp.objs.size := by rw [b3.1, b2.1, b1.1]
  have el : hp.objs.size ≠ e := Nat.ne_of_gt (Heap.lt_size he)
  have nie : it ≠ e := Ne.symm hne
  have kk : ∀ b o, b ≠ e → b ≠ it → hp.get? b = some o → k3.get? b = some o := fun b o n1 n2 z => b3.extBut b o n1 (b2.extBut b o n1 (b1.extBut b o n2 z))
  have t3 : Tn k3 := tn _ _ (tn _ _ t1 fun o z => b2.extBut it o nie z) fun o z => b3.extBut it o nie z
  refine wpAny_bind (m := Builtin.SmallTypes.ownedTupleIsFree (.ref e)) (s := ⟨k3.push { cls := .type "tuple", data := .seq #[.int i tk, x] }, g, d, tk + 1, os⟩) ?_
  rw [z3]
  have e4 : IsEnum (k3.push { cls := .type "tuple", data := .seq #[.int i tk, x] }) e it ((i : Int) + 1) old := Heap.get?_push_of_some _ e3
  have w4 : (k3.push { cls := .type "tuple", data := .seq #[.int i tk, x] }).get? hp.objs.size = some { cls := .type "tuple", data := .seq #[.int i tk, x] } := by rw [← z3]; exact Heap.get?_push_size _ rfl
  have t4 : Tn (k3.push { cls := .type "tuple", data := .seq #[.int i tk, x] }) := tn _ _ t3 fun o z => Heap.get?_push_of_some _ z
  have k4 : ∀ b o, b ≠ e → b ≠ it → hp.get? b = some o → (k3.push { cls := .type "tuple", data := .seq #[.int i tk, x] }).get? b = some o := fun b o n1 n2 z => Heap.get?_push_of_some _ (kk b o n1 n2 z)
  generalize k3.push { cls := .type "tuple", data := .seq #[.int i tk, x] } = k5 at e4 w4 t4 k4 ⊢
  unfold Builtin.SmallTypes.ownedTupleIsFree
  refine wpAny_bind (wpAny_field e4 rfl (x := .none) rfl (wpAny_pure ?_))
  simp only [if_true]
  refine wpAny_bind (wpAny_rule (wpAny_bind (wpAny_field e4 rfl (x := old) rfl (wpAny_bind (wpAny_setField_rec e4 (by simp) fun k6 e6 (b6 : Heap.SameBut e k5 k6) => ?_)))))
  replace e6 : IsEnum k6 e it ((i : Int) + 1) x := e6
  refine wpAny_bind (m := Builtin.SmallTypes.ownedTupleHandOut (.ref e) (.ref hp.objs.size)) (s := ⟨k6, g, d, tk + 1, os⟩) ?_
  unfold Builtin.SmallTypes.ownedTupleHandOut
  refine wpAny_bind (wpAny_setField_rec e6 (by simp) fun k7 e7 (b7 : Heap.SameBut e k6 k7) => ?_)
  replace e7 : IsEnumOut k7 e it ((i : Int) + 1) x hp.objs.size := e7
  refine wpAny_setField_rec e7 (by simp) fun k8 e8 (b8 : Heap.SameBut e k7 k8) => ?_
  replace e8 : IsEnumOut k8 e it ((i : Int) + 1) x hp.objs.size := e8
  have up : ∀ b o, b ≠ e → k5.get? b = some o → k8.get? b = some o := fun b o n z => b8.extBut b o n (b7.extBut b o n (b6.extBut b o n z))
  exact wpAny_bind (wpAny_letGo (wpAny_pure ⟨_, rfl, wpAny_pure (q k8 e8 (tn _ _ t4 fun o z => up it o nie z) (up _ _ el w4) fun b o n1 n2 z => up b o n1 (k4 b o n1 n2 z))⟩))
theorem enum_stop {e it : Addr} {i : Nat} {old : Value} {Q : Option Value → Shared → Prop} (he : IsEnum s.heap e it i old)
    (inner : ∀ (A : Around) (E : Value → Shared → Prop) (Q : Value → Shared → Prop), A.handled = none → (∀ h' x, Heap.ExtBut it s.heap h' → (∃ o, h'.get? x = some o ∧ o.cls = .type "StopIteration") → E (.ref x) { s with heap := h' }) → wpAny (model prog w) A (Builtin.SmallTypes.nextOf (.ref it)) Q E s) (hh : A.handled = none)
    (q : ∀ h', Heap.ExtBut it s.heap h' → Q none { s with heap := h' }) : wpAny (model prog w) A (pyNext (.ref e)) Q E s := by
  have hT : s.TypeIs (.ref e) "enumerate" := ⟨_, he, rfl⟩
  unfold pyNext
  refine wpAny_bind (wpAny_attempt (wpAny_callSpecial?_slot (name := Str.ofString "__next__") hT F.slot_enumerate_next (wpAny_call_entry F.slot_enumerate_next hT F.entry_enumerate_next ?_ (F.args_enumerate_next_1 _))))
  refine wpAny_bind (m := field (.ref e) 2) (wpAny_field he rfl (x := .ref it) rfl (wpAny_bind (inner _ _ _ hh fun h' x ex ⟨o, ho, hc⟩ => ?_)))
  exact wpAny_bind (wpAny_isInstance (T := "StopIteration") (b := true) ⟨o, ho, hc⟩ isSubtype_stop (wpAny_pure (q _ ex)))
end
end HT
namespace HT
open PySem PyProof.Rows
open PySem.AutoSeq1 (wpAny_loadPart')
theorem enum_newT (t : Addr) (vs : Array Value) (n : Nat) (dd : Option Addr) (sl : Array (Option Value)) :
    Meets (Builtin.«enumerate.__new__» ⟨[.type "enumerate", .ref t], []⟩) (fun _ R s => s.heap.get? t = some { cls := .type "tuple", dict := dd, data := .seq vs n, slots := sl } ∧
      R (.ok (.ret (.ref (s.heap.push { cls := .type "tuple_iterator", data := .fields #[.ref t, .int 0 0] }).objs.size)))
        { s with heap := (s.heap.push { cls := .type "tuple_iterator", data := .fields #[.ref t, .int 0 0] }).push { cls := .type "enumerate", data := .fields #[.none, .bool false, .ref s.heap.objs.size, rawInt 0, .none, .none] } }) :=
  .of_wp fun prog w A R s h => by
    obtain ⟨hp, g, d, tk, os⟩ := s; obtain ⟨e, h⟩ := h
    have hsub := sub_enumerate
    have hL : IsTup (Shared.heap ⟨hp, g, d, tk, os⟩) t vs := ⟨_, e, rfl, n, rfl⟩
    wp_walk using wpAny_loadPart' e
    refine wpAny_stack_any fun st => wpAny_pure ?_
    split
    · rename_i c _ _ _ _ _
      cases (c == Value.type "enumerate") <;> (wp_walk using wpAny_loadPart' e, iter_tuple hL; exact ⟨_, rfl, h⟩)
    · wp_walk using wpAny_loadPart' e, iter_tuple hL
      exact ⟨_, rfl, h⟩
theorem call_enumT {prog : Program} {w : World} {A : Around} {E : Value → Shared → Prop} {s : Shared} {t : Addr} {vs : Array Value} {Q : Value → Shared → Prop} (hL : IsTup s.heap t vs)
    (h : ∀ h', IsEnum h' (s.heap.objs.size + 1) s.heap.objs.size 0 .none → IsTupIter h' s.heap.objs.size t 0 → (∀ b o, s.heap.get? b = some o → h'.get? b = some o) → Q (.ref (s.heap.objs.size + 1)) { s with heap := h' }) :
    wpAny (model prog w) A (call (.type "enumerate") [.ref t]) Q E s := by
  obtain ⟨⟨c, dct, dt, sl⟩, e, hc, n, hd⟩ := hL
  obtain rfl : c = .type "tuple" := hc
  obtain rfl : dt = .seq vs n := hd
  refine callType_new F.called_enumerate (by decide) (F.typeCall_enumerate_1 _) (F.newCall_enumerate_1 _) (fun obj => F.args_object_init_2 obj _) F.entry_enumerate_new (enum_newT t vs n dct sl) ⟨e, ?_⟩
  have z : (s.heap.push { cls := .type "tuple_iterator", data := .fields #[.ref t, .int 0 0] }).objs.size = s.heap.objs.size + 1 := Heap.size_push ..
  show _ ∧ _
  rw [z]
  have he : ((s.heap.push { cls := .type "tuple_iterator", data := .fields #[.ref t, .int 0 0] }).push { cls := .type "enumerate", data := .fields #[.none, .bool false, .ref s.heap.objs.size, rawInt 0, .none, .none] }).get? (s.heap.objs.size + 1) = some { cls := .type "enumerate", data := .fields #[.none, .bool false, .ref s.heap.objs.size, rawInt 0, .none, .none] } := by
    rw [← z]; exact Heap.get?_push_size _ rfl
  exact ⟨⟨_, he, rfl⟩, h _ he ⟨_, Heap.get?_push_of_some _ (Heap.get?_push_size _ rfl), rfl, rfl⟩ fun b o x => Heap.get?_push_of_some _ (Heap.get?_push_of_some _ x)⟩
end HT
namespace L2
open PySem PySem.Spec PyProof.Rows PySem.W HT
def ItE (K : Frag) (l : Addr) : It :=
  ⟨fun i H => ∃ xs x, SqT K H l xs ∧ xs[i]? = some x, fun i H x H' => ∃ t v, H t = none ∧ x = .ref t ∧ (∀ xs, SqT K H l xs → xs[i]? = some v) ∧ H' = upd H t (.tup [.int i, v]), fun i H => ∃ xs, SqT K H l xs ∧ xs.length ≤ i⟩
theorem turn_enumT {P : Program} {w : World} {K : Frag} {elts : List Expr} {n1 : Nat} {tp : Pos} (l e it : Addr) (hne : e ≠ it) :
    Turn P w K (.Tuple elts n1 tp) (ItE K l) [e, it] e (fun i h => (∃ old, IsEnum h e it i old) ∧ IsTupIter h it l i) where
  mem := by simp
  obj := fun i h st b hb => by
    obtain ⟨⟨old, h1⟩, o, h2, _, d⟩ := st
    rcases List.mem_cons.mp hb with z | z
    · subst z; exact ⟨_, h1, fun v q => by cases q⟩
    · obtain rfl : b = it := by simpa using z
      exact ⟨o, h2, fun v z => by rw [d] at z; cases z⟩
  keep := fun i h h' st k => by
    obtain ⟨⟨old, h1⟩, o, h2, r⟩ := st
    exact ⟨⟨old, k e (by simp) _ h1⟩, o, k it (by simp) _ h2, r⟩
  item := by
    intro X hP hw hK hc i pins s σ H E I hf st hg
    subst hP hw hK
    obtain ⟨xs, x, hq, hx⟩ := hg
    obtain ⟨its, rv, p, hz⟩ := I.tuple hq
    obtain ⟨u, hu, ru⟩ := rv.get hx
    obtain ⟨⟨old, h1⟩, h2⟩ := st
    have fe := hf e (by simp)
    have fi := hf it (by simp)
    refine enum_step (Tn := fun h => IsTupIter h it l (i + 1)) h1 hne (fun A E Q z => step_tup h2 p (x := u) (by simpa using hu) z) (fun h h' ⟨o, z, r⟩ k => ⟨o, k o z, r⟩) fun h' e1 i1 t1 k1 => ⟨_, rfl, ?_⟩
    refine wpAny_letOwnedTupleGo_enum (s := { s with heap := h', toks := s.toks + 1 }) e1 fun h'' e2 sb => ?_
    have eS : e ≠ s.heap.objs.size := Nat.ne_of_lt (Heap.lt_size h1)
    have k2 : ∀ b o, b ≠ e → b ≠ it → s.heap.get? b = some o → h''.get? b = some o := fun b o n1 n2 q => (sb.2 b n1).trans (k1 b o n1 n2 q)
    have t2 : h''.get? s.heap.objs.size = some { cls := .type "tuple", data := .seq #[.int i s.toks, u] } := (sb.2 _ (Ne.symm eS)).trans t1
    have hn : H s.heap.objs.size = none := I.hok.fresh (Nat.le_refl _)
    have lt : ∀ b o, s.heap.get? b = some o → b ≠ s.heap.objs.size := fun b o q => Nat.ne_of_lt (Heap.lt_size q)
    have trk : ∀ b o, H b = some o → b ≠ e ∧ b ≠ it := fun b o q => ⟨(fun z => by rw [z, fe.1] at q; cases q), (fun z => by rw [z, fi.1] at q; cases q)⟩
    have nch : ∀ b, b ∉ [e, it] → b ≠ e ∧ b ≠ it := fun b hb => ⟨fun z => hb (by simp [z]), fun z => hb (by simp [z])⟩
    have J : Inv X pins σ (upd H s.heap.objs.size (.tup [.int i, x])) { s with heap := h'', toks := s.toks + 1 } := by
      refine I.step (g' := s.gens) (d' := s.drawn) (t' := s.toks + 1) (ch := [e, it]) (fun b hb => ?_) (fun b o _ _ hc q _ => k2 b o (nch b hc).1 (nch b hc).2 q) (fun b o _ _ hc q _ => ⟨o.slots, k2 b o (nch b hc).1 (nch b hc).2 q⟩)
        (fun b o _ q n => by rw [upd_ne (lt b o q)]; exact n) (fun b o hc q => ⟨o, k2 b o (nch b hc).1 (nch b hc).2 q⟩) (fun b ys q => by rw [upd_ne (ne_of_none q hn)]; exact q) (fun b o v q => by rw [upd_ne (ne_of_none q hn)]; exact q)
        (fun b ps q => ⟨#[], by rw [upd_ne (ne_of_none q hn), q]; simp⟩) (fun m hm => ?_) (fun b o q => ?_) I.bare
      · rcases List.mem_cons.mp hb with z | z
        · subst z; exact ⟨fe.2.2.2.1, fe.2.1, fe.2.2.2.2.1, fe.2.2.2.2.2⟩
        · obtain rfl : b = it := by simpa using z
          exact ⟨fi.2.2.2.1, fi.2.1, fi.2.2.2.2.1, fi.2.2.2.2.2⟩
      · obtain ⟨o, es, ep, ho, r⟩ := hm
        exact ⟨o, es, ep, k2 _ o (Ne.symm fe.2.1) (Ne.symm fi.2.1) ho, r⟩
      · by_cases hb : b = s.heap.objs.size
        · subst hb
          rw [upd_same] at q; cases q
          exact ⟨by rw [sizeLine_eq]; show 2 ≤ _; decide, [.int i s.toks, u], .cons ⟨_, rfl⟩ (.cons ru .nil), _, t2, rfl, _, rfl⟩
        · rw [upd_ne hb] at q
          refine (I.hok b o q).stay (fun c v hc z => ?_) (fun c z => by rw [upd_ne (ne_of_none z hn)]; exact z) fun c ys z => by rw [upd_ne (ne_of_none z hn)]; exact z
          rcases hc with hc | hc
          · subst hc; exact k2 _ v (trk _ _ q).1 (trk _ _ q).2 z
          · exact k2 c v (trk _ _ hc).1 (trk _ _ hc).2 z
    refine ⟨.ref s.heap.objs.size, _, J, rfl, ⟨s.heap.objs.size, x, hn, rfl, fun ys hy => by rw [I.tuple_inj hy hq]; exact hx, rfl⟩, ⟨⟨u, e2⟩, ?_⟩, fun b hb => ?_⟩
    · exact i1.extBut sb.extBut (Ne.symm hne)
    · have : b ≠ s.heap.objs.size := by
        rcases List.mem_cons.mp hb with z | z
        · rw [z]; exact eS
        · have z' : b = it := by simpa using z
          obtain ⟨o, q, _⟩ := h2
          rw [z']; exact lt _ _ q
      rw [upd_ne this]; exact (hf b hb).1
  done := by
    intro X hP hw hK hc i pins s σ H E I hf st hg
    subst hP hw hK
    obtain ⟨xs, hq, hx⟩ := hg
    obtain ⟨its, rv, p, hz⟩ := I.tuple hq
    obtain ⟨⟨old, h1⟩, h2⟩ := st
    have fi := hf it (by simp)
    have hl := rv.length
    exact enum_stop h1 (fun A E Q hh z => stop_tup hh h2 p (by simp; omega) z) (I.ok.hd hc) fun h' eb => ⟨rfl, I.turned (t' := s.toks) (fun b o hb q => eb b o hb q) fi.1 fi.2.1 fi.2.2.2.1 fi.2.2.2.2.1 fi.2.2.2.2.2⟩
  self := fun _ _ _ _ _ st h => let ⟨⟨_, h1⟩, _⟩ := st; wpAny_pyIter_enum h1 h
section
variable {X : Cx}
def iEnumT (K : Frag) (ta : TA) : TI := fun σ H R => ta σ H fun vs H1 => ∃ a, vs = [.ref a] ∧ (∃ xs, SqT K H1 a xs) ∧ R (ItE K a) H1
theorem pi_enumT {a : Expr} {ta : TA} {p pos tp : Pos} {elts : List Expr} {n1 : Nat} (hg : Gl X "enumerate") (hm : X.mg "enumerate" = none) (ha : PA X [a] ta) (hs : starEach [a] X.env = [(false, eval a X.env)] := by rfl) :
    PI X (.Tuple elts n1 tp) (.Call (.Name "enumerate" p) [a] [] pos) (iEnumT X.K ta) := by
  intro pins s σ H R I h
  refine Call_ (ld_blt I hg hm (show bootBuiltins "enumerate" = some (.type "enumerate") by decide +kernel) (PyProof.Rows.callWith_type1 (thn (ha pos pins s σ H _ I h) fun us s1 ⟨vs, H1, I1, r1, q1⟩ => ?_) hs rfl))
  obtain ⟨l, e, ⟨xs, hq⟩, q⟩ := q1
  subst e
  obtain ⟨u, rfl, ru⟩ := r1.one
  cases ru
  obtain ⟨its, rv, pl, hz⟩ := I1.tuple hq
  refine call_enumT pl fun h' e1 i1 k1 => ?_
  have I2 : Inv X pins σ H1 { s1 with heap := h' } := I1.kept (t' := s1.toks) k1
  refine wpAny_pyIter_enum (s := { s1 with heap := h' }) e1 ?_
  refine ⟨s1.heap.objs.size + 1, [s1.heap.objs.size + 1, s1.heap.objs.size], _, _, H1, rfl, I2, turn_enumT l (s1.heap.objs.size + 1) s1.heap.objs.size (Nat.succ_ne_self _), ⟨⟨.none, e1⟩, i1⟩, fun b hb => ?_, q⟩
  rcases List.mem_cons.mp hb with z | z
  · subst z; exact I1.fpOk (Nat.le_succ _) (I1.hok.fresh (Nat.le_succ _))
  · have z' : b = s1.heap.objs.size := by simpa using z
    subst z'; exact I1.fpOk (Nat.le_refl _) (I1.hok.fresh (Nat.le_refl _))
theorem for_enumT {K : Frag} {a : Addr} {xs : List V} {g : TG} {tb : TS} {D : Ends} {σ : St} {H : Hp} (Pv : Nat → St → Hp → Prop) (h0 : Pv 0 σ H) (hl : ∀ i σ H, i ≤ xs.length → Pv i σ H → SqT K H a xs)
    (hs : ∀ i x σ H t, xs[i]? = some x → Pv i σ H → H t = none → g (.ref t) σ (upd H t (.tup [.int i, x])) fun σ2 H2 => tb { D with nx := Pv (i + 1), ct := Pv (i + 1), bk := D.nx } σ2 H2) (hd : ∀ σ H, Pv xs.length σ H → D.nx σ H) :
    ∃ W : Nat → Nat → St → Hp → Prop, (∃ m, W 0 m σ H) ∧ ∀ i m σ H, W i m σ H →
      ((ItE K a).stop i H ∧ D.nx σ H) ∨ ((ItE K a).go i H ∧ ∃ N : St → Hp → Prop, (∀ σ' H', N σ' H' → ∃ m', m' < m ∧ W (i + 1) m' σ' H') ∧ ∀ x H', (ItE K a).yld i H x H' → g x σ H' fun σ2 H2 => tb { D with nx := N, ct := N, bk := D.nx } σ2 H2) := by
  refine ⟨fun i m σ H => m = xs.length - i ∧ i ≤ xs.length ∧ Pv i σ H, ⟨xs.length, by simp, Nat.zero_le _, h0⟩, ?_⟩
  rintro i m σ H ⟨rfl, hi, p⟩
  have q := hl i σ H hi p
  by_cases hlt : i < xs.length
  · refine .inr ⟨⟨xs, xs[i], q, by simp [hlt]⟩, Pv (i + 1), fun σ' H' p' => ⟨xs.length - (i + 1), by omega, rfl, hlt, p'⟩, fun x H' y => ?_⟩
    obtain ⟨t, v, ht, rfl, hv, rfl⟩ := y
    exact hs i v σ _ t (hv xs q) p ht
  · have e : i = xs.length := by omega
    subst e
    exact .inl ⟨⟨xs, q, Nat.le_refl _⟩, hd σ H p⟩
end
end L2
/-! ### dict(zip(xs, ys)) -/
namespace HT
open PySem PyProof.Rows
theorem zip_no_getattr : typeLookup (.type "zip") "__getattr__" = pure none := by rw [typeLookup_type, builtinLookup_eq_fast]; kernel_rfl
theorem zip_no_keys : typeLookup (.type "zip") "keys" = pure none := by rw [typeLookup_type, builtinLookup_eq_fast]; kernel_rfl
theorem zip_getattribute : entryFor table "zip.__getattribute__" = some Builtin.«object.__getattribute__» :=
  entryFor_alias (id' := "object.__getattribute__") (by kernel_rfl) (by decide +kernel) (by decide +kernel) (by kernel_rfl)
theorem meets_zip_keys (a : Addr) (vs : Array Value) (u : Tok) :
    Meets (Builtin.«object.__getattribute__» ⟨[.ref a, .str "keys" u], []⟩) (fun A R s => s.heap.get? a = some { cls := .type "zip", dict := none, data := .fields vs, slots := #[] } ∧ raisesAttr (.ref a) "keys" A R s) :=
  Meets.of_wp fun prog w A R s hs => by
    obtain ⟨hp, g, d, tk, os⟩ := s
    obtain ⟨hx, hs⟩ := hs
    have hT : (⟨hp, g, d, tk, os⟩ : Shared).TypeIs (.ref a) "zip" := ⟨_, hx, rfl⟩
    have hname : (["__module__", "__name__", "__qualname__", "__doc__", "__annotations__"] : List Str).contains "keys" = false := by decide +kernel
    have hmiss := zip_no_keys
    unfold Builtin.«object.__getattribute__»
    repeat (any_goals (first | assumption | wp_step))
    exact wpAny_raiseAttrError hs.1 hs.2 (attrMsg_fits (by decide +kernel) (by rw [sizeLine_eq]; decide +kernel))
theorem zip_keys {prog : Program} {w : World} {A : Around} {E : Value → Shared → Prop} {s : Shared} {a : Addr} {vs : Array Value} {Q : Option Value → Shared → Prop} (hx : s.heap.get? a = some { cls := .type "zip", dict := none, data := .fields vs, slots := #[] }) (hA : A.handled = none)
    (h : ∀ h' tk, (∀ b o, s.heap.get? b = some o → h'.get? b = some o) → Q none { s with heap := h', toks := tk }) : wpAny (model prog w) A (getAttr? (.ref a) "keys") Q E s := by
  obtain ⟨hp, g, d, tk, os⟩ := s
  have hT : ∀ tk', (⟨hp, g, d, tk', os⟩ : Shared).TypeIs (.ref a) "zip" := fun _ => ⟨_, hx, rfl⟩
  have f1 := sub_AttributeError
  have f3 := F.slot_zip_getattribute.lookup
  have f4 := F.slot_zip_getattribute.bind (.ref a)
  have f5 := zip_no_getattr
  unfold getAttr? getAttrBy? getAttrBy
  repeat (any_goals (first | assumption | exact hT _ | ((with_reducible show wpAny _ _ (call (Value.builtin "zip.__getattribute__") _ _) _ _ _); refine call_meets F.slot_zip_getattribute (hT _) zip_getattribute (F.args_zip_getattribute_2 _ _) (meets_zip_keys a vs _) ⟨hx, hA, fun h' tk' e hx' => ?_⟩) | wp_step))
  obtain ⟨t', u', he⟩ := hx'.there
  show wpAny _ _ (getattributeRaised _ _ _ _ _ _ _) _ _ _
  unfold getattributeRaised
  repeat (any_goals (first | assumption | wp_step))
  exact h h' tk' hx'.keeps
end HT
namespace HT
open PySem PyProof.Rows PySem.W
/-- a zip whose last pair is still about -/
def ZipOn (h : Heap) (z TI TO : Addr) : Prop := ∃ (a : Nat) (f1 : Bool) (o : Obj), h.get? z = some { cls := .type "zip", dict := none, data := .fields #[rawInt a, .bool f1, .bool false, .ref TI, .ref TO], slots := #[] } ∧ h.get? a = some o ∧ a ≠ z
section
variable {prog : Program} {w : World} {A : Around} {E : Value → Shared → Prop} {s : Shared}
theorem owned_not {z TI TO : Addr} {Q : Bool → Shared → Prop} (hz : ZipOn s.heap z TI TO) (h : ∀ h', ZipOn h' z TI TO → Heap.SameBut z s.heap h' → Q false { s with heap := h' }) :
    wpAny (model prog w) A (Builtin.SmallTypes.ownedTupleIsFree (.ref z)) Q E s := by
  obtain ⟨a, f1, o, e, ea, nz⟩ := hz
  unfold Builtin.SmallTypes.ownedTupleIsFree
  refine wpAny_bind (wpAny_field e rfl (x := rawInt a) rfl ?_)
  show wpAny _ _ (loadIfAlive a >>= _) _ _ _
  refine wpAny_bind (kdx_alive ea ?_)
  show wpAny _ _ (field (.ref z) 1 >>= _) _ _ _
  refine wpAny_bind (wpAny_field e rfl (x := .bool f1) rfl ?_)
  cases f1 with
  | true => exact wpAny_pure (h _ ⟨a, true, o, e, ea, nz⟩ (Heap.SameBut.refl _ _))
  | false =>
    refine wpAny_bind (m := setField (.ref z) 1 (.bool true)) (wpAny_setField_rec e (by simp) fun h' e' sb => wpAny_pure (h h' ⟨a, true, o, e', sb.extBut _ _ nz ea, nz⟩ sb))
theorem zip_more {z TI TO i1 i2 l1 l2 : Addr} {k1 k2 : Nat} {xs ys : Array Value} {x y : Value} {Q : Value → Shared → Prop} (D : ZipApart z TI TO i1 i2 l1 l2) (hz : ZipOn s.heap z TI TO) (hTI : IsPair s.heap TI (.ref i1) (.ref i2))
    (h1 : s.heap.IsListIter i1 l1 k1) (h2 : s.heap.IsListIter i2 l2 k2) (hl1 : s.heap.IsList l1 xs) (hl2 : s.heap.IsList l2 ys) (hx : xs[k1]? = some x) (hy : ys[k2]? = some y)
    (q : ∀ h', ZipOn h' z TI TO → h'.IsListIter i1 l1 (k1 + 1) → h'.IsListIter i2 l2 (k2 + 1) → IsPair h' s.heap.objs.size x y → (∀ c o, c ≠ z → c ≠ i1 → c ≠ i2 → s.heap.get? c = some o → h'.get? c = some o) → Q (.ref s.heap.objs.size) { s with heap := h' }) :
    wpAny (model prog w) A (Builtin.«zip.__next__» ⟨[.ref z], []⟩) (fun fin s' => ∃ v, fin = .done (.ret v) ∧ Q v s') E s := by
  obtain ⟨a, f1, o, e, ea, nz⟩ := id hz
  refine wpAny_bind (m := field (.ref z) 2) (wpAny_field e rfl (x := .bool false) rfl (wpAny_bind (m := field (.ref z) 3) (wpAny_field e rfl (x := .ref TI) rfl (wpAny_bind (wpAny_seqItems hTI rfl ?_)))))
  refine wpAny_bind (m := Builtin.SmallTypes.ownedTupleIsFree (.ref z)) (owned_not hz fun g1 zo b1 => ?_)
  simp only [Bool.false_eq_true, if_false]
  refine wpAny_bind ?_
  simp only [List.forIn_toArray, List.forIn_cons, List.forIn_nil]
  refine wpAny_bind (wpAny_bind (wpAny_holding (?_ : wpAny _ _ (Builtin.SmallTypes.nextOf (.ref i1) >>= _) _ _ _)))
  refine wpAny_bind (wpAny_nextOf_list_item (s := { s with heap := g1 }) (h1.extBut b1.extBut D.i1z) (hl1.extBut b1.extBut D.l1z) hx fun g2 t2 b2 => wpAny_pure (wpAny_pure ?_))
  refine wpAny_bind (wpAny_bind (wpAny_holding (?_ : wpAny _ _ (Builtin.SmallTypes.nextOf (.ref i2) >>= _) _ _ _)))
  refine wpAny_bind (wpAny_nextOf_list_item (s := { s with heap := g2 }) ((h2.extBut b1.extBut D.i2z).extBut b2.extBut D.i12.symm) ((hl2.extBut b1.extBut D.l2z).extBut b2.extBut D.l2i1) hy fun g3 t3 b3 => wpAny_pure (wpAny_pure (wpAny_pure ?_)))
  refine wpAny_bind (m := newTuple [x, y]) (wpAny_newTuple (wpAny_pure ⟨_, rfl, ?_⟩))
  have sz : g3.objs.size = s.heap.objs.size := by rw [b3.1, b2.1, b1.1]
  show Q (.ref g3.objs.size) _
  rw [sz]
  obtain ⟨a', f', o', e', ea', nz'⟩ := zo
  have up : ∀ c u, c ≠ i1 → c ≠ i2 → g1.get? c = some u → (g3.push { cls := .type "tuple", data := .seq #[x, y] }).get? c = some u := fun c u n1 n2 z => Heap.get?_push_of_some _ (b3.extBut c u n2 (b2.extBut c u n1 z))
  have al : ∃ u, (g3.push { cls := .type "tuple", data := .seq #[x, y] }).get? a' = some u := by
    by_cases n1 : a' = i1
    · obtain ⟨u, hu, _⟩ := t2.extBut b3.extBut D.i12
      exact ⟨u, by rw [n1]; exact Heap.get?_push_of_some _ hu⟩
    · by_cases n2 : a' = i2
      · obtain ⟨u, hu, _⟩ := t3
        exact ⟨u, by rw [n2]; exact Heap.get?_push_of_some _ hu⟩
      · exact ⟨o', up _ _ n1 n2 ea'⟩
  obtain ⟨u, hu⟩ := al
  refine q _ ⟨a', f', u, up _ _ D.i1z.symm D.i2z.symm e', hu, nz'⟩ ?_ ?_ ?_ fun c u n0 n1 n2 z => up c u n1 n2 (b1.extBut c u n0 z)
  · obtain ⟨v, hv, r⟩ := t2.extBut b3.extBut D.i12
    exact ⟨v, Heap.get?_push_of_some _ hv, r⟩
  · obtain ⟨v, hv, r⟩ := t3
    exact ⟨v, Heap.get?_push_of_some _ hv, r⟩
  · rw [← sz]; exact Heap.get?_push_size _ rfl
theorem zip_last {z TI TO i1 i2 l1 l2 : Addr} {k1 : Nat} {xs : Array Value} {Q : Fin → Shared → Prop} (hh : A.handled = none) (D : ZipApart z TI TO i1 i2 l1 l2) (hz : ZipOn s.heap z TI TO) (hTI : IsPair s.heap TI (.ref i1) (.ref i2))
    (h1 : s.heap.IsListIter i1 l1 k1) (hl1 : s.heap.IsList l1 xs) (hx : xs[k1]? = none)
    (q : ∀ h' e, (∀ c o, c ≠ z → c ≠ i1 → s.heap.get? c = some o → h'.get? c = some o) → (∃ o, h'.get? e = some o ∧ o.cls = .type "StopIteration") → E (.ref e) { s with heap := h' }) :
    wpAny (model prog w) A (Builtin.«zip.__next__» ⟨[.ref z], []⟩) Q E s := by
  obtain ⟨a, f1, o, e, ea, nz⟩ := id hz
  refine wpAny_bind (m := field (.ref z) 2) (wpAny_field e rfl (x := .bool false) rfl (wpAny_bind (m := field (.ref z) 3) (wpAny_field e rfl (x := .ref TI) rfl (wpAny_bind (wpAny_seqItems hTI rfl ?_)))))
  refine wpAny_bind (m := Builtin.SmallTypes.ownedTupleIsFree (.ref z)) (owned_not hz fun g1 zo b1 => ?_)
  simp only [Bool.false_eq_true, if_false]
  refine wpAny_bind ?_
  simp only [List.forIn_toArray, List.forIn_cons, List.forIn_nil]
  refine wpAny_bind (wpAny_bind (wpAny_holding (?_ : wpAny _ _ (Builtin.SmallTypes.nextOf (.ref i1) >>= _) _ _ _)))
  exact wpAny_bind (wpAny_nextOf_list_end (s := { s with heap := g1 }) hh (h1.extBut b1.extBut D.i1z) (hl1.extBut b1.extBut D.l1z) hx fun g2 x b2 he => q g2 x (fun c u n0 n1 z => b2 c u n1 (b1.extBut c u n0 z)) he)
/-- pyNext of it -/
theorem next_more {z TI TO i1 i2 l1 l2 : Addr} {k1 k2 : Nat} {xs ys : Array Value} {x y : Value} {Q : Option Value → Shared → Prop} (D : ZipApart z TI TO i1 i2 l1 l2) (hz : ZipOn s.heap z TI TO) (hTI : IsPair s.heap TI (.ref i1) (.ref i2))
    (h1 : s.heap.IsListIter i1 l1 k1) (h2 : s.heap.IsListIter i2 l2 k2) (hl1 : s.heap.IsList l1 xs) (hl2 : s.heap.IsList l2 ys) (hx : xs[k1]? = some x) (hy : ys[k2]? = some y)
    (q : ∀ h', ZipOn h' z TI TO → h'.IsListIter i1 l1 (k1 + 1) → h'.IsListIter i2 l2 (k2 + 1) → IsPair h' s.heap.objs.size x y → (∀ c o, c ≠ z → c ≠ i1 → c ≠ i2 → s.heap.get? c = some o → h'.get? c = some o) → Q (some (.ref s.heap.objs.size)) { s with heap := h' }) :
    wpAny (model prog w) A (pyNext (.ref z)) Q E s := by
  obtain ⟨a, f1, o, e, _⟩ := id hz
  have hT : s.TypeIs (.ref z) "zip" := ⟨_, e, rfl⟩
  unfold pyNext
  exact wpAny_bind (wpAny_attempt (wpAny_callSpecial?_slot (name := Str.ofString "__next__") hT F.slot_zip_next (wpAny_call_entry F.slot_zip_next hT F.entry_zip_next (zip_more D hz hTI h1 h2 hl1 hl2 hx hy fun h' a1 a2 a3 a4 a5 => wpAny_pure (q h' a1 a2 a3 a4 a5)) (F.args_zip_next_1 _))))
theorem next_last {z TI TO i1 i2 l1 l2 : Addr} {k1 : Nat} {xs : Array Value} {Q : Option Value → Shared → Prop} (hh : A.handled = none) (D : ZipApart z TI TO i1 i2 l1 l2) (hz : ZipOn s.heap z TI TO) (hTI : IsPair s.heap TI (.ref i1) (.ref i2))
    (h1 : s.heap.IsListIter i1 l1 k1) (hl1 : s.heap.IsList l1 xs) (hx : xs[k1]? = none) (q : ∀ h', (∀ c o, c ≠ z → c ≠ i1 → s.heap.get? c = some o → h'.get? c = some o) → Q none { s with heap := h' }) : wpAny (model prog w) A (pyNext (.ref z)) Q E s := by
  obtain ⟨a, f1, o, e, _⟩ := id hz
  have hT : s.TypeIs (.ref z) "zip" := ⟨_, e, rfl⟩
  unfold pyNext
  refine wpAny_bind (wpAny_attempt (wpAny_callSpecial?_slot (name := Str.ofString "__next__") hT F.slot_zip_next (wpAny_call_entry F.slot_zip_next hT F.entry_zip_next (zip_last hh D hz hTI h1 hl1 hx fun h' x ex ⟨o, ho, hc⟩ => ?_) (F.args_zip_next_1 _))))
  exact wpAny_bind (wpAny_isInstance (T := "StopIteration") (b := true) ⟨o, ho, hc⟩ isSubtype_stop (wpAny_pure (q _ ex)))
end
end HT
namespace HT
open PySem PyProof.Rows PySem.W L2
theorem plain_upd : plainId "dict.update.loop" = true := by decide +kernel
theorem entry_upd : entryFor table "dict.update.loop" = some Builtin.«dict.update.loop» := entryFor_of_fast (by kernel_rfl)
theorem stored_new {K : Type} [DecidableEq K] {kvs : List (K × Value)} {k : K} {v : Value} (h : k ∉ kvs.map (·.1)) : stored kvs k v = kvs ++ [(k, v)] := by
  unfold stored
  rw [if_neg]
  intro z
  obtain ⟨p, hp, e⟩ := List.any_eq_true.mp z
  exact h (List.mem_map.mpr ⟨p, hp, by simpa using e⟩)
structure DApart (d z TI TO i1 i2 l1 l2 : Addr) : Prop where
  z : d ≠ z
  TI : d ≠ TI
  TO : d ≠ TO
  i1 : d ≠ i1
  i2 : d ≠ i2
  l1 : d ≠ l1
  l2 : d ≠ l2
section
variable {prog : Program} {w : World} {A : Around} {R : Result → Shared → Prop} {z TI TO i1 i2 l1 l2 d : Addr} {xs ys : Array Value} {g : Heap}
/-- what comes behind the item -/
theorem upd_item {E : Value → Shared → Prop} {Q : Unit → Shared → Prop} {s : Shared} {T : Addr} {x y : Value} {k : Key} {kvs : List (Key × Value)} {i : Int} (hT : IsPair s.heap T x y) (hk : (mixKind prog w).is k x = true) (hd : s.heap.DictOf (mixKind prog w) d kvs) (new : k ∉ kvs.map (·.1)) (hz : kvs.length ≤ sizeLine)
    (q : ∀ h' tk, h'.DictOf (mixKind prog w) d (kvs ++ [(k, y)]) → Heap.SameBut d s.heap h' → Q () { s with heap := h', toks := tk }) :
    wpAny (model prog w) A (holding [Value.ref T] (do
      let pair ← (Builtin.Dict.pairItems (.ref T)).tryCatch fun e => do
        if !(← isInstance e (.type "TypeError")) then throw e
        rule "dict.update.element-no-sequence"
        raiseError "TypeError" s!"cannot convert dictionary update sequence element #{i} to a sequence"
      match pair with
      | [k, v] => holding [k, v] (dictSet d k v)
      | l =>
        rule "dict.update.element-length"
        raiseError "ValueError" s!"dictionary update sequence element #{i} has length {l.length}; 2 is required")) Q E s := by
  refine wpAny_holding (wpAny_bind (wpAny_tryCatch ?_))
  unfold Builtin.Dict.pairItems
  refine wpAny_bind (wpAny_typeOf (T := "tuple") ⟨_, hT, rfl⟩ ?_)
  rw [if_pos (by decide)]
  refine wpAny_bind (wpAny_seqItems hT rfl (wpAny_pure ?_))
  show wpAny _ _ (holding [x, y] (dictSet d x y)) _ _ _
  refine wpAny_holding (wpAny_dictSet_pairs (hsz := hz) hk hd fun h' dd sb => ?_)
  rw [stored_new new] at dd
  exact q h' _ dd sb
theorem upd_loop (hh : A.in1.handled = none) (D : ZipApart z TI TO i1 i2 l1 l2) (N : DApart d z TI TO i1 i2 l1 l2) (ps : List (Key × Value)) (nd : (ps.map (·.1)).Nodup) (hz : ps.length ≤ sizeLine) (hsz : xs.size = ps.length)
    (hps : ∀ (i : Nat) p, ps[i]? = some p → ∃ x, xs[i]? = some x ∧ ys[i]? = some p.2 ∧ (mixKind prog w).is p.1 x = true) (hl1 : g.IsList l1 xs) (hl2 : g.IsList l2 ys) :
    ∀ (m k : Nat) (s : Shared), ps.length - k = m → k ≤ ps.length → ZipOn s.heap z TI TO → IsPair s.heap TI (.ref i1) (.ref i2) → s.heap.IsListIter i1 l1 k → s.heap.IsListIter i2 l2 k → s.heap.DictOf (mixKind prog w) d (ps.take k) →
      (∀ b o, b ≠ z → b ≠ TO → b ≠ i1 → b ≠ i2 → b ≠ d → g.get? b = some o → s.heap.get? b = some o) →
      (∀ h' tk, h'.DictOf (mixKind prog w) d ps → (∀ b o, b ≠ z → b ≠ TO → b ≠ i1 → b ≠ i2 → b ≠ d → g.get? b = some o → h'.get? b = some o) → R (.ok (.ret .none)) { s with heap := h', toks := tk }) →
      codeAny (model prog w) A (.builtin "dict.update.loop" ⟨[.ref d, .ref z, rawInt k, .none], []⟩) R s := by
  intro m
  induction m with
  | zero =>
    intro k s hm hk zo hTI t1 t2 dd kp hR
    have ek : k = ps.length := by omega
    refine codeAny_builtin entry_upd (?_ : wpAny _ _ _ _ _ _)
    rw [Around.under_plainId plain_upd _]
    show wpAny _ A.in1 (pyNext (.ref z) >>= _) _ _ s
    refine wpAny_bind (next_last hh D zo hTI t1 (hl1.at fun o e => kp _ o D.l1z D.l1TO D.l1i1 D.l1i2 N.l1.symm e) (by simp; omega) fun h' k' => ?_)
    refine wpAny_bind (m := Builtin.Dict.addKeywords d []) (wpAny_pure (wpAny_pure ?_))
    have dd' : h'.DictOf (mixKind prog w) d (ps.take k) := dd.at fun o e => k' d o N.z N.i1 e
    rw [ek, List.take_length] at dd'
    exact hR h' s.toks dd' fun b o a1 a2 a3 a4 a5 e => k' b o a1 a3 (kp b o a1 a2 a3 a4 a5 e)
  | succ m ih =>
    intro k s hm hk zo hTI t1 t2 dd kp hR
    have hlt : k < ps.length := by omega
    have hp : ps[k]? = some ps[k] := List.getElem?_eq_getElem hlt
    obtain ⟨x, hx, hy, hkey⟩ := hps k _ hp
    have tk1 : ps.take (k + 1) = ps.take k ++ [ps[k]] := by rw [List.take_succ, hp]; rfl
    have new : ps[k].1 ∉ (ps.take k).map (·.1) := fun w => by
      have e : ps.map (·.1) = (ps.take k).map (·.1) ++ (ps.drop k).map (·.1) := by rw [← List.map_append, List.take_append_drop]
      rw [e, List.nodup_append] at nd
      refine nd.2.2 _ w _ ?_ rfl
      rw [List.drop_eq_getElem_cons hlt]
      exact List.mem_cons_self
    refine codeAny_builtin entry_upd (?_ : wpAny _ _ _ _ _ _)
    rw [Around.under_plainId plain_upd _]
    show wpAny _ A.in1 (pyNext (.ref z) >>= _) _ _ s
    refine wpAny_bind (next_more D zo hTI t1 t2 (hl1.at fun o e => kp _ o D.l1z D.l1TO D.l1i1 D.l1i2 N.l1.symm e) (hl2.at fun o e => kp _ o D.l2z D.l2TO D.l2i1 D.l2i2 N.l2.symm e) hx hy fun h' zo' t1' t2' pr k' => ?_)
    have dd' : h'.DictOf (mixKind prog w) d (ps.take k) := dd.at fun o e => k' d o N.z N.i1 N.i2 e
    refine wpAny_bind (upd_item (s := { s with heap := h' }) (k := ps[k].1) pr hkey dd' new (by rw [List.length_take]; omega) fun h'' tk dd'' sb => ?_)
    rw [show ((k : Int) + 1) = ((k + 1 : Nat) : Int) from rfl]
    refine wpAny_pure ⟨plainId_quiet plain_upd _, ih (k + 1) _ (by omega) hlt ?_ ?_ (t1'.extBut sb.extBut N.i1.symm) (t2'.extBut sb.extBut N.i2.symm) (by rw [tk1]; exact dd'') (fun b o a1 a2 a3 a4 a5 e => sb.extBut b o a5 (k' b o a1 a3 a4 (kp b o a1 a2 a3 a4 a5 e))) hR⟩
    · obtain ⟨a, f1, o, e, ea, na⟩ := zo'
      have al : ∃ u, h''.get? a = some u := by
        by_cases w : a = d
        · obtain ⟨q, _, _, hq, _⟩ := dd''
          exact ⟨q, by rw [w]; exact hq⟩
        · exact ⟨o, sb.extBut _ _ w ea⟩
      obtain ⟨u, hu⟩ := al
      exact ⟨a, f1, u, sb.extBut _ _ N.z.symm e, hu, na⟩
    · exact sb.extBut _ _ N.TI.symm (k' _ _ D.TIz D.TIi1 D.TIi2 hTI)
end
end HT
namespace HT
open PySem PyProof.Rows PySem.W L2
theorem nn {a b : Nat} (h : a < b ∨ b < a) : (a : Addr) ≠ (b : Addr) := fun e => by have : a = b := e; omega
section
variable {prog : Program} {w : World} {A : Around} {R : Result → Shared → Prop} {z TI TO i1 i2 l1 l2 d : Addr} {xs ys : Array Value} {g : Heap}
theorem upd_first (hh : A.in1.handled = none) (D : ZipApart z TI TO i1 i2 l1 l2) (N : DApart d z TI TO i1 i2 l1 l2) (ps : List (Key × Value)) (nd : (ps.map (·.1)).Nodup) (hz : ps.length ≤ sizeLine) (hsz : xs.size = ps.length)
    (hps : ∀ (i : Nat) p, ps[i]? = some p → ∃ x, xs[i]? = some x ∧ ys[i]? = some p.2 ∧ (mixKind prog w).is p.1 x = true) (hl1 : g.IsList l1 xs) (hl2 : g.IsList l2 ys) {s : Shared} {a b : Value}
    (zo : IsZip s.heap z TI TO .none) (hTI : IsPair s.heap TI (.ref i1) (.ref i2)) (hTO : IsPair s.heap TO a b) (t1 : s.heap.IsListIter i1 l1 0) (t2 : s.heap.IsListIter i2 l2 0) (dd : s.heap.DictOf (mixKind prog w) d [])
    (kp : ∀ b o, b ≠ z → b ≠ TO → b ≠ i1 → b ≠ i2 → b ≠ d → g.get? b = some o → s.heap.get? b = some o)
    (hR : ∀ h' tk, h'.DictOf (mixKind prog w) d ps → (∀ b o, b ≠ z → b ≠ TO → b ≠ i1 → b ≠ i2 → b ≠ d → g.get? b = some o → h'.get? b = some o) → R (.ok (.ret .none)) { s with heap := h', toks := tk }) :
    codeAny (model prog w) A (.builtin "dict.update.loop" ⟨[.ref d, .ref z, rawInt 0, .none], []⟩) R s := by
  refine codeAny_builtin entry_upd (?_ : wpAny _ _ _ _ _ _)
  rw [Around.under_plainId plain_upd _]
  show wpAny _ A.in1 (pyNext (.ref z) >>= _) _ _ s
  have L1 : s.heap.IsList l1 xs := hl1.at fun o e => kp _ o D.l1z D.l1TO D.l1i1 D.l1i2 N.l1.symm e
  have L2 : s.heap.IsList l2 ys := hl2.at fun o e => kp _ o D.l2z D.l2TO D.l2i1 D.l2i2 N.l2.symm e
  cases ps with
  | nil =>
    refine wpAny_bind (wpAny_pyNext_zip_end hh D zo hTI hTO t1 t2 L1 L2 (.inl (by simp at hsz; simp [hsz])) fun h' k' => ?_)
    refine wpAny_bind (m := Builtin.Dict.addKeywords d []) (wpAny_pure (wpAny_pure ?_))
    exact hR h' s.toks (dd.at fun o e => k' d o N.z N.TO N.i1 N.i2 e) fun b o a1 a2 a3 a4 a5 e => k' b o a1 a2 a3 a4 (kp b o a1 a2 a3 a4 a5 e)
  | cons p ps =>
    obtain ⟨x, hx, hy, hkey⟩ := hps 0 p rfl
    refine wpAny_bind (wpAny_pyNext_zip_item D zo hTI hTO t1 t2 L1 L2 hx hy fun h' z1 pO t1' t2' pr zs k' => ?_)
    have dd' : h'.DictOf (mixKind prog w) d [] := dd.at fun o e => k' d o N.z N.TO N.i1 N.i2 e
    refine wpAny_bind (upd_item (s := { s with heap := h' }) (k := p.1) pr hkey dd' (by simp) (Nat.zero_le _) fun h'' tk dd'' sb => ?_)
    have zlt : z < s.heap.objs.size := Heap.lt_size zo
    have dlt : d < s.heap.objs.size := by obtain ⟨q, _, _, hq, _⟩ := dd; exact Heap.lt_size hq
    refine wpAny_pure ⟨plainId_quiet plain_upd _, ?_⟩
    exact upd_loop (xs := xs) (ys := ys) (g := g) hh D N (p :: ps) nd hz hsz hps hl1 hl2 _ 1 _ rfl (by simp) ⟨s.heap.objs.size, false, _, sb.extBut _ _ N.z.symm z1, sb.extBut _ _ (Nat.ne_of_gt dlt) pr, Nat.ne_of_gt zlt⟩ (sb.extBut _ _ N.TI.symm (k' _ _ D.TIz D.TITO D.TIi1 D.TIi2 hTI)) (t1'.extBut sb.extBut N.i1.symm) (t2'.extBut sb.extBut N.i2.symm) dd'' (fun b o a1 a2 a3 a4 a5 e => sb.extBut b o a5 (k' b o a1 a2 a3 a4 (kp b o a1 a2 a3 a4 a5 e))) hR
/-- dict(zip(xs, ys)), from the zip on -/
theorem call_dict_zip {E : Value → Shared → Prop} {Q : Value → Shared → Prop} {s : Shared} (hh : A.handled = none) (ps : List (Key × Value)) (nd : (ps.map (·.1)).Nodup) (hz : ps.length ≤ sizeLine) (hsz : xs.size = ps.length)
    (hps : ∀ (i : Nat) p, ps[i]? = some p → ∃ x, xs[i]? = some x ∧ ys[i]? = some p.2 ∧ (mixKind prog w).is p.1 x = true) (hl1 : s.heap.IsList l1 xs) (hl2 : s.heap.IsList l2 ys)
    (q : ∀ h' tk, h'.DictOf (mixKind prog w) (s.heap.objs.size + 5) ps → (∀ b o, s.heap.get? b = some o → h'.get? b = some o) → Q (.ref (s.heap.objs.size + 5)) { s with heap := h', toks := tk }) :
    wpAny (model prog w) A (call (.type "zip") [.ref l1, .ref l2]) (fun v s1 => wpAny (model prog w) A (call (.type "dict") [v]) Q E s1) E s := by
  have lt1 : (l1 : Nat) < s.heap.objs.size := by obtain ⟨o, e, _⟩ := id hl1; exact Heap.lt_size e
  have lt2 : (l2 : Nat) < s.heap.objs.size := by obtain ⟨o, e, _⟩ := id hl2; exact Heap.lt_size e
  refine call_zip_2 hl1 hl2 fun h1 z1 pI pO t1 t2 zs k1 => ?_
  have D := zipApart_new lt1 lt2
  have N : DApart (s.heap.objs.size + 5) (s.heap.objs.size + 4) (s.heap.objs.size + 2) (s.heap.objs.size + 3) s.heap.objs.size (s.heap.objs.size + 1) l1 l2 := ⟨nn (by omega), nn (by omega), nn (by omega), nn (by omega), nn (by omega), nn (.inr (Nat.lt_add_right 5 lt1)), nn (.inr (Nat.lt_add_right 5 lt2))⟩
  refine callType_codes (Q₁ := fun obj s₁ => obj = .ref h1.objs.size ∧ s₁ = { s with heap := h1.push { cls := .type "dict", data := .dict #[] } }) F.kt_called_dict (F.kt_typeCall_dict_1 _) F.entry_dict_init (kt_code_dict_new _ ⟨rfl, rfl⟩) ?_
  rintro obj s₁ ⟨rfl, rfl⟩
  have dn : (h1.push { cls := .type "dict", data := .dict #[] }).DictOf (mixKind prog w) h1.objs.size [] := Heap.DictOf.new h1
  have k2 : ∀ b o, h1.get? b = some o → (h1.push { cls := .type "dict", data := .dict #[] }).get? b = some o := fun b o e => Heap.get?_push_of_some _ e
  rw [zs] at dn ⊢
  generalize h1.push { cls := .type "dict", data := .dict #[] } = h2 at dn k2 ⊢
  refine ⟨dn.typeIs, F.args_dict_init_2 _ _, ?_⟩
  unfold Builtin.«dict.__init__»
  refine wpAny_bind ?_
  unfold Builtin.Dict.selfAndRest
  refine wpAny_bind (wpAny_notOrdered_dict dn.typeIs ?_)
  refine (wpAny_pure ?_ : wpAny _ _ (pure (s.heap.objs.size + 5, [Value.ref (s.heap.objs.size + 4)])) _ _ _)
  show wpAny _ _ (Builtin.Dict.updateFrom "dict.__init__" (s.heap.objs.size + 5) (.ref (s.heap.objs.size + 4)) [] .none) _ _ _
  unfold Builtin.Dict.updateFrom
  have z2 := k2 _ _ z1
  refine wpAny_bind (wpAny_typeOf (T := "zip") ⟨_, z2, rfl⟩ ?_)
  rw [if_pos (by decide)]
  refine wpAny_bind (zip_keys z2 hh fun h3 tk3 k3 => ?_)
  rw [if_pos (by decide)]
  refine wpAny_bind (wpAny_rule (wpAny_bind (wpAny_pyIter_zip (k3 _ _ z2) ?_)))
  refine wpAny_pure ⟨plainId_quiet plain_upd _, ?_⟩
  have up : ∀ b o, h1.get? b = some o → h3.get? b = some o := fun b o e => k3 b o (k2 b o e)
  refine upd_first (A := A.in1) (xs := xs) (ys := ys) (g := s.heap) hh D N ps nd hz hsz hps hl1 hl2 (up _ _ z1) (up _ _ pI) (up _ _ pO) (t1.at fun o e => up _ o e) (t2.at fun o e => up _ o e) (dn.at fun o e => k3 _ o e) (fun b o _ _ _ _ _ e => up b o (k1 b o e)) fun h' tk dd kp => ?_
  refine ⟨rfl, q h' tk dd fun b o e => ?_⟩
  have blt : (b : Nat) < s.heap.objs.size := Heap.lt_size e
  exact kp b o (nn (.inl (Nat.lt_add_right 4 blt))) (nn (.inl (Nat.lt_add_right 3 blt))) (nn (.inl blt)) (nn (.inl (Nat.lt_add_right 1 blt))) (nn (.inl (Nat.lt_add_right 5 blt))) e
end
end HT
namespace HT
open PySem PyProof.Rows
section
open PySem.SeqAt
open PySem.AutoSeq1 (wpAny_loadPart')
open PySem.MeetsSeq PySem.MeetsSeq2 PySem.MeetsSeq3
theorem plain_rem : plainId "list.remove.loop" = true := by decide +kernel
theorem entry_rem : entryFor table "list.remove.loop" = some Builtin.«list.remove.loop» := entryFor_of_fast (by kernel_rfl)
theorem rem_walk (l : Addr) (vs : Array Value) (n : Nat) (x : Value) (e : Value → Bool) (j : Nat) (hj : j < vs.size) (hz : vs.size ≤ sizeLine) (hit : e vs[j] = true) (k : Nat) :
    ∀ i : Nat, j - i = k → i ≤ j → (∀ m (hm : m < vs.size), i ≤ m → m < j → e vs[m] = false) → Meets (Builtin.«list.remove.loop» ⟨[.ref l, x, rawInt i], []⟩)
      (fun A R s => s.heap.get? l = some { cls := .type "list", dict := none, data := .seq vs n, slots := #[] } ∧ (∀ y, y ∈ vs → EqAt A.in1 s y x (e y)) ∧ R (.ok (.ret .none)) { s with heap := s.heap.update l (Obj.mapSeq (·.eraseIdxIfInBounds j)) }) := by
  induction k with
  | zero =>
    intro i hk hij hno prog w A R s h
    obtain ⟨hp, g, d, tk, os⟩ := s; obtain ⟨hl, he, h⟩ := h
    obtain rfl : i = j := by omega
    wp_walk using wpAny_loadPart' hl
    have hi : vs[((i : Nat) : Int).toNat]? = some vs[i] := by simp [hj]
    rw [hi]
    refine wpAny_bind (he _ (Array.getElem_mem hj) prog w _ _ ?_)
    rw [hit]
    rw [if_pos rfl]
    refine wpAny_bind (m := Builtin.List.listUpdate (.ref l) fun x => x.eraseIdxIfInBounds ((i : Int)).toNat) (?_ : wpAny _ _ (updateSeq l fun x => x.eraseIdxIfInBounds ((i : Int)).toNat) _ _ _)
    have sz : (vs.eraseIdxIfInBounds ((i : Int)).toNat).size ≤ sizeLine + 1 := by
      simp only [Array.eraseIdxIfInBounds]; split <;> (first | (rw [Array.size_eraseIdx]; omega) | omega)
    exact wpAny_updateSeq (hz := hz) (_hz' := sz) hl rfl (wpAny_pure h)
  | succ k ih =>
    intro i hk hij hno prog w A R s h
    obtain ⟨hp, g, d, tk, os⟩ := s; obtain ⟨hl, he, h⟩ := h
    have hlt : i < vs.size := by omega
    wp_walk using wpAny_loadPart' hl
    have hi : vs[((i : Nat) : Int).toNat]? = some vs[i] := by simp [hlt]
    rw [hi]
    refine wpAny_bind (he _ (Array.getElem_mem hlt) prog w _ _ ?_)
    rw [hno i hlt (Nat.le_refl _) (by omega)]
    wp_walk
    rw [show ((i : Int) + 1) = ((i + 1 : Nat) : Int) from rfl]
    exact ⟨plainId_quiet plain_rem _, codeAny_builtin entry_rem (by rw [Around.under_plainId plain_rem _]; exact ih (i + 1) (by omega) (by omega) (fun m hm h1 h2 => hno m hm (by omega) h2) prog w A R _ ⟨hl, he, h⟩)⟩
theorem list_rem (l : Addr) (vs : Array Value) (n : Nat) (x : Value) (e : Value → Bool) (j : Nat) (hj : j < vs.size) (hz : vs.size ≤ sizeLine) (hit : e vs[j] = true) (hno : ∀ m (hm : m < vs.size), m < j → e vs[m] = false) :
    Meets (Builtin.«list.remove» ⟨[.ref l, x], []⟩)
      (fun A R s => s.heap.get? l = some { cls := .type "list", dict := none, data := .seq vs n, slots := #[] } ∧ (∀ y, y ∈ vs → EqAt A.in1 s y x (e y)) ∧ R (.ok (.ret .none)) { s with heap := s.heap.update l (Obj.mapSeq (·.eraseIdxIfInBounds j)) }) := by
  intro prog w A R s h
  obtain ⟨hp, g, d, tk, os⟩ := s; obtain ⟨hl, he, h⟩ := h
  wp_walk using wpAny_loadPart' hl
  exact ⟨plainId_quiet plain_rem _, codeAny_builtin entry_rem (by rw [Around.under_plainId plain_rem _]; exact rem_walk l vs n x e j hj hz hit _ 0 rfl (Nat.zero_le _) (fun m hm _ h2 => hno m hm h2) prog w A R _ ⟨hl, he, h⟩)⟩
end
end HT
namespace L2
open PySem PySem.Spec PyProof.Rows PySem.W HT
section
variable {X : Cx}
/-- xs.remove(x), a list of texts -/
def rRemL : V → List V → Hp → VK → Prop := fun x vs H Q => ∃ (l : Addr) (ys : List Str) (y : Str) (j : Nat), x = .ref l ∧ vs = [.str y] ∧ H l = some (.lst (ys.map V.str)) ∧ ys[j]? = some y ∧ (∀ m, m < j → ys[m]? ≠ some y) ∧ Q .non (upd H l (.lst ((ys.map V.str).eraseIdx j)))
theorem mt_remove : MtM X "list.remove" rRemL := by
  intro pins s σ H x vs v us Q I rx rv h
  obtain ⟨l, ys, y, j, rfl, rfl, hH, hj, hno, q⟩ := h
  cases rx
  obtain ⟨u, rfl, t, rfl⟩ := rv.one
  obtain ⟨z, its, n, r, hl, e⟩ := I.lstM hH
  have hjl : j < its.length := by
    have := (List.getElem?_eq_some_iff.mp hj).1
    rw [← hl, List.length_map]; exact this
  have at_ : ∀ m (hm : m < its.length), ∃ (w : Str) (t' : Tok), ys[m]? = some w ∧ its[m] = .str w t' := fun m hm => by
    have hm' : m < ys.length := by rw [← hl, List.length_map] at hm; exact hm
    obtain ⟨u, hu, t', ht⟩ := r.get (i := m) (x := .str ys[m]) (by rw [List.getElem?_map, List.getElem?_eq_getElem hm']; rfl)
    rw [List.getElem?_eq_getElem hm] at hu
    exact ⟨ys[m], t', List.getElem?_eq_getElem hm', by rw [Option.some.inj hu]; exact ht⟩
  refine call_meets F.slot_list_remove ⟨_, e, rfl⟩ F.entry_list_remove (F.args_list_remove_2 _ _) (list_rem l its.toArray n (.str y t) (eqU (.str y)) j (by simpa using hjl) (by rw [List.size_toArray]; omega) ?_ ?_) ⟨e, ?_, ?_⟩
  · obtain ⟨w, t', hw, ew⟩ := at_ j hjl
    rw [hj] at hw; cases hw
    rw [List.getElem_toArray, ew, eqU_of (y := .str y) ⟨t', rfl⟩ rfl]
    exact decide_eq_true rfl
  · intro m hm hmj
    obtain ⟨w, t', hw, ew⟩ := at_ m (by simpa using hm)
    rw [List.getElem_toArray, ew, eqU_of (y := .str w) ⟨t', rfl⟩ rfl]
    have ne := hno m hmj
    rw [hw] at ne
    exact decide_eq_false fun z => ne (by rw [z])
  · intro u hu
    exact mem_eqAt (x := .str y) ⟨t, rfl⟩ rfl r (flat_strs ys) u (by simpa using hu)
  · refine ⟨.non, _, I.lset (its' := its.eraseIdx j) hH e ?_ (r.eraseIdx j) ?_, rfl, q⟩
    · rw [List.eraseIdxIfInBounds_toArray]
    · rw [List.length_eraseIdx]; split <;> omega
/-- repr of data, of None -/
def rRepr : List V → Hp → VK → Prop := fun xs H Q => ∃ x, xs = [x] ∧ ((x = .non ∧ Q (.str "None") H) ∨ ∃ a d, x = .ref a ∧ Rep H x d ∧ d.showable = true ∧ d.hasDict = false ∧ d.depth ≤ 50 ∧ d.shown.length ≤ 100000 ∧ Q (.str d.shown) H)
theorem call_reprD (hu : X.A.units + 64 < cLine) (hg : X.A.guards = some []) : CallR X (.builtin "repr") rRepr := by
  intro pins s σ H xs us Q I r h
  obtain ⟨x, rfl, h⟩ := h
  obtain ⟨u, rfl, rx⟩ := vals1 r
  rcases h with ⟨rfl, q⟩ | ⟨a, d, rfl, rd, hs, hd, hp, hl, q⟩
  · cases rx
    exact P.repr_of_none ⟨.str "None", H, I.tok _, ⟨_, rfl⟩, q⟩
  · obtain ⟨as, r2⟩ := rd.reads I rx
    cases rx
    exact repr_of_reads' r2 hs (fun z => by rw [hd] at z; cases z) hg (by omega) (fun _ _ z => z) (fun h' u tk k => ⟨.str d.shown, H, I.kept k, ⟨_, rfl⟩, q⟩) (by rw [sizeLine_eq]; omega)
/-- dict(zip(xs, ys)): the keys unlike texts -/
def zipKV (ks : List Str) (ws : List V) : List (Key × V) := (ks.zip ws).map fun p => (Sum.inr p.1, p.2)
theorem zip_kv : ∀ (ks : List Str) (ws : List V) (us : List Value), Vals ws us → KV (zipKV ks ws) ((ks.map (Sum.inr (α := Int))).zip us)
  | [], _, _, _ => .nil
  | _ :: _, _, _, .nil => .nil
  | k :: ks, _, _, .cons h t => .cons ⟨rfl, h⟩ (zip_kv ks _ _ t)
def tDictZip (t : TA) : TE := fun σ H Q => t σ H fun vs H1 => ∃ l1 l2 ks ws, vs = [.ref l1, .ref l2] ∧ H1 l1 = some (.lst (ks.map V.str)) ∧ H1 l2 = some (.lst ws) ∧ ks.Nodup ∧ ks.length = ws.length ∧ ∀ d, H1 d = none → Q (.ref d) (upd H1 d (.dK (zipKV ks ws)))
theorem pe_dictzip {a b : Expr} {t : TA} {p p2 pos pos2 : Pos} (hc : X.calm = true) (hgd : Gl X "dict") (hgz : Gl X "zip") (hmd : X.mg "dict" = none) (hmz : X.mg "zip" = none) (ha : PA X [a, b] t)
    (h1 : starEach [.Call (.Name "zip" p2) [a, b] [] pos2] X.env = [(false, eval (.Call (.Name "zip" p2) [a, b] [] pos2) X.env)] := by rfl) (he : starEach [a, b] X.env = (false, eval a X.env) :: starEach [b] X.env := by rfl) (hpl : (backTo pos2 (starEach [b] X.env)).any (·.1) = false := by rfl) :
    PE X (.Call (.Name "dict" p) [.Call (.Name "zip" p2) [a, b] [] pos2] [] pos) (tDictZip t) := by
  intro pins s σ H Q I h
  refine wpAny_Call_Name_kw (ld_blt I hgd hmd (show bootBuiltins "dict" = some (.type "dict") by decide +kernel) ?_)
  refine PyProof.Rows.callWith_type1 ?_ h1 rfl
  rw [h1]
  refine Calls.spliced_cons (?_ : wpAny _ _ (eval (.Call (.Name "zip" p2) [a, b] [] pos2) X.env) _ _ _)
  refine wpAny_Call_Name_kw (ld_blt I hgz hmz (show bootBuiltins "zip" = some (.type "zip") by decide +kernel) ?_)
  refine PyProof.Rows.callWith_type1 (thn (ha pos2 pins s σ H _ I h) fun us s1 ⟨vs, H1, I1, r1, l1, l2, ks, ws, ev, hl1, hl2, nd, hlen, q⟩ => ?_) he hpl
  subst ev
  obtain ⟨u1, u2, rfl, ru1, ru2⟩ := r1.two
  cases ru1
  cases ru2
  obtain ⟨it1, rv1, pl1, hz1⟩ := I1.list (SqL.of hl1)
  obtain ⟨it2, rv2, pl2, hz2⟩ := I1.list (SqL.of hl2)
  have e1 := rv1.length
  have e2 := rv2.length
  rw [List.length_map] at e1 hz1
  have lps : ((ks.map (Sum.inr (α := Int))).zip it2).length = ks.length := by rw [List.length_zip, List.length_map]; omega
  have kps : ((ks.map (Sum.inr (α := Int))).zip it2).map (·.1) = ks.map Sum.inr := by
    rw [List.map_fst_zip]; rw [List.length_map]; omega
  have inj : (ks.map (Sum.inr (α := Int))).Nodup := by
    rw [List.nodup_iff_pairwise_ne, List.pairwise_map]
    exact (List.nodup_iff_pairwise_ne.mp nd).imp fun h z => h (Sum.inr.inj z)
  refine thn (call_dict_zip (A := X.A) (I1.ok.hd hc) ((ks.map (Sum.inr (α := Int))).zip it2) (by rw [kps]; exact inj) (by rw [lps]; exact hz1) (by rw [List.size_toArray, lps]; omega) (fun i p hp => ?_) pl1.isList pl2.isList fun h' tk dd kp => ?_) fun v s2 z => Calls.spliced_nil z
  · obtain ⟨h1, h2⟩ := List.getElem?_zip_eq_some.mp hp
    rw [List.getElem?_map] at h1
    obtain ⟨k, hk, ek⟩ := Option.map_eq_some_iff.mp h1
    obtain ⟨x, hx, rx⟩ := rv1.get (i := i) (x := .str k) (by rw [List.getElem?_map, hk]; rfl)
    refine ⟨x, by simpa using hx, by simpa using h2, ?_⟩
    rw [← ek]
    exact kV_is (k := Sum.inr k) rx
  · have big := I1.big
    refine ⟨.ref (s1.heap.objs.size + 5), _, I1.laid (a := s1.heap.objs.size + 5) (o := .dK (zipKV ks ws)) (t' := tk) kp (Nat.le_add_right _ _) (dk_new ?_ (beq_eq_false_iff_ne.mpr (Ne.symm (Nat.ne_of_lt (Nat.lt_add_right 5 big)))) ?_ dd), rfl, q _ (I1.hok.fresh (Nat.le_add_right _ _))⟩
    · unfold zipKV; rw [List.length_map, List.length_zip]; omega
    · exact zip_kv ks ws it2 rv2
end
end L2
namespace L2
open PySem
/-! ### rows of names: the pure side -/
/-- the first wish, from the k-th row on, that another name stand ahead of n -/
def wishFrom (k : Nat) : List (List Str) → Str → Option (Nat × Str)
  | [], _ => none
  | [] :: rest, n => wishFrom (k + 1) rest n
  | (x :: r) :: rest, n => if n ∈ x :: r ∧ x ≠ n then some (k, x) else wishFrom (k + 1) rest n
theorem wishFrom_miss {k : Nat} {r : List Str} {rest : List (List Str)} {n : Str} (h : ¬ (n ∈ r ∧ r.head? ≠ some n)) : wishFrom k (r :: rest) n = wishFrom (k + 1) rest n := by
  cases r with
  | nil => rfl
  | cons x r => exact if_neg fun z => h ⟨z.1, by simpa using z.2⟩
theorem wishFrom_hit {k : Nat} {x : Str} {r : List Str} {rest : List (List Str)} {n : Str} (h : n ∈ x :: r ∧ x ≠ n) : wishFrom k ((x :: r) :: rest) n = some (k, x) := by
  exact if_pos h
/-- the earliest free head -/
def freeFrom (all : List (List Str)) : List (List Str) → Option Str
  | [] => none
  | [] :: rest => freeFrom all rest
  | (x :: _) :: rest => if (wishFrom 0 all x).isNone then some x else freeFrom all rest
def leastFree (rest : List (List Str)) : Option Str := freeFrom rest rest
def without (n : Str) (rest : List (List Str)) : List (List Str) := rest.map fun r => r.filter fun y => !decide (y = n)
def total (rest : List (List Str)) : Nat := (rest.map List.length).sum
def mergeG : Nat → List (List Str) → Option (List Str)
  | 0, _ => some []
  | k + 1, rest => if (rest.any fun r => !r.isEmpty) = true then (match leastFree rest with | none => none | some n => (mergeG k (without n rest)).map (n :: ·)) else some []
theorem freeFrom_head {all : List (List Str)} {n : Str} : ∀ {rest : List (List Str)}, freeFrom all rest = some n → ∃ r ∈ rest, r.head? = some n
  | [], h => by cases h
  | [] :: rest, h => let ⟨r, hr, e⟩ := freeFrom_head (rest := rest) h; ⟨r, List.mem_cons_of_mem _ hr, e⟩
  | (x :: t) :: rest, h => by
    have h : (if (wishFrom 0 all x).isNone then some x else freeFrom all rest) = some n := h
    split at h
    · cases h; exact ⟨n :: t, List.mem_cons_self, rfl⟩
    · obtain ⟨r, hr, e⟩ := freeFrom_head (rest := rest) h
      exact ⟨r, List.mem_cons_of_mem _ hr, e⟩
theorem total_without_le (n : Str) : ∀ rest : List (List Str), total (without n rest) ≤ total rest
  | [] => Nat.le_refl _
  | r :: rest => by
    have h1 := total_without_le n rest
    have h2 := List.length_filter_le (fun y => !decide (y = n)) r
    simp only [total, without, List.map_cons, List.sum_cons] at *
    omega
theorem total_without_lt {n : Str} : ∀ {rest : List (List Str)}, (∃ r ∈ rest, n ∈ r) → total (without n rest) < total rest
  | [], ⟨_, h, _⟩ => by simp at h
  | r :: rest, ⟨q, hq, hn⟩ => by
    have h1 := total_without_le n rest
    have h2 := List.length_filter_le (fun y => !decide (y = n)) r
    rcases List.mem_cons.mp hq with rfl | hq
    · have h3 : (q.filter fun y => !decide (y = n)).length < q.length := by
        exact List.length_filter_lt_length_iff_exists.mpr ⟨n, hn, by simp⟩
      simp only [total, without, List.map_cons, List.sum_cons] at *
      omega
    · have h3 := total_without_lt ⟨q, hq, hn⟩
      simp only [total, without, List.map_cons, List.sum_cons] at *
      omega
theorem le_total {r : List Str} : ∀ {rest : List (List Str)}, r ∈ rest → r.length ≤ total rest
  | [], h => by simp at h
  | q :: rest, h => by
    have e : total (q :: rest) = q.length + total rest := by simp [total]
    rcases List.mem_cons.mp h with rfl | h
    · omega
    · have := le_total h
      omega
theorem total_pos {rest : List (List Str)} (h : (rest.any fun r => !r.isEmpty) = true) : 0 < total rest := by
  obtain ⟨r, hr, e⟩ := List.any_eq_true.mp h
  have h1 : 0 < r.length := by cases r with
    | nil => simp at e
    | cons _ _ => simp
  have h2 : r.length ≤ total rest := le_total hr
  omega

/-! ### rows on the heap -/
def RowsV (H : Hp) (vs : List V) (rows : List (List Str)) : Prop := Paired (fun y r => ∃ a, y = V.ref a ∧ H a = some (.tup (r.map V.str))) vs rows
theorem RowsV.same {H H' : Hp} {vs : List V} {rows : List (List Str)} (h : RowsV H vs rows) (s : Same H H') : RowsV H' vs rows := Paired.imp' (fun _ _ ⟨a, e, q⟩ => ⟨a, e, s _ _ q⟩) h
theorem RowsV.length {H : Hp} {vs : List V} {rows : List (List Str)} (h : RowsV H vs rows) : vs.length = rows.length := Paired.length h
theorem RowsV.get {H : Hp} : ∀ {vs : List V} {rows : List (List Str)} {i : Nat} {v : V}, RowsV H vs rows → vs[i]? = some v → ∃ a r, v = V.ref a ∧ rows[i]? = some r ∧ H a = some (.tup (r.map V.str))
  | _, _, i, v, .nil, e => by simp at e
  | _, _, 0, v, .cons p _, e => by
    obtain ⟨a, rfl, q⟩ := p
    simp at e; subst e
    exact ⟨a, _, rfl, rfl, q⟩
  | _, _, i + 1, v, .cons _ t, e => by
    obtain ⟨a, r, e1, e2, q⟩ := RowsV.get (i := i) t (by simpa using e)
    exact ⟨a, r, e1, by simpa using e2, q⟩
theorem RowsV.append {H : Hp} {vs : List V} {rows : List (List Str)} {a : Addr} {r : List Str} : RowsV H vs rows → H a = some (.tup (r.map V.str)) → RowsV H (vs ++ [.ref a]) (rows ++ [r])
  | .nil, q => .cons ⟨a, rfl, q⟩ .nil
  | .cons p t, q => .cons p (RowsV.append t q)
end L2
namespace K13
open PySem L2 PySem.W
def top (i : Nat) : Stmt := PySem.Challenge.pw_parentlines_k13_whole_told_row_says_noth.main.body.getD i (.Pass ⟨0, 0, 0, 0⟩)
abbrev sRing : Stmt := inClass (top 2) 0
abbrev sMerged : Stmt := top 4
abbrev sLeast : Stmt := top 5
abbrev sWish : Stmt := top 6
abbrev sRingW : Stmt := top 7
abbrev sPot : Stmt := top 9
abbrev sDigit : Stmt := top 10
abbrev sNames : Stmt := top 11
abbrev sShuf : Stmt := top 12
abbrev sRows : Stmt := top 13
abbrev sTold : Stmt := top 14
abbrev sBehind : Stmt := top 15
abbrev sFirst : Stmt := top 16
abbrev sDue : Stmt := top 17
abbrev sRenamed : Stmt := top 18
abbrev sOther : Stmt := top 19
abbrev sLaw : Stmt := top 20
structure Blt (mg : Str → Option Value) : Prop where
  len : mg "len" = none
  max : mg "max" = none
  min : mg "min" = none
  abs : mg "abs" = none
  range : mg "range" = none
  any : mg "any" = none
  all : mg "all" = none
  list : mg "list" = none
  tuple : mg "tuple" = none
  enu : mg "enumerate" = none
theorem at0 {y : Str} {r : List Str} : atI ((y :: r).map V.str) 0 = some (V.str y) := (show atI ((y :: r).map V.str) ((0 : Nat) : Int) = some (V.str y) from atI_nat rfl)
theorem same_new {H : Hp} {q : Addr} {o : HO} (hq : H q = none) : Same H (upd H q o) := fun b u e => by rw [upd_ne (ne_of_none e hq)]; exact e
theorem for_enum {K : Frag} {a : Addr} {xs : List V} {g : TG} {tb : TS} {D : Ends} {σ : St} {H : Hp} (Pv : Nat → St → Hp → Prop) (h0 : Pv 0 σ H) (hl : ∀ i σ H, i ≤ xs.length → Pv i σ H → SqL K H a xs)
    (hs : ∀ i x σ H t, xs[i]? = some x → Pv i σ H → H t = none → g (.ref t) σ (upd H t (.tup [.int i, x])) fun σ2 H2 => tb { D with nx := Pv (i + 1), ct := Pv (i + 1), bk := D.nx } σ2 H2) (hd : ∀ σ H, Pv xs.length σ H → D.nx σ H) :
    ∃ W : Nat → Nat → St → Hp → Prop, (∃ m, W 0 m σ H) ∧ ∀ i m σ H, W i m σ H →
      ((Ite K a).stop i H ∧ D.nx σ H) ∨ ((Ite K a).go i H ∧ ∃ N : St → Hp → Prop, (∀ σ' H', N σ' H' → ∃ m', m' < m ∧ W (i + 1) m' σ' H') ∧ ∀ x H', (Ite K a).yld i H x H' → g x σ H' fun σ2 H2 => tb { D with nx := N, ct := N, bk := D.nx } σ2 H2) := by
  refine ⟨fun i m σ H => m = xs.length - i ∧ i ≤ xs.length ∧ Pv i σ H, ⟨xs.length, by simp, Nat.zero_le _, h0⟩, ?_⟩
  rintro i m σ H ⟨rfl, hi, p⟩
  have q := hl i σ H hi p
  by_cases hlt : i < xs.length
  · refine .inr ⟨⟨xs, xs[i], q, by simp [hlt]⟩, Pv (i + 1), fun σ' H' p' => ⟨xs.length - (i + 1), by omega, rfl, hlt, p'⟩, fun x H' y => ?_⟩
    obtain ⟨t, v, ht, rfl, hv, rfl⟩ := y
    exact hs i v σ _ t (hv xs q) p ht
  · have e : i = xs.length := by omega
    subst e
    exact .inl ⟨⟨xs, q, Nat.le_refl _⟩, hd σ H p⟩
section
variable {P : Program} {w : World} {K : Frag} {mg : Str → Option Value} {base : Heap} {f : Addr} {fd : FuncData}
@[irreducible] def spWish : Sp := fun vs H Q _ => ∃ (l : Addr) (ws : List V) (rows : List (List Str)) (n : Str), vs = [.ref l, .str n] ∧ H l = some (.lst ws) ∧ RowsV H ws rows ∧
  (wishFrom 0 rows n = none → ∀ H', Same H H' → Q .non H') ∧ (∀ i x, wishFrom 0 rows n = some (i, x) → ∀ p H', H p = none → Same H H' → H' p = some (.tup [.int i, .str x, .str n]) → Q (.ref p) H')
theorem scWish : FnScope ["rest", "name", "at", "row"] ["rest", "name"] (defScope sWish) := ⟨rfl, rfl, rfl, by decide +kernel, rfl, by decide +kernel, by decide +kernel⟩
theorem ok_wish (F : Fun K "wish_against" "wish_against" sWish f fd) (B : Blt mg) : FnOk P w K mg base CX0 1 f fd ["rest", "name"] spWish := by
  refine F.ok scWish (fun vs H Q E h => ?_) (fun cdv A outer s H vs Q E hr h => ?_)
  · unfold spWish at h; obtain ⟨l, ws, rows, n, rfl, _⟩ := h; rfl
  · unfold spWish at h
    obtain ⟨l, ws, rows, n, rfl, hl, hR, qn, qs⟩ := h
    refine ⟨_, pss_cons (ps_for PassesOwn.never rfl (pi_enum rfl B.enu (pa_cons (pv 0) pa_nil)) (pg_tup rfl (pgs_cons (pg_name (i := 2) scWish.nd rfl (Or.inl rfl)) (pgs_cons (pg_name (i := 3) scWish.nd rfl (Or.inl rfl)) pgs_nil)))
        (pss_one (ps_if (PW.pt (pw_and (pt_cmpR op_in_seq (pv 1) (pv 3) rfl) (pw_and1 (pt_cmpR op_ne (pe_ix ix_tup (pv 3) pe_int (fun _ _ => rfl)) (pv 1) (nomark _)))))
          (pss_one (ps_ret (pe_tup (pa_cons (pv 2) (pa_cons (pe_ix ix_tup (pv 3) pe_int (fun _ _ => rfl)) (pa_cons (pv 1) pa_nil)))))) pss_nil)))
      (pss_one (ps_ret pe_non)), ?_⟩
    refine ⟨_, rfl, l, rfl, ⟨_, SqL.of hl⟩, for_enum (xs := ws) (fun i σ H1 => ∃ v2 v3 : Option V, σ = [some (.ref l), some (.str n), v2, v3] ∧ Same H H1 ∧ wishFrom i (rows.drop i) n = wishFrom 0 rows n) ⟨none, none, rfl, Same.refl _, by simp⟩ (fun i σ H1 _ ⟨_, _, _, z, _⟩ => SqL.of (z _ _ hl)) ?_ ?_⟩
    · rintro i x σ H1 t hx ⟨v2, v3, rfl, S1, hw⟩ ht
      obtain ⟨a, r, rfl, hri, har⟩ := hR.get hx
      have S2 : Same H (upd H1 t (.tup [.int i, .ref a])) := S1.trans (same_new ht)
      have ha2 := S2 _ _ har
      have hdr : rows.drop i = r :: rows.drop (i + 1) := by
        have hi := (List.getElem?_eq_some_iff.mp hri)
        obtain ⟨hi1, rfl⟩ := hi
        exact List.drop_eq_getElem_cons hi1
      rw [hdr] at hw
      refine ⟨t, _, rfl, SqT.of upd_same, rfl, _, _, rfl, _, _, rfl, rfl, ?_⟩
      refine ⟨_, rfl, _, rfl, a, _, rfl, .inr (SqT.of ha2), rfl, flat_strs _, _, rfl, ?_⟩
      rw [if_neg Bool.false_ne_true, inV_strs]
      refine ite2 (fun hin => ?_) (fun hin => ?_)
      · have hin' : n ∈ r := by simpa using hin
        cases r with
        | nil => simp at hin'
        | cons y r =>
          refine ⟨_, rfl, a, _, 0, .str y, rfl, rfl, SqT.of ha2, at0, _, rfl, rfl, _, rfl, ?_⟩
          refine ite2 (fun hne => ?_) (fun hne => ?_)
          · have hne' : y ≠ n := fun z => by subst z; simp at hne
            refine ⟨_, rfl, _, rfl, a, _, 0, .str y, rfl, rfl, SqT.of ha2, at0, _, rfl, by show 3 ≤ sizeLine; rw [sizeLine_eq]; decide, fun p hp => ?_⟩
            rw [wishFrom_hit ⟨hin', hne'⟩] at hw
            exact qs i y hw.symm p _ (S2.free hp) (S2.trans (same_new hp)) upd_same
          · have hy : y = n := by
              by_cases z : y = n
              · exact z
              · exact absurd (by simp [z]) hne
            refine ⟨_, _, rfl, S2, ?_⟩
            rw [← hw, wishFrom_miss fun z => z.2 (by rw [hy]; rfl)]
      · refine ⟨_, _, rfl, S2, ?_⟩
        rw [← hw, wishFrom_miss fun z => hin (by simpa using z.1)]
    · rintro σ H1 ⟨v2, v3, rfl, S1, hw⟩
      rw [hR.length, List.drop_length] at hw
      exact qn hw.symm H1 S1
theorem wish_sp {l : Addr} {ws : List V} {rows : List (List Str)} {n : Str} {H : Hp} {Q : VK} {E : XK} (hl : H l = some (.lst ws)) (hR : RowsV H ws rows) (qn : wishFrom 0 rows n = none → ∀ H', Same H H' → Q .non H')
    (qs : ∀ i x, wishFrom 0 rows n = some (i, x) → ∀ p H', H p = none → Same H H' → H' p = some (.tup [.int i, .str x, .str n]) → Q (.ref p) H') : spWish [.ref l, .str n] H Q E := by
  unfold spWish; exact ⟨l, ws, rows, n, rfl, hl, hR, qn, qs⟩
end
end K13
namespace K13
open PySem L2 PySem.W
section
variable {P : Program} {w : World} {K : Frag} {mg : Str → Option Value} {base : Heap} {f : Addr} {fd : FuncData}
def optV : Option Str → V
  | none => .non
  | some n => .str n
@[irreducible] def spLeast : Sp := fun vs H Q _ => ∃ (l : Addr) (ws : List V) (rows : List (List Str)), vs = [.ref l] ∧ H l = some (.lst ws) ∧ RowsV H ws rows ∧ ∀ H', Same H H' → Q (optV (leastFree rows)) H'
theorem scLeast : FnScope ["rest", "row"] ["rest"] (defScope sLeast) := ⟨rfl, rfl, rfl, by decide +kernel, rfl, by decide +kernel, by decide +kernel⟩
theorem ok_least {fW : Addr} {fdW : FuncData} (F : Fun K "least_free" "least_free" sLeast f fd) (B : Blt mg) (FW : Fun K "wish_against" "wish_against" sWish fW fdW) (bW : Binds K fdW ["rest", "name"] []) (mW : mg "wish_against" = some (.ref fW)) :
    FnOk P w K mg base CX0 2 f fd ["rest"] spLeast := by
  have GW : FnOk P w K mg base CX0 1 fW fdW ["rest", "name"] spWish := ok_wish FW B
  refine F.ok scLeast (fun vs H Q E h => ?_) (fun cdv A outer s H vs Q E hr h => ?_)
  · unfold spLeast at h; obtain ⟨l, ws, rows, rfl, _⟩ := h; rfl
  · unfold spLeast at h
    obtain ⟨l, ws, rows, rfl, hl, hR, q⟩ := h
    have hr1 : Room 1 _ := hr
    refine ⟨_, pss_cons (ps_for PassesOwn.never rfl (pi_list (pv 0)) (pg_name (i := 1) scLeast.nd rfl (Or.inl rfl))
        (pss_one (ps_if (PW.pt (pw_and (pt_truth (pv 1) (fun _ => rfl)) (pw_and1 (pt_cmpR op_isN (pe_call GW hr1 rfl mW FW.kp bW .nil pass0 (pa_cons (pv 0) (pa_cons (pe_ix ix_tup (pv 1) pe_int (fun _ _ => rfl)) pa_nil))) pe_non (nomark _)))))
          (pss_one (ps_ret (pe_ix ix_tup (pv 1) pe_int (fun _ _ => rfl)))) pss_nil)))
      (pss_one (ps_ret pe_non)), ?_⟩
    refine ⟨_, rfl, l, rfl, ⟨_, SqL.of hl⟩, for_list (xs := ws) (fun i σ H1 => ∃ v1 : Option V, σ = [some (.ref l), v1] ∧ Same H H1 ∧ freeFrom rows (rows.drop i) = leastFree rows) ⟨none, rfl, Same.refl _, by simp [leastFree]⟩ (fun i σ H1 _ ⟨_, _, z, _⟩ => SqL.of (z _ _ hl)) ?_ ?_⟩
    · rintro i x σ H1 hx ⟨v1, rfl, S1, hw⟩
      obtain ⟨a, r, rfl, hri, har⟩ := hR.get hx
      have ha1 := S1 _ _ har
      have hdr : rows.drop i = r :: rows.drop (i + 1) := by
        obtain ⟨hi1, rfl⟩ := List.getElem?_eq_some_iff.mp hri
        exact List.drop_eq_getElem_cons hi1
      rw [hdr] at hw
      refine ⟨_, rfl, !(r.map V.str).isEmpty, .inr (.inl ⟨_, SqT.of ha1, rfl⟩), ?_⟩
      cases r with
      | nil => exact ⟨_, rfl, S1, hw⟩
      | cons y r =>
        have hw : (if (wishFrom 0 rows y).isNone then some y else freeFrom rows (rows.drop (i + 1))) = leastFree rows := hw
        refine ⟨_, rfl, _, rfl, a, _, 0, .str y, rfl, rfl, SqT.of ha1, at0, ?_⟩
        refine wish_sp (S1 _ _ hl) (hR.same S1) (fun en H2 S2 => ?_) (fun j z es p H2 hp S2 h2 => ?_)
        · refine ⟨rfl, _, rfl, ?_⟩
          refine ⟨_, rfl, a, _, 0, .str y, rfl, rfl, SqT.of (S2 _ _ ha1), at0, ?_⟩
          rw [en] at hw
          have e : leastFree rows = some y := hw.symm
          have := q H2 (S1.trans S2)
          rw [e] at this
          exact this
        · refine ⟨rfl, _, rfl, ?_⟩
          rw [es] at hw
          exact ⟨_, rfl, S1.trans S2, hw⟩
    · rintro σ H1 ⟨v1, rfl, S1, hw⟩
      rw [hR.length, List.drop_length] at hw
      have e : leastFree rows = none := hw.symm
      have := q H1 S1
      rw [e] at this
      exact this
theorem least_sp {l : Addr} {ws : List V} {rows : List (List Str)} {H : Hp} {Q : VK} {E : XK} (hl : H l = some (.lst ws)) (hR : RowsV H ws rows) (q : ∀ H', Same H H' → Q (optV (leastFree rows)) H') : spLeast [.ref l] H Q E := by
  unfold spLeast; exact ⟨l, ws, rows, rfl, hl, hR, q⟩
end
end K13
namespace K13
open PySem L2 PySem.W
theorem nm_leaves {x : Str} (h : Nm x) : (x.cps.toList.all fun c => decide (c < 16 ^ 8)) = true := by
  rw [List.all_eq_true]; intro c hc; have := (h.az c hc).2; exact decide_eq_true (by omega)
/-- a wish on the heap -/
def WishV (H : Hp) (v : V) : Prop := ∃ (a : Addr) (i : Nat) (x n : Str), v = .ref a ∧ H a = some (.tup [.int i, .str x, .str n]) ∧ i < 10 ∧ Nm x ∧ Nm n
theorem WishV.same {H H' : Hp} {v : V} (h : WishV H v) (s : Same H H') : WishV H' v := let ⟨a, i, x, n, e, q, r⟩ := h; ⟨a, i, x, n, e, s _ _ q, r⟩
theorem small_int : ∀ i : Nat, i < 10 → PyData.leavesShort 13 (.int i) = true ∧ PyData.showable (.int i) = true := by decide +kernel
theorem wishes_data {H : Hp} : ∀ {vs : List V}, (∀ v ∈ vs, WishV H v) → ∃ ds, RepAll H vs ds ∧ PyData.showableAll ds = true ∧ PyData.hasDictAll ds = false ∧ PyData.depthAll ds ≤ 1 ∧ PyData.leavesShortAll 13 ds = true ∧ PyData.bulkAll ds ≤ 25 * vs.length
  | [], _ => ⟨[], .nil, rfl, rfl, Nat.zero_le _, rfl, Nat.zero_le _⟩
  | v :: vs, h => by
    obtain ⟨ds, h1, h2, h3, h4, h5, h6⟩ := wishes_data (vs := vs) fun u hu => h u (List.mem_cons_of_mem _ hu)
    obtain ⟨a, i, x, n, rfl, ha, hi, hx, hn⟩ := h v List.mem_cons_self
    obtain ⟨s1, s2⟩ := small_int i hi
    have s1' : PyData.leavesShort 13 (.int (i : Int)) = true := s1
    have s2' : PyData.showable (.int (i : Int)) = true := s2
    have z1 : x.cps.size ≤ 8 := hx.hi
    have z2 : n.cps.size ≤ 8 := hn.hi
    refine ⟨.tuple [.int i, .str x, .str n] :: ds, .cons (.tup ha (.cons (.int _) (.cons (.str _) (.cons (.str _) .nil)))) h1, ?_, ?_, ?_, ?_, ?_⟩
    · simp only [PyData.showableAll, PyData.showable, h2, Bool.and_true]
      simpa [PyData.showable] using s2'
    · simp only [PyData.hasDictAll, PyData.hasDict, h3, Bool.or_false]
    · simp only [PyData.depthAll, PyData.depth]; omega
    · simp only [PyData.leavesShortAll, PyData.leavesShort, h5, nm_leaves hx, nm_leaves hn, Bool.and_true]
      simpa [PyData.leavesShort] using s1'
    · simp only [PyData.bulkAll, PyData.bulk, List.length_cons]; omega
theorem wishes_fmt {H : Hp} {p : Addr} {vs : List V} (hp : H p = some (.tup vs)) (h : ∀ v ∈ vs, WishV H v) (few : vs.length ≤ 100) : FmtOk H (.ref p) := by
  obtain ⟨ds, h1, h2, h3, h4, h5, h6⟩ := wishes_data h
  refine .inr (.inr ⟨p, .tuple ds, rfl, .tup hp h1, h2, h3, ?_, ?_⟩)
  · simp only [PyData.depth]; omega
  · have := PyData.shown_le_bulk 13 (by decide) (.tuple ds) h5
    simp only [PyData.bulk] at this
    omega
/-- the names that head a row -/
def heads (rows : List (List Str)) : List Str := rows.filterMap List.head?
theorem heads_len (rows : List (List Str)) : (heads rows).length ≤ rows.length := List.length_filterMap_le _ _
theorem mem_heads {rows : List (List Str)} {n : Str} : n ∈ heads rows ↔ ∃ r ∈ rows, r.head? = some n := by
  unfold heads; rw [List.mem_filterMap]
/-- a wish's first name heads a row; the row is one of them -/
theorem wishFrom_at : ∀ {rows : List (List Str)} {k : Nat} {n : Str} {i : Nat} {x : Str}, wishFrom k rows n = some (i, x) → k ≤ i ∧ i < k + rows.length ∧ x ∈ heads rows
  | [], k, n, i, x, h => by cases h
  | [] :: rest, k, n, i, x, h => by
    obtain ⟨h1, h2, h3⟩ := wishFrom_at (rows := rest) (k := k + 1) (n := n) h
    refine ⟨by omega, by simp only [List.length_cons]; omega, ?_⟩
    obtain ⟨r, hr, e⟩ := mem_heads.mp h3
    exact mem_heads.mpr ⟨r, List.mem_cons_of_mem _ hr, e⟩
  | (y :: r) :: rest, k, n, i, x, h => by
    have h : (if n ∈ y :: r ∧ y ≠ n then some (k, y) else wishFrom (k + 1) rest n) = some (i, x) := h
    split at h
    · cases h
      exact ⟨Nat.le_refl _, by simp only [List.length_cons]; omega, mem_heads.mpr ⟨_ :: r, List.mem_cons_self, rfl⟩⟩
    · obtain ⟨h1, h2, h3⟩ := wishFrom_at (rows := rest) (k := k + 1) (n := n) h
      refine ⟨by omega, by simp only [List.length_cons]; omega, ?_⟩
      obtain ⟨r', hr, e⟩ := mem_heads.mp h3
      exact mem_heads.mpr ⟨r', List.mem_cons_of_mem _ hr, e⟩
theorem freeFrom_none {all : List (List Str)} : ∀ {rest : List (List Str)}, freeFrom all rest = none → ∀ n ∈ heads rest, wishFrom 0 all n ≠ none
  | [], _, n, hn => by simp [heads] at hn
  | [] :: rest, h, n, hn => freeFrom_none (rest := rest) h n hn
  | (y :: r) :: rest, h, n, hn => by
    have h : (if (wishFrom 0 all y).isNone then some y else freeFrom all rest) = none := h
    split at h
    · cases h
    next hy =>
      have hn : n ∈ y :: heads rest := hn
      rcases List.mem_cons.mp hn with rfl | hn
      · intro z; rw [z] at hy; exact hy rfl
      · exact freeFrom_none h n hn
end K13
namespace K13
open PySem L2 PySem.W
theorem pt_truth_K {X : Cx} {a : Expr} {ta : TE} (K : Frag) (h : X.K = K) (ha : PE X a ta) (he : ∀ whole, isTrue a X.env whole = (do let v ← whole; standAt a.pos; holding [v] (truthy v))) :
    PT X a (fun σ H Q => ta σ H fun x H' => ∃ k, TruV K x H' k ∧ Q k H') := by subst h; exact pt_truth ha he
def forBody (s : Stmt) : List Stmt := match s with | .For _ _ b _ _ => b | _ => []
def whileBody (s : Stmt) : List Stmt := match s with | .While _ b _ _ => b | _ => []
def bodyAt (l : List Stmt) (i : Nat) : Stmt := l.getD i (.Pass ⟨0, 0, 0, 0⟩)
def asgV (s : Stmt) : Expr := match s with | .Assign _ v _ => v | _ => .Constant .none 0 ⟨0, 0, 0, 0⟩
def retV (s : Stmt) : Expr := match s with | .Return (some v) _ => v | _ => .Constant .none 0 ⟨0, 0, 0, 0⟩
def arg0 (e : Expr) : Expr := match e with | .Call _ (a :: _) _ _ => a | _ => .Constant .none 0 ⟨0, 0, 0, 0⟩
def subV (e : Expr) : Expr := match e with | .Subscript a _ _ => a | _ => .Constant .none 0 ⟨0, 0, 0, 0⟩
def eltOf (e : Expr) : Expr := match e with | .ListComp x _ _ _ => x | _ => .Constant .none 0 ⟨0, 0, 0, 0⟩
def compSc (e : Expr) : Scope := match e with | .ListComp _ _ sc _ => sc | _ => { kind := .function, names := [], isGenerator := false, isCoroutine := false }
theorem boot_tuple : bootBuiltins "tuple" = some (.type "tuple") := by decide +kernel
theorem boot_list : bootBuiltins "list" = some (.type "list") := by decide +kernel
section
variable {P : Program} {w : World} {K : Frag} {mg : Str → Option Value} {base : Heap} {f : Addr} {fd : FuncData}
/-- small rows of names -/
structure Small (rows : List (List Str)) : Prop where
  few : rows.length ≤ 10
  short : ∀ r ∈ rows, r.length ≤ 20
  nm : ∀ r ∈ rows, ∀ n ∈ r, Nm n
theorem Small.head {rows : List (List Str)} (S : Small rows) {n : Str} (h : n ∈ heads rows) : Nm n := by
  obtain ⟨r, hr, e⟩ := mem_heads.mp h
  exact S.nm r hr n (List.mem_of_head? e)
@[irreducible] def spRingW : Sp := fun vs H Q _ => ∃ (l : Addr) (ws : List V) (rows : List (List Str)), vs = [.ref l] ∧ H l = some (.lst ws) ∧ RowsV H ws rows ∧ Small rows ∧ leastFree rows = none ∧ (rows.any fun r => !r.isEmpty) = true ∧
  ∀ p H', Same H H' → FmtOk H' (.ref p) → Q (.ref p) H'
abbrev nRingW : List Str := ["rest", "name", "passed", "wishes", "wish", "around"]
theorem scRingW : FnScope nRingW ["rest"] (defScope sRingW) := ⟨rfl, rfl, rfl, by decide +kernel, rfl, by decide +kernel, by decide +kernel⟩
abbrev scR1 : Scope := compSc (subV (asgV (bodyAt (defBody sRingW) 0)))
theorem csR1 : CompScope nRingW (defScope sRingW) ["row"] [none] scR1 := ⟨rfl, by decide +kernel, by decide +kernel, rfl, fv_of (by decide +kernel), by decide +kernel⟩
theorem heads_cons (rows : List (List Str)) (h : (rows.any fun r => !r.isEmpty) = true) : ∃ x t, heads rows = x :: t := by
  obtain ⟨r, hr, e⟩ := List.any_eq_true.mp h
  cases r with
  | nil => simp at e
  | cons y r =>
    have : y ∈ heads rows := mem_heads.mpr ⟨_, hr, rfl⟩
    cases q : heads rows with
    | nil => rw [q] at this; simp at this
    | cons a t => exact ⟨a, t, rfl⟩
theorem first_at : ∀ {ps : List Str} {n : Str}, n ∈ ps → ∃ j : Nat, ps[j]? = some n ∧ ∀ m : Nat, m < j → ps[m]? ≠ some n
  | [], n, h => by simp at h
  | x :: ps, n, h => by
    by_cases e : x = n
    · exact ⟨0, by rw [e]; rfl, fun m hm => by omega⟩
    · have h' : n ∈ ps := by
        rcases List.mem_cons.mp h with z | z
        · exact absurd z.symm e
        · exact z
      obtain ⟨j, h1, h2⟩ := first_at h'
      refine ⟨j + 1, by simpa using h1, fun m hm => ?_⟩
      cases m with
      | zero => simpa using e
      | succ m => simpa using h2 m (by omega)
/-- the walk's word -/
structure RingInv (H : Hp) (rows : List (List Str)) (l pa wa : Addr) (m : Nat) (σ : St) (H1 : Hp) (nm : Str) (ps : List Str) (wv : List V) : Prop where
  st : ∃ v4 : Option V, σ = [some (.ref l), some (.str nm), some (.ref pa), some (.ref wa), v4, none]
  mm : m = rows.length - ps.length
  hn : nm ∈ heads rows
  hp : ∀ n ∈ ps, n ∈ heads rows
  nd : ps.Nodup
  pa : H1 pa = some (.lst (ps.map V.str))
  wa : H1 wa = some (.lst wv)
  ln : wv.length = ps.length
  wv : ∀ v ∈ wv, WishV H1 v
  sm : Same H H1
theorem few_of {ps hs : List Str} (nd : ps.Nodup) (h : ∀ n ∈ ps, n ∈ hs) : ps.length ≤ hs.length := by
  by_cases z : ps.length ≤ hs.length
  · exact z
  · obtain ⟨y, hy, hn⟩ := pigeon (found := hs) nd (by omega)
    exact absurd (h y hy) hn
theorem ok_ringw {fW : Addr} {fdW : FuncData} (F : Fun K "ring_within" "ring_within" sRingW f fd) (B : Blt mg) (FW : Fun K "wish_against" "wish_against" sWish fW fdW) (bW : Binds K fdW ["rest", "name"] []) (mW : mg "wish_against" = some (.ref fW)) :
    FnOk P w K mg base CX0 2 f fd ["rest"] spRingW := by
  have GW : FnOk P w K mg base CX0 1 fW fdW ["rest", "name"] spWish := ok_wish FW B
  refine F.ok scRingW (fun vs H Q E h => ?_) (fun cdv A outer s H vs Q E hr h => ?_)
  · unfold spRingW at h; obtain ⟨l, ws, rows, rfl, _⟩ := h; rfl
  · unfold spRingW at h
    obtain ⟨l, ws, rows, rfl, hl, hR, hS, hF, hA, q⟩ := h
    have hr1 : Room 1 _ := hr
    refine ⟨_, pss_cons (ps_set (i := 1) scRingW.nd rfl (Or.inl rfl) (pe_ix ix_list (pe_comp rfl csR1 (pi_list (pv 0)) (fun s H fp => ⟨pg_name (i := 0) csR1.nd rfl (Or.inl rfl), pifs_one (pt_truth_K K rfl (pv 0) (fun _ => rfl)), pe_ix (ix_tup_K K rfl) (pv 0) pe_int (fun _ _ => rfl)⟩)) pe_int (fun _ _ => rfl)))
      (pss_cons (ps_set (i := 2) scRingW.nd rfl (Or.inl rfl) (pe_lst pa_nil))
      (pss_cons (ps_set (i := 3) scRingW.nd rfl (Or.inl rfl) (pe_lst pa_nil))
      (pss_cons (ps_while PassesOwn.never (pt_cmpR op_notIn_seq (pv 1) (pv 2) rfl)
        (pss_cons (ps_expr (pe_bm PySem.F.plainAttrs_list PySem.F.slot_list_append PySem.F.type_list_append mt_append (pv 2) (pa_cons (pv 1) pa_nil)))
        (pss_cons (ps_set (i := 4) scRingW.nd rfl (Or.inl rfl) (pe_call GW hr1 rfl mW FW.kp bW .nil pass0 (pa_cons (pv 0) (pa_cons (pv 1) pa_nil))))
        (pss_cons (ps_expr (pe_bm PySem.F.plainAttrs_list PySem.F.slot_list_append PySem.F.type_list_append mt_append (pv 3) (pa_cons (pv 4) pa_nil)))
        (pss_one (ps_set (i := 1) scRingW.nd rfl (Or.inl rfl) (pe_ix ix_tup (pv 4) pe_int (fun _ _ => rfl))))))))
      (pss_cons (ps_set (i := 5) scRingW.nd rfl (Or.inl rfl) (pe_slice sl_list (pv 3) (po_some (pe_bm PySem.F.plainAttrs_list PySem.F.slot_list_index PySem.F.type_list_index mt_index (pv 2) (pa_cons (pv 1) pa_nil))) po_none))
      (pss_one (ps_ret (pe_callTy call_tuple_of rfl B.tuple boot_tuple (pa_cons (pe_rev (pv 5)) pa_nil)))))))), ?_⟩
    refine ⟨_, rfl, l, rfl, ⟨_, SqL.of hl⟩, fun a1 ha1 => ?_⟩
    refine comp_list (xs := ws) (fun i zs τ H1 => ∃ t0 : Option V, zs = (heads (rows.take i)).map V.str ∧ τ = [t0] ∧ H1 = upd H a1 (.lst zs)) ⟨none, rfl, rfl, rfl⟩ (fun i zs τ H1 ⟨_, _, _, z⟩ => by rw [z]; exact ⟨upd_same, SqL.of (by rw [upd_ne (ne_of_none hl ha1)]; exact hl)⟩) ?_ ?_
    · rintro i x zs τ H1 hx ⟨t0, rfl, rfl, rfl⟩
      obtain ⟨a, r, rfl, hri, har⟩ := hR.get hx
      have hlt : i < ws.length := (List.getElem?_eq_some_iff.mp hx).1
      have ha2 : (upd H a1 (.lst ((heads (rows.take i)).map V.str))) a = some (.tup (r.map V.str)) := by rw [upd_ne (ne_of_none har ha1)]; exact har
      have tk : rows.take (i + 1) = rows.take i ++ [r] := by rw [List.take_succ, hri]; rfl
      refine ⟨_, rfl, !(r.map V.str).isEmpty, .inr (.inl ⟨_, SqT.of ha2, rfl⟩), ?_⟩
      cases r with
      | nil => exact cw_next hlt ⟨_, by rw [tk]; simp [heads], rfl, rfl⟩
      | cons y r =>
        refine ⟨_, rfl, a, _, 0, .str y, rfl, rfl, SqT.of ha2, at0, upd_same, ?_, cw_next hlt ⟨_, ?_, rfl, by rw [upd_upd]⟩⟩
        · have h1 := heads_len (rows.take i)
          have h2 : (rows.take i).length ≤ rows.length := by rw [List.length_take]; omega
          have h3 := hS.few
          rw [List.length_map, sizeLine_eq]; omega
        · rw [tk]; simp [heads]
    · rintro zs τ H1 ⟨t0, rfl, rfl, rfl⟩
      rw [hR.length, List.take_length]
      obtain ⟨x0, ht, hx0⟩ := heads_cons rows hA
      rw [hx0]
      refine ⟨a1, _, 0, .str x0, rfl, rfl, SqL.of upd_same, at0, ?_⟩
      have S0 := same_new (o := .lst ((x0 :: ht).map V.str)) ha1
      refine ⟨Nat.zero_le _, fun pa hpa => ⟨Nat.zero_le _, fun wa hwa => ?_⟩⟩
      have S1 := S0.trans (same_new (o := .lst []) hpa)
      have S2 := S1.trans (same_new (o := .lst []) hwa)
      have hpaH : H pa = none := S0.free hpa
      have hwaH : H wa = none := S1.free hwa
      have npw : pa ≠ wa := ne_of_none upd_same hwa
      refine ⟨fun m σ H1 => ∃ nm ps wv, RingInv H rows l pa wa m σ H1 nm ps wv, ⟨_, x0, [], [], ⟨none, rfl⟩, rfl, by rw [hx0]; exact List.mem_cons_self, (fun n hn => by simp at hn), List.nodup_nil, by rw [upd_ne npw]; exact upd_same, upd_same, rfl, (fun v hv => by simp at hv), S2⟩, ?_⟩
      rintro m σ H1 ⟨nm, ps, wv, R⟩
      obtain ⟨v4, rfl⟩ := R.st
      have len1 : ps.length ≤ 10 := by
        have h1 := few_of R.nd R.hp
        have h2 := heads_len rows
        have h3 := hS.few
        omega
      refine ⟨_, rfl, _, rfl, pa, _, rfl, .inl (SqL.of R.pa), rfl, flat_strs _, _, rfl, ?_⟩
      rw [if_pos rfl, inV_strs]
      refine ite2 (fun hn => ?_) (fun hn => ?_)
      · have hn' : nm ∉ ps := by simpa using hn
        have nd1 : (nm :: ps).Nodup := List.nodup_cons.mpr ⟨hn', R.nd⟩
        have lenR : (nm :: ps).length ≤ rows.length := Nat.le_trans (few_of nd1 fun n z => by
          rcases List.mem_cons.mp z with rfl | z
          · exact R.hn
          · exact R.hp n z) (heads_len rows)
        refine ⟨fun σ' H' => ∃ m', m' < m ∧ ∃ nm ps wv, RingInv H rows l pa wa m' σ' H' nm ps wv, fun _ _ z => z, ?_⟩
        refine ⟨_, rfl, .inl ⟨rfl, _, SqL.of R.pa⟩, _, rfl, pa, _, _, rfl, rfl, R.pa, by rw [List.length_map, sizeLine_eq]; omega, ?_⟩
        have S3 : Same H (upd H1 pa (.lst (ps.map V.str ++ [.str nm]))) := fun b o e => by rw [upd_ne (ne_of_none e hpaH)]; exact R.sm b o e
        refine ⟨_, rfl, _, rfl, wish_sp (S3 _ _ hl) (hR.same S3) (fun en => absurd en (freeFrom_none hF nm R.hn)) (fun j x es p H3 hp S4 h3 => ?_)⟩
        obtain ⟨_, hj, hx⟩ := wishFrom_at es
        have hwa3 : H3 wa = some (.lst wv) := S4 _ _ (by rw [upd_ne (Ne.symm npw)]; exact R.wa)
        have hpa3 : H3 pa = some (.lst (ps.map V.str ++ [.str nm])) := S4 _ _ upd_same
        refine ⟨_, rfl, .inl ⟨rfl, _, SqL.of hwa3⟩, _, rfl, wa, _, _, rfl, rfl, hwa3, by rw [R.ln, sizeLine_eq]; omega, ?_⟩
        have S5 : Same H (upd H3 wa (.lst (wv ++ [.ref p]))) := fun b o e => by rw [upd_ne (ne_of_none e hwaH)]; exact S4 _ _ (S3 b o e)
        have npw3 : p ≠ wa := ne_of h3 hwa3 (by intro z; cases z)
        have hp4 : (upd H3 wa (.lst (wv ++ [.ref p]))) p = some (.tup [.int j, .str x, .str nm]) := by rw [upd_ne npw3]; exact h3
        have keepW : ∀ v, WishV H1 v → WishV (upd H3 wa (.lst (wv ++ [.ref p]))) v := fun v ⟨a, i, y, n, e, ha, r⟩ => ⟨a, i, y, n, e, by
          have n1 : a ≠ pa := ne_of ha R.pa (by intro z; cases z)
          have n2 : a ≠ wa := ne_of ha R.wa (by intro z; cases z)
          rw [upd_ne n2]
          exact S4 _ _ (by rw [upd_ne n1]; exact ha), r⟩
        refine ⟨_, rfl, p, _, 1, .str x, rfl, rfl, SqT.of hp4, (show atI [V.int j, .str x, .str nm] ((1 : Nat) : Int) = some (V.str x) from atI_nat rfl), ?_⟩
        have lenR' : ps.length + 1 ≤ rows.length := by simpa using lenR
        have hfew := hS.few
        refine ⟨rows.length - (ps ++ [nm]).length, by rw [R.mm, List.length_append]; simp only [List.length_singleton]; omega, x, ps ++ [nm], wv ++ [.ref p], ⟨_, rfl⟩, rfl, hx, ?_, ?_, ?_, upd_same, ?_, ?_, S5⟩
        · intro n z
          rcases List.mem_append.mp z with z | z
          · exact R.hp n z
          · have : n = nm := by simpa using z
            rw [this]; exact R.hn
        · rw [List.nodup_append]
          exact ⟨R.nd, by simp, fun a ha b hb => by have : b = nm := by simpa using hb
                                                    rw [this]; exact fun h => hn' (h ▸ ha)⟩
        · rw [upd_ne npw, hpa3, List.map_append]; rfl
        · rw [List.length_append, List.length_append, R.ln]; rfl
        · intro v z
          rcases List.mem_append.mp z with z | z
          · exact keepW v (R.wv v z)
          · have : v = .ref p := by simpa using z
            rw [this]
            exact ⟨p, j, x, nm, rfl, hp4, by omega, hS.head hx, hS.head R.hn⟩
      · have hn' : nm ∈ ps := by simpa using hn
        obtain ⟨j, hj, hno⟩ := first_at hn'
        refine ⟨_, rfl, _, rfl, .inl ⟨rfl, _, SqL.of R.pa⟩, _, rfl, pa, ps, nm, j, rfl, rfl, R.pa, hj, hno, _, rfl, wa, wv, rfl, SqL.of R.wa, fun p5 hp5 => ?_⟩
        refine ⟨_, rfl, p5, _, rfl, SqL.of upd_same, fun p6 hp6 => ?_⟩
        refine ⟨p6, _, rfl, .inl ⟨SqL.of upd_same, fun p7 hp7 => ?_⟩⟩
        have T5 := R.sm.trans (same_new (o := .lst (cutV wv (some (j : Int)) none)) hp5)
        have T1 : Same H1 _ := (same_new (o := .lst (cutV wv (some (j : Int)) none)) hp5).trans ((same_new (o := .lst (cutV wv (some (j : Int)) none).reverse) hp6).trans (same_new (o := .tup (cutV wv (some (j : Int)) none).reverse) hp7))
        refine q p7 _ (R.sm.trans T1) (wishes_fmt upd_same (fun v hv => ?_) ?_)
        · have hv1 : v ∈ cutV wv (some (j : Int)) none := List.mem_reverse.mp hv
          exact (R.wv v (List.mem_of_mem_drop (List.mem_of_mem_take hv1))).same T1
        · have h1 := cutV_length wv (some (j : Int)) none
          rw [List.length_reverse]
          have := R.ln
          omega
theorem ringw_sp {l : Addr} {ws : List V} {rows : List (List Str)} {H : Hp} {Q : VK} {E : XK} (hl : H l = some (.lst ws)) (hR : RowsV H ws rows) (hS : Small rows) (hF : leastFree rows = none) (hA : (rows.any fun r => !r.isEmpty) = true)
    (q : ∀ p H', Same H H' → FmtOk H' (.ref p) → Q (.ref p) H') : spRingW [.ref l] H Q E := by
  unfold spRingW; exact ⟨l, ws, rows, rfl, hl, hR, hS, hF, hA, q⟩
end
end K13
namespace K13
open PySem L2 PySem.W
/-! ### pure: fuel -/
theorem total_zero {rest : List (List Str)} (h : total rest = 0) : (rest.any fun r => !r.isEmpty) = false := by
  cases e : rest.any fun r => !r.isEmpty with
  | false => rfl
  | true => have := total_pos e; omega
theorem least_mem {rest : List (List Str)} {n : Str} (h : leastFree rest = some n) : ∃ r ∈ rest, n ∈ r := by
  obtain ⟨r, hr, e⟩ := freeFrom_head h
  exact ⟨r, hr, List.mem_of_head? e⟩
theorem merge_fuel : ∀ (k : Nat) (r : List (List Str)), total r ≤ k → ∀ j, total r ≤ j → mergeG k r = mergeG j r
  | 0, r, h, j, _ => by
    have z := total_zero (show total r = 0 by omega)
    cases j with
    | zero => rfl
    | succ j => unfold mergeG; rw [if_neg (by rw [z]; exact Bool.false_ne_true)]
  | k + 1, r, h, 0, hj => by
    have z := total_zero (show total r = 0 by omega)
    unfold mergeG; rw [if_neg (by rw [z]; exact Bool.false_ne_true)]
  | k + 1, r, h, j + 1, hj => by
    unfold mergeG
    split
    · cases e : leastFree r with
      | none => rfl
      | some n =>
        have := total_without_lt (least_mem e)
        show Option.map _ _ = Option.map _ _
        rw [merge_fuel k (without n r) (by omega) j (by omega)]
    · rfl
theorem merge_stop {r : List (List Str)} (h : (r.any fun r => !r.isEmpty) = false) : mergeG (total r) r = some [] := by
  cases total r with
  | zero => rfl
  | succ k => unfold mergeG; rw [if_neg (by rw [h]; exact Bool.false_ne_true)]
theorem merge_none {r : List (List Str)} (h : (r.any fun r => !r.isEmpty) = true) (e : leastFree r = none) : mergeG (total r) r = none := by
  have := total_pos h
  cases q : total r with
  | zero => omega
  | succ k => unfold mergeG; rw [if_pos h, e]
theorem merge_some {r : List (List Str)} {n : Str} (h : (r.any fun r => !r.isEmpty) = true) (e : leastFree r = some n) : mergeG (total r) r = (mergeG (total (without n r)) (without n r)).map (n :: ·) := by
  have := total_without_lt (least_mem e)
  cases q : total r with
  | zero => omega
  | succ k =>
    show (if (r.any fun r => !r.isEmpty) = true then _ else _) = _
    rw [if_pos h, e]
    show Option.map _ _ = _
    rw [merge_fuel k (without n r) (by omega) _ (Nat.le_refl _)]
/-! ### a block within a block -/
theorem relabel_cell {env : Env} : ∀ {names : List (Str × NameKind)} {x : Str}, names.lookup x = some .cell →
    (names.map fun (n, k) => if (k == NameKind.free && env.scope.kind == .function && env.kindOf n == some .cell) then (n, NameKind.cell) else (n, k)).lookup x = some .cell
  | [], _, h => by simp at h
  | (n, k0) :: r, x, h => by
    have ih := @relabel_cell env r x
    show List.lookup x ((if (k0 == NameKind.free && env.scope.kind == .function && env.kindOf n == some .cell) = true then (n, NameKind.cell) else (n, k0)) :: _) = _
    rw [List.lookup_cons] at h
    cases hx : x == n with
    | true =>
      rw [hx] at h
      cases h
      rw [if_neg (by simp), List.lookup_cons, hx]
    | false =>
      rw [hx] at h
      by_cases hc : (k0 == NameKind.free && env.scope.kind == .function && env.kindOf n == some .cell) = true
      · rw [if_pos hc, List.lookup_cons, hx]; exact ih h
      · rw [if_neg hc, List.lookup_cons, hx]; exact ih h
theorem nest {N N' : List Str} {ixs : List (Option Nat)} {scO sc : Scope} {env : Env} (kind : sc.kind = .function) (keys : (sc.names.map (·.1)).Nodup) (nd : N'.Nodup) (len : ixs.length = N'.length) (fv : fvOk N N' ixs sc = true)
    (free : ∀ p ∈ sc.names, p.2 = .free → scO.names.lookup p.1 = some .cell ∨ scO.names.lookup p.1 = some .free) : CompScope N (relabel scO env) N' ixs sc :=
  ⟨kind, keys, nd, len, fv_of fv, fun p hp e => by
    rcases free p hp e with z | z
    · exact .inl (relabel_cell z)
    · exact lookup_relabel_of z⟩
theorem call_tuple_K {X : Cx} (K : Frag) (h : X.K = K) : CallR X (.type "tuple") (fun xs H Q => ∃ p ys, xs = [.ref p] ∧ ((SqL K H p ys ∧ ∀ l, H l = none → Q (.ref l) (upd H l (.tup ys))) ∨ (SqT K H p ys ∧ Q (.ref p) H))) := by subst h; exact call_tuple_of
theorem boot_any : bootBuiltins "any" = some (.builtin "any") := by decide +kernel
/-! ### Ring -/
def xclsOk (K : Frag) (C : Addr) : Bool :=
  findIn K (.ref C) "__getattribute__" == some (some (.builtin "BaseException.__getattribute__")) && (findIn K (.ref C) "__getattr__" == some none && (findIn K (.ref C) "__setattr__" == some (some (.builtin "object.__setattr__")) && (hasDictIn K C &&
  (((clsIn K C).any fun cd => overE cd.mro) && (mroIn K C (.type "BaseException") == some true && (mroIn K C (.type "ValueError") == some true && (mroIn K C (.type "object") == some true && (findIn K (.ref C) "__class__" == some (some (.builtin "object.__class__")) &&
  (specialIn K (.builtin "object.__class__") "__get__" == some (some (.builtin "getset_descriptor.__get__")) && takesIn K (.builtin "object.__class__") == some true)))))))))
theorem xcls_of {K : Frag} {C : Addr} (h : xclsOk K C = true) : XCls K C := by
  unfold xclsOk at h
  simp only [Bool.and_eq_true, beq_iff_eq] at h
  obtain ⟨a, b, c, d, e, f, g, i, j, k, l⟩ := h
  exact ⟨a, b, c, d, e, f, g, i, j, k, l⟩
def Keep (a : Addr) (H H' : Hp) : Prop := ∀ b o, H b = some o → b ≠ a → H' b = some o
@[irreducible] def spTwo (K : Frag) (f g : Str) : Sp := fun vs H Q _ => ∃ (a C : Addr) (k r : V) (i : Option Value), vs = [.ref a, k, r] ∧ H a = some (ExcO C none a) ∧ XCls K C ∧ excInI K C i = true ∧ FmtOk H k ∧ FmtOk H r ∧ findIn K (.ref C) f = some none ∧ findIn K (.ref C) g = some none ∧
  ∀ d H', H d = none → d ≠ a → H' a = some (ExcO C (some d) a) → H' d = some (ExcD d [(f, k), (g, r)]) → Keep a H H' → Q .non H'
theorem keep_new {a d C : Addr} {fs : List (Str × V)} {H : Hp} (hd : H d = none) : Keep a H (upd (upd H d (ExcD d fs)) a (ExcO C (some d) a)) := fun b o e n => by
  rw [upd_ne n, upd_ne (ne_of_none e hd)]; exact e
section
variable {P : Program} {w : World} {K : Frag} {mg : Str → Option Value} {base : Heap} {B : Addr} {f : Addr} {fd : FuncData}
theorem scRing : FnScope ["self", "kind", "ring"] ["self", "kind", "ring"] (defScope sRing) := ⟨rfl, rfl, rfl, by decide +kernel, rfl, by decide +kernel, by decide +kernel⟩
theorem ok_ring (F : Fun K "__init__" "Ring.__init__" sRing f fd) (b : BaseIn K B) (mB : mg "LineError" = some (.ref B)) : FnOk P w K mg base CX0 1 f fd ["self", "kind", "ring"] (spTwo K "kind" "ring") := by
  refine F.ok scRing (fun vs H Q E h => ?_) (fun cdv A outer s H vs Q E hr h => ?_)
  · unfold spTwo at h; obtain ⟨a, C, k, r, i, rfl, _⟩ := h; rfl
  · unfold spTwo at h
    obtain ⟨a, C, k, r, i, rfl, ha, c, qi, fk, fr, nk, nr, q⟩ := h
    have hu := hr.units
    have hg := hr.gd
    refine ⟨_, pss_cons (ps_expr (pe_baseInit b rfl mB (pa_cons (pv 0) (pa_cons (pe_fstr (pj_cons pe_str (pj_cons (pe_fmt hu hg (pv 1)) (pj_cons pe_str (pj_cons (pe_fmt hu hg (pv 2)) pj_nil))))) pa_nil))))
      (pss_cons (ps_xnew (pv 0) (pv 1)) (pss_one (ps_xmore (pv 0) (pv 2)))), ?_⟩
    refine ⟨_, rfl, ⟨_, rfl, by decide +kernel⟩, _, rfl, fk, fun y1 hy1 => ⟨⟨_, rfl, hy1⟩, ⟨_, rfl, by decide +kernel⟩, _, rfl, fr, fun y2 hy2 => ⟨⟨_, rfl, hy2⟩, fun y hy => ?_⟩⟩⟩
    refine ⟨a, C, none, _, i, rfl, ha, c, qi, ?_⟩
    refine ⟨_, rfl, _, rfl, a, C, rfl, ha, c, nk, fun d hd nda => ?_⟩
    refine ⟨_, rfl, _, rfl, a, C, d, _, rfl, upd_same, (by rw [upd_ne nda]; exact upd_same), c, nr, (by show 1 < 100; decide), ?_⟩
    refine q d _ hd nda ?_ upd_same fun b o e n => ?_
    · rw [upd_ne (Ne.symm nda)]; exact upd_same
    · rw [upd_ne (ne_of_none e hd)]; exact keep_new hd b o e n
end
end K13
namespace K13
open PySem L2 PySem.W
abbrev nMerged : List Str := ["rows", "order", "rest", "name"]
theorem scMerged : FnScope nMerged ["rows"] (defScope sMerged) := ⟨rfl, rfl, rfl, by decide +kernel, rfl, by decide +kernel, by decide +kernel⟩
abbrev eOut : Expr := asgV (bodyAt (whileBody (bodyAt (defBody sMerged) 2)) 3)
abbrev scO : Scope := compSc eOut
abbrev scI : Scope := compSc (arg0 (eltOf eOut))
theorem csO : CompScope nMerged (defScope sMerged) ["row", "name"] [none, some 3] scO := ⟨rfl, by decide +kernel, by decide +kernel, rfl, fv_of (by decide +kernel), by decide +kernel⟩
theorem csI {env : Env} : CompScope ["row", "name"] (relabel scO env) ["other", "name"] [none, some 1] scI := nest rfl (by decide +kernel) (by decide +kernel) rfl (by decide +kernel) (by decide +kernel)
theorem ndI : (["other", "name"] : List Str).Nodup := by decide +kernel
structure RingT (K : Frag) (mg : Str → Option Value) (B C fI : Addr) (fdI : FuncData) : Prop where
  mC : mg "Ring" = some (.ref C)
  q : excInI K C (some (.ref fI)) = true
  fn : isFn K (.ref fI) = true
  kp : keepIn K (.ref C) = true
  F : Fun K "__init__" "Ring.__init__" sRing fI fdI
  b : BaseIn K B
  mB : mg "LineError" = some (.ref B)
  bi : Binds K fdI ["self", "kind", "ring"] []
  x : XCls K C
  nk : findIn K (.ref C) "kind" = some none
  nr : findIn K (.ref C) "ring" = some none
theorem fmt_same {H H' : Hp} {x : V} (h : FmtOk H x) (s : Same H H') : FmtOk H' x := by
  rcases h with h | h | ⟨a, d, e, r, q⟩
  · exact .inl h
  · exact .inr (.inl h)
  · exact .inr (.inr ⟨a, d, e, r.same s, q⟩)
theorem two_sp {K : Frag} {f g : Str} {a C : Addr} {k r : V} {i : Option Value} {H : Hp} {Q : VK} {E : XK} (ha : H a = some (ExcO C none a)) (x : XCls K C) (q : excInI K C i = true) (fk : FmtOk H k) (fr : FmtOk H r) (nk : findIn K (.ref C) f = some none) (nr : findIn K (.ref C) g = some none)
    (h : ∀ d H', H d = none → d ≠ a → H' a = some (ExcO C (some d) a) → H' d = some (ExcD d [(f, k), (g, r)]) → Keep a H H' → Q .non H') : spTwo K f g [.ref a, k, r] H Q E := by
  unfold spTwo; exact ⟨a, C, k, r, i, rfl, ha, x, q, fk, fr, nk, nr, h⟩
theorem rows_keep {H H' : Hp} {vs : List V} {rows : List (List Str)} (h : RowsV H vs rows) (s : ∀ b xs, H b = some (.tup xs) → H' b = some (.tup xs)) : RowsV H' vs rows := Paired.imp' (fun _ _ ⟨a, e, q⟩ => ⟨a, e, s _ _ q⟩) h
theorem without_small {rest : List (List Str)} {n : Str} (S : Small rest) : Small (without n rest) := by
  refine ⟨by unfold L2.without; rw [List.length_map]; exact S.few, fun r hr => ?_, fun r hr y hy => ?_⟩
  · obtain ⟨q, hq, rfl⟩ := List.mem_map.mp hr
    exact Nat.le_trans (List.length_filter_le _ _) (S.short q hq)
  · obtain ⟨q, hq, rfl⟩ := List.mem_map.mp hr
    exact S.nm q hq y (List.mem_filter.mp hy).1
/-- the walk's word -/
structure MInv (H : Hp) (rows : List (List Str)) (t oa : Addr) (m : Nat) (σ : St) (H1 : Hp) (rest : List (List Str)) (ws : List V) (acc : List Str) (rl : Addr) : Prop where
  st : ∃ v3 : Option V, σ = [some (.ref t), some (.ref oa), some (.ref rl), v3]
  mm : m = total rest
  hoa : H1 oa = some (.lst (acc.map V.str))
  hrl : H1 rl = some (.lst ws)
  rr : RowsV H1 ws rest
  sm : Small rest
  ne : rl ≠ oa
  same : Same H H1
  lim : acc.length + total rest ≤ 1000
  eq : mergeG (total rows) rows = (mergeG (total rest) rest).map (acc ++ ·)
theorem small_total : ∀ {rows : List (List Str)}, (∀ r ∈ rows, r.length ≤ 20) → total rows ≤ 20 * rows.length
  | [], _ => Nat.zero_le _
  | r :: rows, h => by
    have h1 := small_total fun q hq => h q (List.mem_cons_of_mem _ hq)
    have h2 := h r List.mem_cons_self
    have e : total (r :: rows) = r.length + total rows := by simp [total]
    rw [e, List.length_cons]; omega
theorem pairs_of {K : Frag} {H : Hp} {ws : List V} {rows : List (List Str)} (h : RowsV H ws rows) : Paired (fun y r => ∃ a, y = V.ref a ∧ SqT K H a r) ws (rows.map fun r => r.map V.str) := by
  induction h with
  | nil => exact .nil
  | cons p _ ih => obtain ⟨a, e, q⟩ := p; exact .cons ⟨a, e, SqT.of q⟩ ih
theorem any_map (rows : List (List Str)) : ((rows.map fun r => r.map V.str).any fun r => !r.isEmpty) = rows.any fun r => !r.isEmpty := by
  rw [List.any_map]; congr 1; funext r; cases r <;> rfl
section
variable {P : Program} {w : World} {K : Frag} {mg : Str → Option Value} {base : Heap} {f : Addr} {fd : FuncData}
@[irreducible] def spMerged (C : Addr) : Sp := fun vs H Q E => ∃ (t : Addr) (ws : List V) (rows : List (List Str)), vs = [.ref t] ∧ H t = some (.tup ws) ∧ RowsV H ws rows ∧ Small rows ∧
  (mergeG (total rows) rows = none → ∀ H', Same H H' → E (.ref C) none H') ∧ (∀ o, mergeG (total rows) rows = some o → ∀ p H', H p = none → Same H H' → H' p = some (.tup (o.map V.str)) → Q (.ref p) H')
theorem ok_merged {B C fI fL fW fR : Addr} {fdI fdL fdW fdR : FuncData} (F : Fun K "merged" "merged" sMerged f fd) (Bl : Blt mg) (T : RingT K mg B C fI fdI)
    (FW : Fun K "wish_against" "wish_against" sWish fW fdW) (bW : Binds K fdW ["rest", "name"] []) (mW : mg "wish_against" = some (.ref fW))
    (FL : Fun K "least_free" "least_free" sLeast fL fdL) (bL : Binds K fdL ["rest"] []) (mL : mg "least_free" = some (.ref fL))
    (FR : Fun K "ring_within" "ring_within" sRingW fR fdR) (bR : Binds K fdR ["rest"] []) (mR : mg "ring_within" = some (.ref fR)) :
    FnOk P w K mg base (CXR P w) 3 f fd ["rows"] (spMerged C) := by
  have GL : FnOk P w K mg base CX0 2 fL fdL ["rest"] spLeast := ok_least FL Bl FW bW mW
  have GR : FnOk P w K mg base CX0 2 fR fdR ["rest"] spRingW := ok_ringw FR Bl FW bW mW
  have GI : FnOk P w K mg base CX0 1 fI fdI ["self", "kind", "ring"] (spTwo K "kind" "ring") := ok_ring T.F T.b T.mB
  refine F.okX scMerged (fun vs H Q E h => ?_) (fun cdv A outer s H vs Q E hr h => ?_)
  · unfold spMerged at h; obtain ⟨t, ws, rows, rfl, _⟩ := h; rfl
  · unfold spMerged at h
    obtain ⟨t, ws, rows, rfl, ht, hR, hS, qn, qs⟩ := h
    have hr2 : Room 2 _ := hr
    refine ⟨_, pss_cons (ps_set (i := 1) scMerged.nd rfl (Or.inl rfl) (pe_lst pa_nil))
      (pss_cons (ps_set (i := 2) scMerged.nd rfl (Or.inl rfl) (pe_callTy call_list_of rfl Bl.list boot_list (pa_cons (pv 0) pa_nil)))
      (pss_cons (ps_while PassesOwn.leaving (pt_truth (pe_callB (call_anyT rfl) rfl Bl.any boot_any (pa_cons (pv 2) pa_nil)) (fun _ => rfl))
        (pss_cons (ps_set (i := 3) scMerged.nd rfl (Or.inr rfl) (pe_call GL hr2 rfl mL FL.kp bL .nil pass0 (pa_cons (pv 2) pa_nil)))
        (pss_cons (ps_if (pt_cmpR op_isN (pv 3) pe_non (nomark _)) (pss_one (ps_raise (pe_excI T.q T.fn T.kp GI hr2 T.bi pass0 rfl T.mC (pa_cons pe_non (pa_cons (pe_call GR hr2 rfl mR FR.kp bR .nil pass0 (pa_cons (pv 2) pa_nil)) pa_nil))))) pss_nil)
        (pss_cons (ps_expr (pe_bm PySem.F.plainAttrs_list PySem.F.slot_list_append PySem.F.type_list_append mt_append (pv 1) (pa_cons (pv 3) pa_nil)))
        (pss_one (ps_setComp (i := 2) rfl csO scMerged.nd rfl rfl (pi_list (pv 2)) (fun s H fp => ⟨pg_name (i := 0) csO.nd rfl (Or.inl rfl), pifs_nil,
          pe_callTy (call_tuple_K K rfl) rfl Bl.tuple boot_tuple (pa_cons (pe_comp rfl csI (pi_tup_K K rfl (pv 0)) (fun s H fp => ⟨pg_name (i := 0) ndI rfl (Or.inl rfl), pifs_one (pt_cmpR op_ne (pv 0) (pv 1) rfl), pv 0⟩)) pa_nil)⟩)))))))
      (pss_one (ps_ret (pe_callTy call_tuple_of rfl Bl.tuple boot_tuple (pa_cons (pv 1) pa_nil)))))), ?_⟩
    refine ⟨Nat.zero_le _, fun oa hoa => ⟨_, rfl, t, ws, rfl, .inr (SqT.of (by rw [upd_ne (ne_of_none ht hoa)]; exact ht)), fun rl hrl => ?_⟩⟩
    have hoa1 : (upd (upd H oa (.lst [])) rl (.lst ws)) oa = some (.lst []) := by rw [upd_ne (ne_of_none upd_same hrl)]; exact upd_same
    have S1 : Same H (upd (upd H oa (.lst [])) rl (.lst ws)) := (same_new hoa).trans (same_new hrl)
    refine ⟨fun m σ H1 => ∃ rest ws' acc rl, MInv H rows t oa m σ H1 rest ws' acc rl, ⟨_, rows, ws, [], rl, ⟨none, rfl⟩, rfl, hoa1, upd_same, hR.same S1, hS, Ne.symm (ne_of_none upd_same hrl), S1, by have := small_total hS.short; have := hS.few; simp only [List.length_nil]; omega, by cases mergeG (total rows) rows <;> rfl⟩, ?_⟩
    rintro m σ H1 ⟨rest, ws', acc, rl, R⟩
    obtain ⟨v3, rfl⟩ := R.st
    refine ⟨_, rfl, rl, ws', _, rfl, SqL.of R.hrl, pairs_of R.rr, _, rfl, ?_⟩
    rw [any_map]
    refine ite2 (fun hA => ?_) (fun hA => ?_)
    · refine ⟨fun σ' H' => ∃ m', m' < m ∧ ∃ rest ws' acc rl, MInv H rows t oa m' σ' H' rest ws' acc rl, fun _ _ z => z, ?_⟩
      refine ⟨_, rfl, least_sp R.hrl R.rr fun H2 S2 => ?_⟩
      have hpos := total_pos hA
      cases e : leastFree rest with
      | none =>
        refine ⟨_, rfl, rfl, _, rfl, ?_⟩
        refine ⟨_, rfl, ringw_sp (S2 _ _ R.hrl) (R.rr.same S2) R.sm e hA fun p H3 S3 hf => ?_⟩
        have S4 : Same H H3 := R.same.trans (S2.trans S3)
        refine ⟨by show 2 ≤ 100; decide, fun a ha => ?_⟩
        have haH : H a = none := S4.free ha
        refine two_sp upd_same T.x T.q (.inr (.inl rfl)) (fmt_same hf (same_new ha)) T.nk T.nr fun d H4 hd nda h1 h2 kp => ⟨rfl, a, C, some d, _, rfl, h1, fun d' ed => by cases ed; exact ⟨_, h2⟩, T.x, T.q, haH, ?_⟩
        refine qn (by rw [R.eq, merge_none hA e]; rfl) _ fun b o hb => ?_
        have nb : b ≠ a := ne_of_none hb haH
        rw [dropA_ne nb]
        exact kp b o (by rw [upd_ne nb]; exact S4 b o hb) nb
      | some n =>
        refine ⟨_, rfl, rfl, _, rfl, ?_⟩
        have hoa2 : H2 oa = some (.lst (acc.map V.str)) := S2 _ _ R.hoa
        refine ⟨_, rfl, .inl ⟨rfl, _, SqL.of hoa2⟩, _, rfl, oa, _, _, rfl, rfl, hoa2, by have := R.lim; rw [List.length_map, sizeLine_eq]; omega, ?_⟩
        generalize hH3 : upd H2 oa (.lst (acc.map V.str ++ [optV (some n)])) = H3
        have S3 : Same H H3 := fun b o eb => by rw [← hH3, upd_ne (ne_of_none eb hoa)]; exact S2 _ _ (R.same b o eb)
        have nro : rl ≠ oa := R.ne
        have hrl3 : H3 rl = some (.lst ws') := by rw [← hH3, upd_ne nro]; exact S2 _ _ R.hrl
        have hR3 : RowsV H3 ws' rest := rows_keep R.rr fun b xs hb => by rw [← hH3, upd_ne (ne_of (S2 _ _ hb) hoa2 (by intro z; cases z))]; exact S2 _ _ hb
        have hoa3 : H3 oa = some (.lst ((acc ++ [n]).map V.str)) := by rw [← hH3, upd_same, List.map_append]; rfl
        refine ⟨_, rfl, rl, rfl, ⟨_, SqL.of hrl3⟩, fun a1 ha1 => ?_⟩
        have n1o : a1 ≠ oa := fun z => by rw [z, hoa3] at ha1; cases ha1
        refine comp_list (xs := ws') (fun i ys τ H4 => ∃ t0 : Option V, τ = [t0, some (.str n)] ∧ H4 a1 = some (.lst ys) ∧ Same H3 H4 ∧ RowsV H4 ys (L2.without n (rest.take i))) ⟨none, rfl, upd_same, same_new ha1, .nil⟩ (fun i ys τ H4 ⟨_, _, h1, h2, _⟩ => ⟨h1, SqL.of (h2 _ _ hrl3)⟩) ?_ ?_
        · rintro i x ys τ H4 hx ⟨t0, rfl, h41, S4, hR4⟩
          obtain ⟨a, r, rfl, hri, har⟩ := hR3.get hx
          have hlt : i < ws'.length := (List.getElem?_eq_some_iff.mp hx).1
          have tk : rest.take (i + 1) = rest.take i ++ [r] := by rw [List.take_succ, hri]; rfl
          refine ⟨_, rfl, a, rfl, ⟨_, SqT.of (S4 _ _ har)⟩, fun b1 hb1 => ?_⟩
          have hab : (upd H4 b1 (.lst [])) a = some (.tup (r.map V.str)) := by rw [upd_ne (ne_of_none (S4 _ _ har) hb1)]; exact S4 _ _ har
          have nab : a ≠ b1 := ne_of_none (S4 _ _ har) hb1
          refine comp_tup (xs := r.map V.str) (fun j zs τ' H5 => ∃ t1 : Option V, τ' = [t1, some (.str n)] ∧ zs = ((r.take j).filter fun y => !decide (y = n)).map V.str ∧ H5 = upd H4 b1 (.lst zs)) ⟨none, rfl, rfl, rfl⟩ (fun j zs τ' H5 ⟨_, _, _, z⟩ => by rw [z]; exact ⟨upd_same, SqT.of (by rw [upd_ne nab]; exact S4 _ _ har)⟩) ?_ ?_
          · rintro j x zs τ' H5 hx' ⟨t1, rfl, rfl, rfl⟩
            have hjl : j < (r.map V.str).length := (List.getElem?_eq_some_iff.mp hx').1
            have hjr : j < r.length := by simpa using hjl
            obtain rfl : V.str r[j] = x := by simpa [hjr] using hx'
            have tkj : r.take (j + 1) = r.take j ++ [r[j]] := by rw [List.take_succ, List.getElem?_eq_getElem hjr]; rfl
            refine ⟨_, rfl, _, rfl, rfl, _, rfl, ?_⟩
            refine ite2 (fun hne => ?_) (fun hne => ?_)
            · have hne' : r[j] ≠ n := fun z => by rw [z] at hne; simp at hne
              refine ⟨_, rfl, upd_same, ?_, cw_next hjl ⟨_, rfl, ?_, by rw [upd_upd]⟩⟩
              · have h1 := List.length_filter_le (fun y => !decide (y = n)) (r.take j)
                have h2 : (r.take j).length ≤ r.length := by rw [List.length_take]; omega
                have h3 := R.sm.short r (List.mem_of_getElem? hri)
                rw [List.length_map, sizeLine_eq]; omega
              · rw [tkj, List.filter_append, List.map_append, List.filter_cons_of_pos (by simpa using hne')]; rfl
            · have hy : r[j] = n := by
                by_cases z : r[j] = n
                · exact z
                · exact absurd (by simp [z]) hne
              refine cw_next hjl ⟨_, rfl, ?_, rfl⟩
              rw [tkj]; simp [hy]
          · rintro zs τ' H5 ⟨t1, rfl, rfl, rfl⟩
            rw [List.length_map, List.take_length]
            refine ⟨b1, _, rfl, .inl ⟨SqL.of upd_same, fun l hl => ?_⟩⟩
            have n1b : a1 ≠ b1 := ne_of_none h41 hb1
            have Sb : Same H4 (upd (upd H4 b1 (.lst ((r.filter fun y => !decide (y = n)).map V.str))) l (.tup ((r.filter fun y => !decide (y = n)).map V.str))) := (same_new hb1).trans (same_new hl)
            have n1l : a1 ≠ l := ne_of_none (by rw [upd_ne n1b]; exact h41) hl
            refine ⟨Sb _ _ h41, ?_, cw_next hlt ⟨_, rfl, upd_same, fun b o hb => ?_, ?_⟩⟩
            · have h1 := hR4.length
              have h2 : (L2.without n (rest.take i)).length ≤ rest.length := by unfold L2.without; rw [List.length_map, List.length_take]; omega
              have h3 := R.sm.few
              rw [sizeLine_eq]; omega
            · rw [upd_ne (ne_of_none hb ha1)]; exact Sb _ _ (S4 b o hb)
            · have e1 : L2.without n (rest.take (i + 1)) = L2.without n (rest.take i) ++ [r.filter fun y => !decide (y = n)] := by rw [tk]; unfold L2.without; rw [List.map_append]; rfl
              rw [e1]
              refine RowsV.append (rows_keep hR4 fun b xs hb => ?_) ?_
              · rw [upd_ne (ne_of hb h41 (by intro z; cases z))]; exact Sb _ _ hb
              · rw [upd_ne (Ne.symm n1l)]; exact upd_same
        · rintro ys τ H4 ⟨t0, rfl, h41, S4, hR4⟩
          rw [hR3.length, List.take_length] at hR4
          have lt := total_without_lt (least_mem e)
          refine ⟨_, by rw [R.mm]; exact lt, L2.without n rest, ys, acc ++ [n], a1, ⟨_, rfl⟩, rfl, S4 _ _ hoa3, h41, hR4, without_small R.sm, n1o, S3.trans S4, ?_, ?_⟩
          · have := R.lim; rw [List.length_append, List.length_singleton]; omega
          · rw [R.eq, merge_some hA e, Option.map_map]
            congr 1
            funext z
            simp
    · refine ⟨_, rfl, oa, _, rfl, .inl ⟨SqL.of R.hoa, fun p hp => ?_⟩⟩
      refine qs acc ?_ p _ (R.same.free hp) (R.same.trans (same_new hp)) upd_same
      rw [R.eq, merge_stop (by simpa using hA)]
      show some (acc ++ []) = some acc
      rw [List.append_nil]
end
end K13
namespace K13
open PySem L2 PySem.W
section
variable {P : Program} {w : World} {K : Frag} {mg : Str → Option Value} {base : Heap} {f : Addr} {fd : FuncData}
theorem merged_sp {C t : Addr} {ws : List V} {rows : List (List Str)} {H : Hp} {Q : VK} {E : XK} (ht : H t = some (.tup ws)) (hR : RowsV H ws rows) (hS : Small rows) (qn : mergeG (total rows) rows = none → ∀ H', Same H H' → E (.ref C) none H')
    (qs : ∀ o, mergeG (total rows) rows = some o → ∀ p H', H p = none → Same H H' → H' p = some (.tup (o.map V.str)) → Q (.ref p) H') : spMerged C [.ref t] H Q E := by
  unfold spMerged; exact ⟨t, ws, rows, rfl, ht, hR, hS, qn, qs⟩
@[irreducible] def spTold : Sp := fun vs H Q _ => ∃ (t : Addr) (ws : List V) (rows : List (List Str)), vs = [.ref t] ∧ H t = some (.tup ws) ∧ RowsV H ws rows ∧ Small rows ∧
  (mergeG (total rows) rows = none → ∀ H', Same H H' → Q .non H') ∧ (∀ o, mergeG (total rows) rows = some o → ∀ p H', H p = none → Same H H' → H' p = some (.tup (o.map V.str)) → Q (.ref p) H')
theorem told_sp {t : Addr} {ws : List V} {rows : List (List Str)} {H : Hp} {Q : VK} {E : XK} (ht : H t = some (.tup ws)) (hR : RowsV H ws rows) (hS : Small rows) (qn : mergeG (total rows) rows = none → ∀ H', Same H H' → Q .non H')
    (qs : ∀ o, mergeG (total rows) rows = some o → ∀ p H', H p = none → Same H H' → H' p = some (.tup (o.map V.str)) → Q (.ref p) H') : spTold [.ref t] H Q E := by
  unfold spTold; exact ⟨t, ws, rows, rfl, ht, hR, hS, qn, qs⟩
theorem scTold : FnScope ["_law_rows_here", "_law_told_here"] ["_law_rows_here"] (defScope sTold) := ⟨rfl, rfl, rfl, by decide +kernel, rfl, by decide +kernel, by decide +kernel⟩
theorem ok_told {C fM : Addr} {fdM : FuncData} {ci : Option Value} (F : Fun K "_law_told" "_law_told" sTold f fd) (GM : FnOk P w K mg base (CXR P w) 3 fM fdM ["rows"] (spMerged C)) (kM : keepIn K (.ref fM) = true) (bM : Binds K fdM ["rows"] []) (mM : mg "merged" = some (.ref fM))
    (mC : mg "Ring" = some (.ref C)) (x : XCls K C) (me : mroIn K C (.ref C) = some true) (q : excInI K C ci = true) :
    FnOk P w K mg base CX0 4 f fd ["_law_rows_here"] spTold := by
  refine F.ok scTold (fun vs H Q E h => ?_) (fun cdv A outer s H vs Q E hr h => ?_)
  · unfold spTold at h; obtain ⟨t, ws, rows, rfl, _⟩ := h; rfl
  · unfold spTold at h
    obtain ⟨t, ws, rows, rfl, ht, hR, hS, qn, qs⟩ := h
    have hr3 : Room 3 _ := hr
    refine ⟨_, pss_cons (ps_set (i := 1) scTold.nd rfl (Or.inl rfl) pe_non)
      (pss_cons (ps_tryCall (i := 1) GM hr3 rfl mM kM bM (pa_cons (pv 0) pa_nil) scTold.nd rfl (Or.inl rfl) rfl rfl rfl rfl rfl mC x me q (fun a => pss_one (ps_set (i := 1) scTold.nd rfl (Or.inl rfl) pe_non)))
      (pss_one (ps_ret (pv 1)))), ?_⟩
    refine ⟨_, rfl, merged_sp ht hR hS (fun e H' S => ⟨rfl, ⟨_, rfl, qn e H' S⟩⟩) (fun o e p H' hp S hp' => ⟨_, rfl, qs o e p H' hp S hp'⟩)⟩
end
end K13
namespace K13
open PySem L2
theorem boot_max : bootBuiltins "max" = some (.builtin "max") := by decide +kernel
theorem boot_abs : bootBuiltins "abs" = some (.builtin "abs") := by decide +kernel
section
variable {P : Program} {w : World} {K : PySem.W.Frag} {mg : Str → Option Value} {base : Heap}
@[irreducible] def spPot (K : PySem.W.Frag) : Sp := fun vs H Q _ => ∃ (a : Addr) (ns : List Int) (k : Int), vs = [.ref a, .int k] ∧ SqL K H a (ns.map V.int) ∧ 0 ≤ k ∧ k ≤ 100 ∧ ns.length ≤ 63 ∧
  ∀ (p : Addr) (x y : Int), H p = none → 0 ≤ x → 0 ≤ y → y < 4294967296 → Q (.ref p) (upd H p (.lst [.int x, .int y]))
theorem scPot : FnScope ["_law_script", "_law_k", "_law_cell"] ["_law_script", "_law_k"] (defScope sPot) := ⟨rfl, rfl, rfl, by decide +kernel, rfl, by decide +kernel, by decide +kernel⟩
theorem get_int {ns : List Int} {i : Nat} (h : i < ns.length) : ∃ z, (ns.map V.int)[i]? = some (V.int z) := ⟨ns[i], by rw [List.getElem?_map, List.getElem?_eq_getElem h]; rfl⟩
theorem ok_pot {f : Addr} {fd : FuncData} (F : Fun K "_law_pot" "_law_pot" sPot f fd) (B : Blt mg) : FnOk P w K mg base CX0 1 f fd ["_law_script", "_law_k"] (spPot K) := by
  refine F.ok scPot (fun vs H Q E h => ?_) (fun cdv A outer s H vs Q E hr h => ?_)
  · unfold spPot at h; obtain ⟨a, ns, k, rfl, _⟩ := h; rfl
  · unfold spPot at h
    obtain ⟨a, ns, k, rfl, hS, k0, k1, hl, q⟩ := h
    refine ⟨_, pss_cons (ps_set (i := 2) scPot.nd rfl (Or.inl rfl) pe_int)
      (pss_cons (ps_if (pt_cmpR op_lt (pv 1) (pe_callB call_len_seq (by rfl) B.len boot_len (pa_cons (pv 0) pa_nil)) (nomark _))
          (pss_one (ps_set (i := 2) scPot.nd rfl (Or.inl rfl) (pe_ix ix_list (pv 0) (pv 1) (fun _ _ => rfl)))) pss_nil)
      (pss_one (ps_ret (pe_lst (pa_cons (pe_callB (call_max2 rfl) (by rfl) B.max boot_max (pa_cons pe_int (pa_cons (pe_op op_sub (pe_callB call_abs (by rfl) B.abs boot_abs (pa_cons (pv 2) pa_nil)) (pe_op op_pow pe_int pe_int)) pa_nil)))
        (pa_cons (pe_op op_add (pe_op op_add (pe_op op_mod (pe_callB call_abs (by rfl) B.abs boot_abs (pa_cons (pv 2) pa_nil)) pe_int) (pe_op op_mul pe_int (pv 1))) pe_int) pa_nil)))))), ?_⟩
    -- 0; k < len(script)
    refine ⟨_, rfl, _, rfl, a, _, rfl, .inl hS, _, _, rfl, rfl, _, rfl, ?_⟩
    have abs0 : ∀ c : Int, 0 ≤ (if c < 0 then -c else c) := fun c => by split <;> omega
    have fin : ∀ c : Int, ∀ p, H p = none → Q (.ref p) (upd H p (.lst [.int (if (if c < 0 then -c else c) - 10 ^ (18 : Int).toNat > 0 then (if c < 0 then -c else c) - 10 ^ (18 : Int).toNat else 0), .int ((if c < 0 then -c else c) % 2147483587 + 101 * k + 3)])) := fun c p hp => by
      have h1 := Int.emod_nonneg (if c < 0 then -c else c) (show (2147483587 : Int) ≠ 0 by decide)
      have h2 := Int.emod_lt_of_pos (if c < 0 then -c else c) (show (0 : Int) < 2147483587 by decide)
      refine q p _ _ hp ?_ (by omega) (by omega)
      generalize (if c < 0 then -c else c) - 10 ^ (18 : Int).toNat = d
      split <;> omega
    have tail : ∀ c : Int, ∃ (x : V), ([some (.ref a), some (.int k), some (.int c)] : St)[2]? = some (some x) := fun c => ⟨_, rfl⟩
    refine ite2 (fun hk => ?_) (fun hk => ?_)
    · have hk' : k < ((ns.map V.int).length : Int) := of_decide_eq_true hk
      rw [List.length_map] at hk'
      obtain ⟨z, hz⟩ := get_int (ns := ns) (i := k.toNat) (by omega)
      refine ⟨_, rfl, _, rfl, a, _, _, _, rfl, rfl, hS, (by rw [show k = ((k.toNat : Nat) : Int) by omega]; exact atI_nat hz), ?_⟩
      refine ⟨_, rfl, z, rfl, _, _, rfl, rfl, ⟨by decide, by decide, by decide⟩, _, _, rfl, rfl, _, _, rfl, ?_⟩
      refine ⟨_, rfl, z, rfl, _, _, rfl, rfl, (by show (0 : Int) < 2147483587; decide), _, rfl, _, _, rfl, rfl, .inl ⟨by decide, by decide⟩, _, _, rfl, rfl, _, _, rfl, rfl, (by show 2 ≤ sizeLine; rw [sizeLine_eq]; decide), fun p hp => fin z p hp⟩
    · refine ⟨_, rfl, 0, rfl, _, _, rfl, rfl, ⟨by decide, by decide, by decide⟩, _, _, rfl, rfl, _, _, rfl, ?_⟩
      refine ⟨_, rfl, 0, rfl, _, _, rfl, rfl, (by show (0 : Int) < 2147483587; decide), _, rfl, _, _, rfl, rfl, .inl ⟨by decide, by decide⟩, _, _, rfl, rfl, _, _, rfl, rfl, (by show 2 ≤ sizeLine; rw [sizeLine_eq]; decide), fun p hp => fin 0 p hp⟩
@[irreducible] def spDigit : Sp := fun vs H Q _ => ∃ (p : Addr) (m x y : Int), vs = [.ref p, .int m] ∧ H p = some (.lst [.int x, .int y]) ∧ 0 ≤ x ∧ 0 ≤ y ∧ y < 4294967296 ∧ 0 < m ∧ m ≤ 1000 ∧
  ∀ (d x' y' : Int), 0 ≤ d → d < m → 0 ≤ x' → 0 ≤ y' → y' < 4294967296 → Q (.int d) (upd H p (.lst [.int x', .int y']))
theorem scDigit : FnScope ["_law_pot_here", "_law_many", "_law_digit_here"] ["_law_pot_here", "_law_many"] (defScope sDigit) := ⟨rfl, rfl, rfl, by decide +kernel, rfl, by decide +kernel, by decide +kernel⟩
theorem ok_digit {f : Addr} {fd : FuncData} (F : Fun K "_law_digit" "_law_digit" sDigit f fd) : FnOk P w K mg base CX0 1 f fd ["_law_pot_here", "_law_many"] spDigit := by
  refine F.ok scDigit (fun vs H Q E h => ?_) (fun cdv A outer s H vs Q E hr h => ?_)
  · unfold spDigit at h; obtain ⟨p, m, x, y, rfl, _⟩ := h; rfl
  · unfold spDigit at h
    obtain ⟨p, m, x, y, rfl, hp, x0, y0, y1, m0, m1, q⟩ := h
    refine ⟨_, pss_cons (ps_if (pt_cmpR op_gt (pe_ix ix_list (pv 0) pe_int (fun _ _ => rfl)) pe_int (nomark _))
        (pss_cons (ps_set (i := 2) scDigit.nd rfl (Or.inl rfl) (pe_op op_mod (pe_ix ix_list (pv 0) pe_int (fun _ _ => rfl)) (pv 1)))
        (pss_cons (ps_asg (pe_op op_fdiv (pe_ix ix_list (pv 0) pe_int (fun _ _ => rfl)) (pv 1)) (pg_sub (pv 0) pe_int set_list))
        (pss_one (ps_ret (pv 2))))) pss_nil)
      (pss_cons (ps_asg (pe_op op_mod (pe_op op_add (pe_op op_mul (pe_ix ix_list (pv 0) pe_int (fun _ _ => rfl)) pe_int) pe_int) pe_int) (pg_sub (pv 0) pe_int set_list))
      (pss_one (ps_ret (pe_op op_mod (pe_op op_fdiv (pe_op op_mod (pe_op op_mul (pe_ix ix_list (pv 0) pe_int (fun _ _ => rfl)) (pe_ix ix_list (pv 0) pe_int (fun _ _ => rfl))) pe_int) pe_int) (pv 1))))), ?_⟩
    have hl : SqL K H p [.int x, .int y] := SqL.of hp
    refine ⟨_, rfl, p, _, 0, _, rfl, rfl, hl, rfl, _, _, rfl, rfl, _, rfl, ?_⟩
    refine ite2 (fun hx => ?_) (fun hx => ?_)
    · refine ⟨_, rfl, p, _, 0, _, rfl, rfl, hl, rfl, _, rfl, _, _, rfl, rfl, m0, ?_⟩
      refine ⟨_, rfl, p, _, 0, _, rfl, rfl, hl, rfl, _, rfl, _, _, rfl, rfl, ⟨m0, by omega⟩, _, rfl, p, _, 0, 0, rfl, rfl, hp, rfl, ?_⟩
      refine ⟨_, rfl, ?_⟩
      exact q _ _ _ (Int.emod_nonneg _ (by omega)) (Int.emod_lt_of_pos _ m0) (Int.ediv_nonneg x0 (by omega)) y0 y1
    · refine ⟨_, rfl, p, _, 1, _, rfl, rfl, hl, rfl, _, _, rfl, rfl, .inr ⟨by decide, by decide⟩, _, _, rfl, rfl, _, _, rfl, rfl, (by show (0 : Int) < 2147483647; decide), _, rfl, p, _, 1, 1, rfl, rfl, hp, rfl, ?_⟩
      have h1 := Int.emod_nonneg (y * 39373 + 20011) (show (2147483647 : Int) ≠ 0 by decide)
      have h2 := Int.emod_lt_of_pos (y * 39373 + 20011) (show (0 : Int) < 2147483647 by decide)
      refine ⟨_, rfl, p, _, 1, _, rfl, rfl, SqL.of upd_same, rfl, _, rfl, p, _, 1, _, rfl, rfl, SqL.of upd_same, rfl, _, _, rfl, rfl, .inl ⟨Int.lt_of_lt_of_le (by decide) h1, Int.lt_of_lt_of_le h2 (by decide)⟩, _, _, rfl, rfl, (by show (0 : Int) < 2147483563; decide), _, _, rfl, rfl, ⟨by decide, by decide⟩, _, rfl, _, _, rfl, rfl, m0, ?_⟩
      exact q _ x _ (Int.emod_nonneg _ (by omega)) (Int.emod_lt_of_pos _ m0) x0 h1 (by omega)
end
end K13
namespace K13
open PySem L2
/-- the pot at p is in order -/
def PotOk (p : Addr) (H : Hp) : Prop := ∃ x y : Int, H p = some (.lst [.int x, .int y]) ∧ 0 ≤ x ∧ 0 ≤ y ∧ y < 4294967296
/-- from H to H' nothing else was touched -/
structure PotAt (p : Addr) (H H' : Hp) : Prop where
  ok : PotOk p H'
  kp : ∀ b o, H b = some o → b ≠ p → H' b = some o
section
variable {p q : Addr} {H H1 H2 : Hp} {o : HO}
theorem PotAt.refl (h : PotOk p H) : PotAt p H H := ⟨h, fun _ _ e _ => e⟩
theorem PotAt.trans (a : PotAt p H H1) (b : PotAt p H1 H2) : PotAt p H H2 := ⟨b.ok, fun c o e n => b.kp c o (a.kp c o e n) n⟩
theorem PotOk.ne (h : PotOk p H) (hq : H q = none) : p ≠ q := let ⟨_, _, e, _⟩ := h; ne_of_none e hq
theorem PotAt.new (a : PotAt p H H1) (hq : H1 q = none) : PotAt p H (upd H1 q o) := by
  refine ⟨?_, fun b u e n => ?_⟩
  · obtain ⟨x, y, e, r⟩ := id a.ok
    exact ⟨x, y, by rw [upd_ne (a.ok.ne hq)]; exact e, r⟩
  · rw [upd_ne (ne_of_none (a.kp b u e n) hq)]; exact a.kp b u e n
theorem PotAt.free (a : PotAt p H H1) (hq : H1 q = none) : H q = none := by
  cases e : H q with
  | none => rfl
  | some u =>
    by_cases h : q = p
    · subst h; obtain ⟨_, _, z, _⟩ := a.ok; rw [z] at hq; cases hq
    · rw [a.kp q u e h] at hq; cases hq
/-- an own object that the pot's step keeps is written -/
theorem PotAt.write (a : PotAt p H H1) (hq : H q = none) (hp : p ≠ q) : PotAt p H (upd H1 q o) := by
  refine ⟨?_, fun b u e n => ?_⟩
  · obtain ⟨x, y, e, r⟩ := id a.ok
    exact ⟨x, y, by rw [upd_ne hp]; exact e, r⟩
  · rw [upd_ne (ne_of_none e hq)]; exact a.kp b u e n
theorem digit_sp {m : Int} {Q : VK} {E : XK} (h : PotOk p H) (m0 : 0 < m) (m1 : m ≤ 1000) (k : ∀ d H', 0 ≤ d → d < m → PotAt p H H' → Q (.int d) H') : spDigit [.ref p, .int m] H Q E := by
  obtain ⟨x, y, e, x0, y0, y1⟩ := h
  unfold spDigit
  exact ⟨p, m, x, y, rfl, e, x0, y0, y1, m0, m1, fun d x' y' d0 d1 h1 h2 h3 => k d _ d0 d1 ⟨⟨x', y', upd_same, h1, h2, h3⟩, fun b o z n => by rw [upd_ne n]; exact z⟩⟩
end
theorem sum_signs : ∀ cs : List Nat, ((cs.map sign).map (·.length)).sum = cs.length
  | [] => rfl
  | c :: cs => by
    have e : (sign c).length = 1 := rfl
    simp only [List.map_cons, List.sum_cons, sum_signs cs, List.length_cons, e]; omega
abbrev letters : Str := "abcdefghijklmnopqrstuvwxyz"
theorem letter_at {d : Int} (h0 : 0 ≤ d) (h1 : d < 26) : ∃ c : Nat, atI letters.cps.toList d = some c ∧ 97 ≤ c ∧ c ≤ 122 ∧ c = 97 + d.toNat := by
  have all : ∀ i : Nat, i < 26 → letters.cps.toList[i]? = some (97 + i) := by decide +kernel
  refine ⟨97 + d.toNat, ?_, by omega, by omega, rfl⟩
  rw [show d = ((d.toNat : Nat) : Int) by omega]
  exact atI_nat (all d.toNat (by omega))
section
variable {P : Program} {w : World} {K : PySem.W.Frag} {mg : Str → Option Value} {base : Heap}
@[irreducible] def spNames : Sp := fun vs H Q _ => ∃ (p : Addr) (m : Nat), vs = [.ref p, .int m] ∧ PotOk p H ∧ m ≤ 20 ∧
  ∀ (l : Addr) (ys : List Str) (H' : Hp), H l = none → ys.length = m → (∀ y ∈ ys, Nm y) → ys.Nodup → PotAt p H H' → H' l = some (.lst (ys.map V.str)) → Q (.ref l) H'
abbrev nNames : List Str := ["_law_pot_here", "_law_many", "_law_letters", "_law_found", "_law_k", "_law_size", "_law_name", "_law_some"]
theorem scNames : FnScope nNames ["_law_pot_here", "_law_many"] (defScope sNames) := ⟨rfl, rfl, rfl, by decide +kernel, rfl, by decide +kernel, by decide +kernel⟩
/-- what a loop's body is, and a comprehension's scope, by its place -/
def ifBody (s : Stmt) : List Stmt := match s with | .If _ b _ _ => b | _ => []
abbrev scC1 : Scope := compSc (arg0 (asgV (bodyAt (forBody (bodyAt (defBody sNames) 2)) 1)))
abbrev scC2 : Scope := compSc (asgV (bodyAt (ifBody (bodyAt (forBody (bodyAt (defBody sNames) 2)) 2)) 0))
abbrev scC3 : Scope := compSc (subV (asgV (bodyAt (ifBody (bodyAt (forBody (bodyAt (defBody sNames) 2)) 2)) 1)))
theorem cs1 : CompScope nNames (defScope sNames) ["_law_turn", "_law_letters", "_law_pot_here"] [none, some 2, some 0] scC1 := ⟨rfl, by decide +kernel, by decide +kernel, rfl, fv_of (by decide +kernel), by decide +kernel⟩
theorem cs2 : CompScope nNames (defScope sNames) ["_law_turn", "_law_letters", "_law_name"] [none, some 2, some 6] scC2 := ⟨rfl, by decide +kernel, by decide +kernel, rfl, fv_of (by decide +kernel), by decide +kernel⟩
theorem cs3 : CompScope nNames (defScope sNames) ["_law_one", "_law_found"] [none, some 3] scC3 := ⟨rfl, by decide +kernel, by decide +kernel, rfl, fv_of (by decide +kernel), by decide +kernel⟩
theorem ok_names {f fD : Addr} {fd fdD : FuncData} (F : Fun K "_law_names" "_law_names" sNames f fd) (B : Blt mg) (FD : Fun K "_law_digit" "_law_digit" sDigit fD fdD) (bD : Binds K fdD ["_law_pot_here", "_law_many"] []) (mD : mg "_law_digit" = some (.ref fD)) :
    FnOk P w K mg base CX0 3 f fd ["_law_pot_here", "_law_many"] spNames := by
  have GD : FnOk P w K mg base CX0 1 fD fdD ["_law_pot_here", "_law_many"] spDigit := ok_digit FD
  refine F.ok scNames (fun vs H Q E h => ?_) (fun cdv A outer s H vs Q E hr h => ?_)
  · unfold spNames at h; obtain ⟨p, m, rfl, _⟩ := h; rfl
  · unfold spNames at h
    obtain ⟨p, m, rfl, hp, m1, q⟩ := h
    have hr1 : Room 1 _ := hr.mono (by decide)
    refine ⟨_, pss_cons (ps_set (i := 2) scNames.nd rfl (Or.inr rfl) pe_str)
      (pss_cons (ps_set (i := 3) scNames.nd rfl (Or.inr rfl) (pe_lst pa_nil))
      (pss_cons (ps_for PassesOwn.never rfl (pi_range1 rfl B.range (pa_cons (pv 1) pa_nil)) (pg_name (i := 4) scNames.nd rfl (Or.inl rfl))
        (pss_cons (ps_set (i := 5) scNames.nd rfl (Or.inl rfl) (pe_op op_add pe_int (pe_call GD hr1 rfl mD FD.kp bD .nil pass0 (pa_cons (pv 0) (pa_cons (pe_ix ix_list (pe_lst (pa_cons pe_int (pa_cons pe_int (pa_cons pe_int pa_nil))))
            (pe_call GD hr1 rfl mD FD.kp bD .nil pass0 (pa_cons (pv 0) (pa_cons pe_int pa_nil))) (fun _ _ => rfl)) pa_nil)))))
        (pss_cons (ps_set (i := 6) scNames.nd rfl (Or.inr rfl) (pe_bm PySem.F.plainAttrs_str PySem.F.slot_str_join PySem.F.type_str_join mt_join pe_str
            (pa_cons (pe_comp rfl cs1 (pi_range1 rfl B.range (pa_cons (pv 5) pa_nil)) (fun s H fp => ⟨pg_name (i := 0) cs1.nd rfl (Or.inl rfl), pifs_nil, pe_ix ix_str (pv 1) (pe_call GD hr1 rfl mD FD.kp bD .nil pass0 (pa_cons (pv 2) (pa_cons pe_int pa_nil))) (fun _ _ => rfl)⟩)) pa_nil)))
        (pss_cons (ps_if (pt_cmpR op_in_seq (pv 6) (pv 3) rfl)
            (pss_cons (ps_setComp (i := 7) rfl cs2 scNames.nd rfl rfl (pi_range1 rfl B.range (pa_cons (pe_op op_add (pv 1) pe_int) pa_nil)) (fun s H fp => ⟨pg_name (i := 0) cs2.nd rfl (Or.inl rfl), pifs_nil,
                pe_op op_add_str (pe_op op_add_str (pe_slice sl_str (pv 2) po_none (po_some pe_int)) (pe_ix ix_str (pv 1) (pv 0) (fun _ _ => rfl))) pe_str⟩))
            (pss_one (ps_set (i := 6) scNames.nd rfl (Or.inr rfl) (pe_ix ix_list (pe_comp rfl cs3 (pi_list (pv 7)) (fun s H fp => ⟨pg_name (i := 0) cs3.nd rfl (Or.inl rfl), pifs_one (pt_cmpR (op_notIn_K K rfl) (pv 0) (pv 1) rfl), pv 0⟩)) pe_int (fun _ _ => rfl)))))
            pss_nil)
        (pss_one (ps_expr (pe_bm PySem.F.plainAttrs_list PySem.F.slot_list_append PySem.F.type_list_append mt_append (pv 3) (pa_cons (pv 6) pa_nil))))))))
      (pss_one (ps_ret (pv 3))))), ?_⟩
    refine ⟨Nat.zero_le _, fun l hl => ?_⟩
    have hpl : p ≠ l := hp.ne hl
    have em : ((m : Int)).toNat = m := Int.toNat_natCast m
    refine ⟨_, rfl, (m : Int), rfl, by omega, by omega, for_range (fun i σ H1 => ∃ (ys : List Str) (v4 v5 v6 v7 : Option V), σ = [some (.ref p), some (.int m), some (.str letters), some (.ref l), v4, v5, v6, v7] ∧ ys.length = i ∧ (∀ y ∈ ys, Nm y) ∧ ys.Nodup ∧ PotAt p H H1 ∧ H1 l = some (.lst (ys.map V.str)))
      ⟨[], none, none, none, none, rfl, rfl, (fun y hy => by simp at hy), List.nodup_nil, (PotAt.refl hp).new hl, upd_same⟩ ?_ ?_⟩
    · rintro i σ H1 hi ⟨ys, v4, v5, v6, v7, rfl, hlen, hnm, hnd, pa, hl1⟩
      rw [em] at hi
      -- size = 1 + digit(pot, [1, 2, 8][digit(pot, 3)])
      refine ⟨_, rfl, by show 3 ≤ sizeLine; rw [sizeLine_eq]; decide, fun a hq => ⟨_, rfl, ?_⟩⟩
      have nqp : a ≠ p := Ne.symm (pa.ok.ne hq)
      refine digit_sp (p := p) (m := 3) ((PotAt.refl pa.ok).new hq).ok (by decide) (by decide) fun d H2 d0 d1 pb => ?_
      obtain ⟨mv, hat, mv0, mv1⟩ : ∃ mv : Int, atI [V.int 1, V.int 2, V.int 8] d = some (V.int mv) ∧ 0 < mv ∧ mv ≤ 8 := by
        have : d = 0 ∨ d = 1 ∨ d = 2 := by omega
        rcases this with rfl | rfl | rfl
        · exact ⟨1, rfl, by decide, by decide⟩
        · exact ⟨2, rfl, by decide, by decide⟩
        · exact ⟨8, rfl, by decide, by decide⟩
      refine ⟨a, _, d, _, rfl, rfl, SqL.of (pb.kp a _ upd_same nqp), hat, ?_⟩
      refine digit_sp (p := p) (m := mv) pb.ok mv0 (by omega) fun e H3 e0 e1 pc => ⟨_, _, rfl, rfl, ?_⟩
      have pd : PotAt p H1 H3 := (((PotAt.refl pa.ok).new hq).trans pb).trans pc
      have hl3 : H3 l = some (.lst (ys.map V.str)) := pd.kp l _ hl1 (Ne.symm hpl)
      -- name = ''.join([letters[digit(pot, 26)] for turn in range(size)])
      refine ⟨rfl, _, rfl, 1 + e, rfl, by omega, by omega, fun a1 ha1 => ?_⟩
      have na1 : p ≠ a1 := pc.ok.ne ha1
      refine comp_range (fun i zs τ H4 => ∃ (cs : List Nat) (t0 : Option V), zs = (cs.map sign).map V.str ∧ cs.length = i ∧ (∀ c ∈ cs, 97 ≤ c ∧ c ≤ 122) ∧ τ = [t0, some (.str letters), some (.ref p)] ∧ PotAt p H3 H4 ∧ H4 a1 = some (.lst zs))
        ⟨[], none, rfl, rfl, (fun c hc => by simp at hc), rfl, (PotAt.refl pc.ok).new ha1, upd_same⟩ (fun i zs τ H4 ⟨_, _, _, _, _, _, _, z⟩ => z) ?_ ?_
      · rintro j zs τ H4 hj ⟨cs, t0, rfl, hcl, haz, rfl, pe, hz⟩
        refine ⟨_, rfl, _, rfl, digit_sp (p := p) (m := 26) pe.ok (by decide) (by decide) fun d H5 d0 d1 pf => ?_⟩
        obtain ⟨c, hc, c0, c1, _⟩ := letter_at d0 d1
        have hz5 : H5 a1 = _ := pf.kp a1 _ hz (Ne.symm na1)
        refine ⟨letters, d, c, rfl, rfl, (by rw [sizeLine_eq]; decide +kernel), hc, hz5, ?_, cw_next hj ⟨cs ++ [c], _, ?_, ?_, ?_, rfl, ?_, upd_same⟩⟩
        · rw [List.length_map, List.length_map, hcl, sizeLine_eq]; omega
        · rw [List.map_append, List.map_append]; rfl
        · rw [List.length_append, hcl]; rfl
        · intro x hx
          rcases List.mem_append.mp hx with h | h
          · exact haz x h
          · have : x = c := by simpa using h
            rw [this]; exact ⟨c0, c1⟩
        · exact (pe.trans pf).write ((PotAt.refl pc.ok).free ha1) na1
      · rintro zs τ H4 ⟨cs, t0, rfl, hcl, haz, rfl, pe, hz⟩
        have hsl : ((cs.map sign).map (·.length)).sum = cs.length := by
          exact sum_signs cs
        refine ⟨("" : Str), a1, cs.map sign, rfl, rfl, .inl (SqL.of hz), ?_, ?_⟩
        · have : (Str.length ("" : Str)) = 0 := rfl
          rw [hsl, this, hcl]; omega
        rw [join_signs]
        generalize hnme : (⟨cs.toArray⟩ : Str) = nm
        have nmOk : Nm nm := by
          have el : nm.length = cs.length := by rw [← hnme]; show cs.toArray.size = _; simp
          refine ⟨by omega, by omega, fun c hc => haz c ?_⟩
          rw [← hnme] at hc; simpa using hc
        have pg : PotAt p H1 H4 := pd.trans pe
        have hl4 : H4 l = some (.lst (ys.map V.str)) := pe.kp l _ hl3 (Ne.symm hpl)
        -- if name in found
        refine ⟨_, rfl, _, rfl, l, _, rfl, .inl (SqL.of hl4), rfl, flat_strs _, _, rfl, ?_⟩
        rw [if_neg Bool.false_ne_true, inV_strs]
        refine ite2 (fun hin => ?_) (fun hin => ?_)
        · -- some = [..]
          refine ⟨_, rfl, _, _, rfl, rfl, (m : Int) + 1, rfl, by omega, by omega, fun a2 ha2 => ?_⟩
          refine comp_range (fun i zs τ H5 => ∃ t0 : Option V, zs = ((List.range i).map fun j => Txt.slice nm none (some 6) ++ sign (97 + j) ++ ("q" : Str)).map V.str ∧ τ = [t0, some (.str letters), some (.str nm)] ∧ H5 = upd H4 a2 (.lst zs))
            ⟨none, rfl, rfl, rfl⟩ (fun i zs τ H5 ⟨_, _, _, z⟩ => by rw [z]; exact upd_same) ?_ ?_
          · rintro j zs τ H5 hj ⟨t0, rfl, rfl, rfl⟩
            have hj' : j < m + 1 := by omega
            obtain ⟨c, hc, c0, c1, hce⟩ := letter_at (d := 0 + (j : Int)) (by omega) (by omega)
            have hce' : c = 97 + j := by rw [hce]; omega
            have l1 : (Txt.slice nm none (some 6)).length ≤ 6 := slice6_len nm
            refine ⟨_, rfl, _, rfl, nm, rfl, by have := nmOk.hi; omega, _, rfl, _, rfl, letters, _, c, rfl, rfl, (by rw [sizeLine_eq]; decide +kernel), hc, _, _, rfl, rfl, ?_, _, _, rfl, rfl, ?_, upd_same, ?_, cw_next hj ⟨_, ?_, rfl, ?_⟩⟩
            · show _ + 1 ≤ sizeLine; rw [sizeLine_eq]; omega
            · have e1 : (Txt.slice nm none (some 6) ++ (⟨#[c]⟩ : Str)).length = (Txt.slice nm none (some 6)).length + 1 := by
                show (_ ++ #[c] : Array Nat).size = _; rw [Array.size_append]; rfl
              have e2 : (("q" : Str)).length = 1 := by decide +kernel
              show (Txt.slice nm none (some 6) ++ (⟨#[c]⟩ : Str)).length + _ ≤ sizeLine
              rw [e1, e2, sizeLine_eq]; omega
            · rw [List.length_map, List.length_map, List.length_range, sizeLine_eq]; omega
            · rw [List.range_succ, List.map_append, List.map_append, hce']; rfl
            · rw [upd_upd]
          · rintro zs τ H5 ⟨t0, rfl, rfl, rfl⟩
            have em1 : ((m : Int) + 1).toNat = m + 1 := by omega
            generalize hcd : (List.range ((m : Int) + 1).toNat).map (fun j => Txt.slice nm none (some 6) ++ sign (97 + j) ++ ("q" : Str)) = cands
            have cnd : cands.Nodup := by
              rw [← hcd]
              refine List.Pairwise.map _ (fun a b hab h => hab ?_) List.nodup_range
              have := cand_inj h
              omega
            have cnm : ∀ y ∈ cands, Nm y := by
              intro y hy
              rw [← hcd] at hy
              obtain ⟨j, hj, rfl⟩ := List.mem_map.mp hy
              have := List.mem_range.mp hj
              exact cand_nm nmOk.az ⟨by omega, by omega⟩
            have clen : cands.length = m + 1 := by rw [← hcd, List.length_map, List.length_range, em1]
            have hl5 : upd H4 a2 (.lst (cands.map V.str)) l = some (.lst (ys.map V.str)) := by rw [upd_ne (ne_of_none hl4 ha2)]; exact hl4
            -- name = [one for one in some if one not in found][0]
            refine ⟨_, rfl, a2, rfl, ⟨_, SqL.of upd_same⟩, fun a3 ha3 => ?_⟩
            refine comp_list (xs := cands.map V.str) (fun i zs τ H6 => ∃ t0 : Option V, zs = ((cands.take i).filter (fun y => !decide (y ∈ ys))).map V.str ∧ τ = [t0, some (.ref l)] ∧ H6 = upd (upd H4 a2 (.lst (cands.map V.str))) a3 (.lst zs))
              ⟨none, rfl, rfl, rfl⟩ (fun i zs τ H6 ⟨_, _, _, z⟩ => by rw [z]; exact ⟨upd_same, SqL.of (by rw [upd_ne (ne_of_none upd_same ha3)]; exact upd_same)⟩) ?_ ?_
            · rintro j x zs τ H6 hx ⟨t0, rfl, rfl, rfl⟩
              rw [List.getElem?_map] at hx
              obtain ⟨y, hy, rfl⟩ := Option.map_eq_some_iff.mp hx
              have hjl : j < (cands.map V.str).length := by rw [List.length_map]; exact (List.getElem?_eq_some_iff.mp hy).1
              have tk : cands.take (j + 1) = cands.take j ++ [y] := by rw [List.take_succ, hy]; rfl
              have hl6 : (upd (upd H4 a2 (.lst (cands.map V.str))) a3 (.lst (((cands.take j).filter (fun y => !decide (y ∈ ys))).map V.str))) l = some (.lst (ys.map V.str)) := by rw [upd_ne (ne_of_none hl5 ha3)]; exact hl5
              refine ⟨_, rfl, _, rfl, l, _, rfl, .inl (SqL.of hl6), rfl, flat_strs _, _, rfl, ?_⟩
              rw [if_pos rfl, inV_strs]
              refine ite2 (fun hn => ?_) (fun hn => ?_)
              · refine ⟨_, rfl, upd_same, ?_, cw_next hjl ⟨_, ?_, rfl, ?_⟩⟩
                · have h1 := List.length_filter_le (fun y => !decide (y ∈ ys)) (cands.take j)
                  have h2 : (cands.take j).length ≤ cands.length := by rw [List.length_take]; omega
                  rw [List.length_map, sizeLine_eq]; omega
                · rw [tk, List.filter_append, List.map_append, List.filter_cons, if_pos hn]; rfl
                · rw [upd_upd]
              · refine cw_next hjl ⟨_, ?_, rfl, rfl⟩
                rw [tk, List.filter_append, List.filter_cons, if_neg hn, List.filter_nil, List.append_nil]
            · rintro zs τ H6 ⟨t0, rfl, rfl, rfl⟩
              rw [List.length_map, List.take_length]
              obtain ⟨y0, hy0, hyn⟩ := pigeon (found := ys) cnd (by omega)
              have hmem : y0 ∈ cands.filter (fun y => !decide (y ∈ ys)) := List.mem_filter.mpr ⟨hy0, by simpa using hyn⟩
              cases hf : cands.filter (fun y => !decide (y ∈ ys)) with
              | nil => rw [hf] at hmem; simp at hmem
              | cons z1 zr =>
                have hz1 : z1 ∈ cands.filter (fun y => !decide (y ∈ ys)) := by rw [hf]; exact List.mem_cons_self
                obtain ⟨zc, zn⟩ := List.mem_filter.mp hz1
                have zn' : z1 ∉ ys := by simpa using zn
                have hl6 : (upd (upd H4 a2 (.lst (cands.map V.str))) a3 (.lst ((z1 :: zr).map V.str))) l = some (.lst (ys.map V.str)) := by rw [upd_ne (ne_of_none hl5 ha3)]; exact hl5
                have ph : PotAt p H (upd (upd H4 a2 (.lst (cands.map V.str))) a3 (.lst ((z1 :: zr).map V.str))) := ((pa.trans pg).new ha2).new ha3
                refine ⟨a3, _, 0, V.str z1, rfl, rfl, SqL.of upd_same, (show atI ((z1 :: zr).map V.str) ((0 : Nat) : Int) = some (V.str z1) from atI_nat rfl), ?_⟩
                refine ⟨_, rfl, .inl ⟨rfl, _, SqL.of hl6⟩, _, rfl, l, _, _, rfl, rfl, hl6, ?_, ?_⟩
                · rw [List.length_map, sizeLine_eq]; omega
                · refine ⟨ys ++ [z1], _, _, _, _, rfl, by rw [List.length_append, hlen]; rfl, ?_, ?_, ?_, ?_⟩
                  · intro y hy
                    rcases List.mem_append.mp hy with h | h
                    · exact hnm y h
                    · have : y = z1 := by simpa using h
                      rw [this]; exact cnm z1 zc
                  · rw [List.nodup_append]
                    exact ⟨hnd, by simp, fun a ha b hb => by have : b = z1 := by simpa using hb
                                                             rw [this]; exact fun h => zn' (h ▸ ha)⟩
                  · exact ph.write hl hpl
                  · rw [upd_same, List.map_append]; rfl
        · have hn' : nm ∉ ys := by simpa using hin
          have ph : PotAt p H H4 := pa.trans pg
          refine ⟨_, rfl, .inl ⟨rfl, _, SqL.of hl4⟩, _, rfl, l, _, _, rfl, rfl, hl4, ?_, ?_⟩
          · rw [List.length_map, sizeLine_eq]; omega
          · refine ⟨ys ++ [nm], _, _, _, _, rfl, by rw [List.length_append, hlen]; rfl, ?_, ?_, ?_, ?_⟩
            · intro y hy
              rcases List.mem_append.mp hy with h | h
              · exact hnm y h
              · have : y = nm := by simpa using h
                rw [this]; exact nmOk
            · rw [List.nodup_append]
              exact ⟨hnd, by simp, fun a ha b hb => by have : b = nm := by simpa using hb
                                                       rw [this]; exact fun h => hn' (h ▸ ha)⟩
            · exact ph.write hl hpl
            · rw [upd_same, List.map_append]; rfl
    · rintro σ H1 ⟨ys, v4, v5, v6, v7, rfl, hlen, hnm, hnd, pa, hl1⟩
      rw [em] at hlen
      exact ⟨_, rfl, q l ys H1 hl hlen hnm hnd pa hl1⟩
end
end K13
namespace K13
open PySem L2 PySem.W
theorem erase_perm {α : Type} : ∀ (l : List α) (k : Nat) (h : k < l.length), (l[k] :: l.eraseIdx k).Perm l
  | [], k, h => absurd h (Nat.not_lt_zero _)
  | x :: l, 0, _ => List.Perm.refl _
  | x :: l, k + 1, h => (List.Perm.swap _ _ _).trans ((erase_perm l k (Nat.lt_of_succ_lt_succ h)).cons x)
theorem map_erase {α β : Type} (f : α → β) : ∀ (l : List α) (k : Nat), (l.map f).eraseIdx k = (l.eraseIdx k).map f
  | [], _ => rfl
  | _ :: _, 0 => rfl
  | x :: l, k + 1 => congrArg (f x :: ·) (map_erase f l k)
section
variable {P : Program} {w : World} {K : Frag} {mg : Str → Option Value} {base : Heap} {f : Addr} {fd : FuncData}
@[irreducible] def spShuf : Sp := fun vs H Q _ => ∃ (p n : Addr) (ys : List Str), vs = [.ref p, .ref n] ∧ PotOk p H ∧ p ≠ n ∧ H n = some (.lst (ys.map V.str)) ∧ ys.length ≤ 20 ∧
  ∀ (l : Addr) (zs : List Str) (H' : Hp), H l = none → zs.Perm ys → PotAt p H H' → H' l = some (.lst (zs.map V.str)) → Q (.ref l) H'
theorem shuf_sp {p n : Addr} {ys : List Str} {H : Hp} {Q : VK} {E : XK} (hp : PotOk p H) (hpn : p ≠ n) (hn : H n = some (.lst (ys.map V.str))) (hl : ys.length ≤ 20)
    (q : ∀ (l : Addr) (zs : List Str) (H' : Hp), H l = none → zs.Perm ys → PotAt p H H' → H' l = some (.lst (zs.map V.str)) → Q (.ref l) H') : spShuf [.ref p, .ref n] H Q E := by
  unfold spShuf; exact ⟨p, n, ys, rfl, hp, hpn, hn, hl, q⟩
abbrev nShuf : List Str := ["_law_pot_here", "_law_names_here", "_law_left", "_law_found", "_law_turn"]
theorem scShuf : FnScope nShuf ["_law_pot_here", "_law_names_here"] (defScope sShuf) := ⟨rfl, rfl, rfl, by decide +kernel, rfl, by decide +kernel, by decide +kernel⟩
theorem ok_shuf {fD : Addr} {fdD : FuncData} (F : Fun K "_law_shuffled" "_law_shuffled" sShuf f fd) (B : Blt mg) (FD : Fun K "_law_digit" "_law_digit" sDigit fD fdD) (bD : Binds K fdD ["_law_pot_here", "_law_many"] []) (mD : mg "_law_digit" = some (.ref fD)) :
    FnOk P w K mg base CX0 2 f fd ["_law_pot_here", "_law_names_here"] spShuf := by
  have GD : FnOk P w K mg base CX0 1 fD fdD ["_law_pot_here", "_law_many"] spDigit := ok_digit FD
  refine F.ok scShuf (fun vs H Q E h => ?_) (fun cdv A outer s H vs Q E hr h => ?_)
  · unfold spShuf at h; obtain ⟨p, n, ys, rfl, _⟩ := h; rfl
  · unfold spShuf at h
    obtain ⟨p, n, ys, rfl, hp, hpn, hn, hlen, q⟩ := h
    have hr1 : Room 1 _ := hr
    refine ⟨_, pss_cons (ps_set (i := 2) scShuf.nd rfl (Or.inl rfl) (pe_callTy call_list_of rfl B.list boot_list (pa_cons (pv 1) pa_nil)))
      (pss_cons (ps_set (i := 3) scShuf.nd rfl (Or.inl rfl) (pe_lst pa_nil))
      (pss_cons (ps_for PassesOwn.never rfl (pi_range1 rfl B.range (pa_cons (pe_callB call_len_seq rfl B.len boot_len (pa_cons (pv 1) pa_nil)) pa_nil)) (pg_name (i := 4) scShuf.nd rfl (Or.inl rfl))
        (pss_one (ps_expr (pe_bm PySem.F.plainAttrs_list PySem.F.slot_list_append PySem.F.type_list_append mt_append (pv 3)
          (pa_cons (pe_bm PySem.F.plainAttrs_list PySem.F.slot_list_pop PySem.F.type_list_pop mt_popAt (pv 2)
            (pa_cons (pe_call GD hr1 rfl mD FD.kp bD .nil pass0 (pa_cons (pv 0) (pa_cons (pe_callB call_len_seq rfl B.len boot_len (pa_cons (pv 2) pa_nil)) pa_nil))) pa_nil)) pa_nil)))))
      (pss_one (ps_ret (pv 3))))), ?_⟩
    refine ⟨_, rfl, n, _, rfl, .inl (SqL.of hn), fun la hla => ?_⟩
    refine ⟨Nat.zero_le _, fun fa hfa => ?_⟩
    have npl : p ≠ la := hp.ne hla
    have nlf : la ≠ fa := ne_of_none upd_same hfa
    have hfaH : H fa = none := (same_new hla).free hfa
    have npf : p ≠ fa := hp.ne hfaH
    have P0 : PotAt p H (upd (upd H la (.lst (ys.map V.str))) fa (.lst [])) := ((PotAt.refl hp).new hla).new hfa
    refine ⟨_, rfl, n, _, rfl, .inl (SqL.of (P0.kp _ _ hn (Ne.symm hpn))), ((ys.map V.str).length : Int), rfl, by omega, by rw [List.length_map]; omega, for_range (fun i σ H1 => ∃ (zs ls : List Str) (v4 : Option V), σ = [some (.ref p), some (.ref n), some (.ref la), some (.ref fa), v4] ∧ zs.length = i ∧ (zs ++ ls).Perm ys ∧ PotAt p H H1 ∧ H1 la = some (.lst (ls.map V.str)) ∧ H1 fa = some (.lst (zs.map V.str)))
      ⟨[], ys, none, rfl, rfl, List.Perm.refl _, P0, by rw [upd_ne nlf]; exact upd_same, upd_same⟩ ?_ ?_⟩
    · rintro i σ H1 hi ⟨zs, ls, v4, rfl, hz, hP, pa, hla1, hfa1⟩
      have hlen2 := hP.length_eq
      rw [List.length_append] at hlen2
      have hi' : i < ys.length := by simpa using hi
      have hpos : 0 < ls.length := by omega
      refine ⟨_, rfl, .inl ⟨rfl, _, SqL.of hfa1⟩, _, rfl, .inl ⟨rfl, _, SqL.of hla1⟩, _, rfl, _, rfl, la, _, rfl, .inl (SqL.of hla1), ?_⟩
      refine digit_sp (p := p) pa.ok (by rw [List.length_map]; omega) (by rw [List.length_map]; omega) fun d H2 d0 d1 pb => ?_
      have hla2 := pb.kp _ _ hla1 (Ne.symm npl)
      have hfa2 := pb.kp _ _ hfa1 (Ne.symm npf)
      rw [List.length_map] at d1
      have hd : d.toNat < ls.length := by omega
      refine ⟨la, _, d, d.toNat, .str ls[d.toNat], rfl, rfl, hla2, by omega, by omega, seqIndex_of d0 (by rw [List.length_map]; exact d1), by rw [List.getElem?_map, List.getElem?_eq_getElem hd]; rfl, ?_⟩
      have hfa3 : (upd H2 la (.lst ((ls.map V.str).eraseIdx d.toNat))) fa = some (.lst (zs.map V.str)) := by rw [upd_ne (Ne.symm nlf)]; exact hfa2
      refine ⟨fa, _, _, rfl, rfl, hfa3, by rw [List.length_map, sizeLine_eq]; omega, ?_⟩
      refine ⟨zs ++ [ls[d.toNat]], ls.eraseIdx d.toNat, _, rfl, by rw [List.length_append]; simp [hz], ?_, ((pa.trans pb).write hla npl).write hfaH npf, ?_, ?_⟩
      · refine List.Perm.trans ?_ hP
        rw [List.append_assoc]
        exact List.Perm.append_left zs (erase_perm ls _ hd)
      · rw [upd_ne nlf, upd_same, map_erase]
      · rw [upd_same, List.map_append]; rfl
    · rintro σ H1 ⟨zs, ls, v4, rfl, hz, hP, pa, hla1, hfa1⟩
      have hlen2 := hP.length_eq
      rw [List.length_append, hz] at hlen2
      have e : ls = [] := List.eq_nil_of_length_eq_zero (by rw [List.length_map] at hlen2; omega)
      subst e
      exact ⟨_, rfl, q fa zs H1 hfaH (by simpa using hP) pa hfa1⟩
end
end K13
namespace K13
open PySem L2 PySem.W
theorem cut_hi (xs : List V) (k : Nat) (h : k ≤ xs.length) : cutV xs none (some (k : Int)) = xs.take k := by
  unfold cutV; rw [HT.sIx_none, HT.sIx_nat]; simp [Nat.min_eq_left h]
theorem cut_lo (xs : List V) (k : Nat) (h : k ≤ xs.length) : cutV xs (some (k : Int)) none = xs.drop k := by
  unfold cutV; rw [HT.sIx_none, HT.sIx_nat, Nat.min_eq_left h, List.take_of_length_le (by rw [List.length_drop]; omega)]
theorem swap_perm {α : Type} : ∀ (l : List α) (k : Nat) (h : k + 1 < l.length), (l.take k ++ [l[k + 1], l[k]] ++ l.drop (k + 2)).Perm l
  | [], k, h => absurd h (Nat.not_lt_zero _)
  | [x], k, h => by simp at h
  | x :: y :: l, 0, _ => List.Perm.swap _ _ _
  | x :: l, k + 1, h => (swap_perm l k (Nat.lt_of_succ_lt_succ h)).cons x
/-- rows of some names -/
structure RowsOk (ns : List Str) (rows : List (List Str)) : Prop where
  nd : ns.Nodup
  nm : ∀ n ∈ ns, Nm n
  rd : ∀ r ∈ rows, r.Nodup
  sub : ∀ r ∈ rows, ∀ n ∈ r, n ∈ ns
theorem via {G : Prop} {Cond C : Addr → Hp → Prop} (h1 : (∀ sb H6, Cond sb H6 → C sb H6) → G) (h2 : ∀ sb H6, Cond sb H6 → C sb H6) : G := h1 h2
theorem ite_f {A B : Prop} (h : B) : if false = true then A else B := h
theorem via3 {G : Prop} {Cond : Addr → Hp → Prop} {C : Addr → Option V → Hp → Prop} (h1 : (∀ sb v H6, Cond sb H6 → C sb v H6) → G) (h2 : ∀ sb v H6, Cond sb H6 → C sb v H6) : G := h1 h2
section
variable {P : Program} {w : World} {K : Frag} {mg : Str → Option Value} {base : Heap} {f : Addr} {fd : FuncData}
@[irreducible] def spRows : Sp := fun vs H Q _ => ∃ (p : Addr) (mn mr : Nat), vs = [.ref p, .int mn, .int mr] ∧ PotOk p H ∧ mn ≤ 18 ∧ mr ≤ 9 ∧
  ∀ (t : Addr) (ws : List V) (ns : List Str) (rows : List (List Str)) (H' : Hp), H t = none → PotAt p H H' → H' t = some (.tup ws) → RowsV H' ws rows → rows.length ≤ mr → ns.length ≤ mn → RowsOk ns rows → Q (.ref t) H'
theorem rows_sp {p : Addr} {mn mr : Nat} {H : Hp} {Q : VK} {E : XK} (hp : PotOk p H) (h1 : mn ≤ 18) (h2 : mr ≤ 9)
    (q : ∀ (t : Addr) (ws : List V) (ns : List Str) (rows : List (List Str)) (H' : Hp), H t = none → PotAt p H H' → H' t = some (.tup ws) → RowsV H' ws rows → rows.length ≤ mr → ns.length ≤ mn → RowsOk ns rows → Q (.ref t) H') : spRows [.ref p, .int mn, .int mr] H Q E := by
  unfold spRows; exact ⟨p, mn, mr, rfl, hp, h1, h2, q⟩
theorem names_sp {p : Addr} {m : Nat} {H : Hp} {Q : VK} {E : XK} (hp : PotOk p H) (hm : m ≤ 20)
    (q : ∀ (l : Addr) (ys : List Str) (H' : Hp), H l = none → ys.length = m → (∀ y ∈ ys, Nm y) → ys.Nodup → PotAt p H H' → H' l = some (.lst (ys.map V.str)) → Q (.ref l) H') : spNames [.ref p, .int m] H Q E := by
  unfold spNames; exact ⟨p, m, rfl, hp, hm, q⟩
abbrev nRows : List Str := ["_law_pot_here", "_law_most_names", "_law_most_rows", "_law_way", "_law_many", "_law_names_here", "_law_rows_here", "_law_turn", "_law_some", "_law_row", "_law_at"]
theorem scRows : FnScope nRows ["_law_pot_here", "_law_most_names", "_law_most_rows"] (defScope sRows) := ⟨rfl, rfl, rfl, by decide +kernel, rfl, by decide +kernel, by decide +kernel⟩
abbrev scRw : Scope := compSc (asgV (bodyAt (forBody (bodyAt (defBody sRows) 3)) 2))
theorem csRw : CompScope nRows (defScope sRows) ["_law_name", "_law_pot_here"] [none, some 0] scRw := ⟨rfl, by decide +kernel, by decide +kernel, rfl, fv_of (by decide +kernel), by decide +kernel⟩
theorem ok_rows {fD fN fS : Addr} {fdD fdN fdS : FuncData} (F : Fun K "_law_rows" "_law_rows" sRows f fd) (B : Blt mg) (FD : Fun K "_law_digit" "_law_digit" sDigit fD fdD) (bD : Binds K fdD ["_law_pot_here", "_law_many"] []) (mD : mg "_law_digit" = some (.ref fD))
    (FN : Fun K "_law_names" "_law_names" sNames fN fdN) (bN : Binds K fdN ["_law_pot_here", "_law_many"] []) (mN : mg "_law_names" = some (.ref fN))
    (FS : Fun K "_law_shuffled" "_law_shuffled" sShuf fS fdS) (bS : Binds K fdS ["_law_pot_here", "_law_names_here"] []) (mS : mg "_law_shuffled" = some (.ref fS)) :
    FnOk P w K mg base CX0 4 f fd ["_law_pot_here", "_law_most_names", "_law_most_rows"] spRows := by
  have GD : FnOk P w K mg base CX0 1 fD fdD ["_law_pot_here", "_law_many"] spDigit := ok_digit FD
  have GN : FnOk P w K mg base CX0 _ fN fdN ["_law_pot_here", "_law_many"] spNames := ok_names FN B FD bD mD
  have GS : FnOk P w K mg base CX0 2 fS fdS ["_law_pot_here", "_law_names_here"] spShuf := ok_shuf FS B FD bD mD
  refine F.ok scRows (fun vs H Q E h => ?_) (fun cdv A outer s H vs Q E hr h => ?_)
  · unfold spRows at h; obtain ⟨p, mn, mr, rfl, _⟩ := h; rfl
  · unfold spRows at h
    obtain ⟨p, mn, mr, rfl, hp, hmn, hmr, q⟩ := h
    have hr1 : Room 1 _ := hr.mono (by decide)
    have hr2 : Room 2 _ := hr.mono (by decide)
    have hr3 : Room 3 _ := hr
    refine ⟨_, pss_cons (ps_par (i := 3) (j := 4) rfl scRows.nd rfl rfl (by decide) rfl rfl (pa_cons (pe_call GD hr1 rfl mD FD.kp bD .nil pass0 (pa_cons (pv 0) (pa_cons pe_int pa_nil))) (pa_cons (pe_call GD hr1 rfl mD FD.kp bD .nil pass0 (pa_cons (pv 0) (pa_cons (pe_op op_add (pv 2) pe_int) pa_nil))) pa_nil)) rfl)
      (pss_cons (ps_set (i := 5) scRows.nd rfl (Or.inl rfl) (pe_call GS hr2 rfl mS FS.kp bS .nil pass0 (pa_cons (pv 0) (pa_cons (pe_call GN hr3 rfl mN FN.kp bN .nil pass0 (pa_cons (pv 0) (pa_cons (pe_call GD hr1 rfl mD FD.kp bD .nil pass0 (pa_cons (pv 0) (pa_cons (pe_op op_add (pv 1) pe_int) pa_nil))) pa_nil))) pa_nil))))
      (pss_cons (ps_set (i := 6) scRows.nd rfl (Or.inl rfl) (pe_lst pa_nil))
      (pss_cons (ps_for PassesOwn.never rfl (pi_range1 rfl B.range (pa_cons (pv 4) pa_nil)) (pg_name (i := 7) scRows.nd rfl (Or.inl rfl))
        (pss_cons (ps_set (i := 8) scRows.nd rfl (Or.inl rfl) (pe_callTy call_list_of rfl B.list boot_list (pa_cons (pv 5) pa_nil)))
        (pss_cons (ps_if (pt_cmpR op_eq (pv 3) pe_int (nomark _)) (pss_one (ps_set (i := 8) scRows.nd rfl (Or.inl rfl) (pe_call GS hr2 rfl mS FS.kp bS .nil pass0 (pa_cons (pv 0) (pa_cons (pv 5) pa_nil))))) pss_nil)
        (pss_cons (ps_setComp (i := 9) rfl csRw scRows.nd rfl rfl (pi_list (pv 8)) (fun s H fp => ⟨pg_name (i := 0) csRw.nd rfl (Or.inl rfl), pifs_one (pt_cmpR op_gt (pe_call GD hr1 rfl mD FD.kp bD .nil pass0 (pa_cons (pv 1) (pa_cons pe_int pa_nil))) pe_int (nomark _)), pv 0⟩))
        (pss_cons (ps_if (PW.pt (pw_and (pt_cmpR op_eq (pv 3) pe_int (nomark _)) (pw_and (pt_cmpR op_gt (pe_callB call_len_seq rfl B.len boot_len (pa_cons (pv 9) pa_nil)) pe_int (nomark _)) (pw_and1 (pt_cmpR op_eq (pe_call GD hr1 rfl mD FD.kp bD .nil pass0 (pa_cons (pv 0) (pa_cons pe_int pa_nil))) pe_int (nomark _))))))
          (pss_cons (ps_set (i := 10) scRows.nd rfl (Or.inl rfl) (pe_call GD hr1 rfl mD FD.kp bD .nil pass0 (pa_cons (pv 0) (pa_cons (pe_op op_sub (pe_callB call_len_seq rfl B.len boot_len (pa_cons (pv 9) pa_nil)) pe_int) pa_nil))))
          (pss_one (ps_set (i := 9) scRows.nd rfl (Or.inl rfl) (pe_op op_cat (pe_op op_cat (pe_slice sl_list (pv 9) po_none (po_some (pv 10))) (pe_lst (pa_cons (pe_ix ix_list (pv 9) (pe_op op_add (pv 10) pe_int) (fun _ _ => rfl)) (pa_cons (pe_ix ix_list (pv 9) (pv 10) (fun _ _ => rfl)) pa_nil)))) (pe_slice sl_list (pv 9) (po_some (pe_op op_add (pv 10) pe_int)) po_none)))))
          pss_nil)
        (pss_one (ps_expr (pe_bm PySem.F.plainAttrs_list PySem.F.slot_list_append PySem.F.type_list_append mt_append (pv 6) (pa_cons (pe_callTy call_tuple_of rfl B.tuple boot_tuple (pa_cons (pv 9) pa_nil)) pa_nil))))))))) 
      (pss_one (ps_ret (pe_callTy call_tuple_of rfl B.tuple boot_tuple (pa_cons (pv 6) pa_nil))))))), ?_⟩
    refine ⟨_, rfl, digit_sp (p := p) (m := 3) hp (by decide) (by decide) fun way H1 w0 w1 p1 => ?_⟩
    refine ⟨_, rfl, _, rfl, _, _, rfl, rfl, digit_sp (p := p) (m := (mr : Int) + 1) p1.ok (by omega) (by omega) fun many H2 m0 m1 p2 => ⟨_, _, rfl, ?_⟩⟩
    refine ⟨_, rfl, _, rfl, _, rfl, _, rfl, _, _, rfl, rfl, digit_sp (p := p) (m := (mn : Int) + 1) p2.ok (by omega) (by omega) fun dn H3 dn0 dn1 p3 => ?_⟩
    obtain ⟨k, rfl⟩ := Int.eq_ofNat_of_zero_le dn0
    refine names_sp (p := p) (m := k) p3.ok (by omega) fun l ys H4 hl hlen hnm hnd p4 h4 => ?_
    refine shuf_sp p4.ok (p3.ok.ne hl) h4 (by omega) fun na ns H5 hna hperm p5 h5 => ?_
    have p05 : PotAt p H H5 := p1.trans (p2.trans (p3.trans (p4.trans p5)))
    have hnaH : H na = none := (p1.trans (p2.trans (p3.trans p4))).free hna
    have npn : p ≠ na := hp.ne hnaH
    refine ⟨Nat.zero_le _, fun ra hra => ?_⟩
    have hraH : H ra = none := p05.free hra
    have npr : p ≠ ra := hp.ne hraH
    have nnr : na ≠ ra := ne_of_none h5 hra
    have nsd : ns.Nodup := hperm.nodup_iff.mpr hnd
    have nsn : ∀ n ∈ ns, Nm n := fun n hn => hnm n (hperm.mem_iff.mp hn)
    have nsl : ns.length ≤ mn := by have := hperm.length_eq; omega
    refine ⟨_, rfl, many, rfl, by omega, by omega, for_range (fun i σ H6 => ∃ (ws : List V) (rows : List (List Str)) (v7 v8 v9 v10 : Option V), σ = [some (.ref p), some (.int mn), some (.int mr), some (.int way), some (.int many), some (.ref na), some (.ref ra), v7, v8, v9, v10] ∧ rows.length = i ∧ PotAt p H H6 ∧ H6 na = some (.lst (ns.map V.str)) ∧ H6 ra = some (.lst ws) ∧ RowsV H6 ws rows ∧ RowsOk ns rows)
      ⟨[], [], none, none, none, none, rfl, rfl, p05.new hra, by rw [upd_ne nnr]; exact h5, upd_same, .nil, nsd, nsn, (fun r hr => by simp at hr), (fun r hr => by simp at hr)⟩ ?_ ?_⟩
    · rintro i σ H6 hi ⟨ws, rows, v7, v8, v9, v10, rfl, hlen6, p6, hna6, hra6, hR6, hok6⟩
      refine ⟨_, rfl, na, _, rfl, .inl (SqL.of hna6), fun sa hsa => ?_⟩
      refine ⟨_, rfl, rfl, _, rfl, ?_⟩
      apply via (Cond := fun sb H7 => ∃ zs : List Str, zs.Perm ns ∧ p ≠ sb ∧ PotAt p H6 H7 ∧ H7 sb = some (.lst (zs.map V.str)))
      · intro cont
        refine ite2 (fun h => ?_) (fun h => ?_)
        · refine ⟨_, rfl, _, rfl, shuf_sp ((p6.new hsa).ok) npn (by rw [upd_ne (ne_of_none hna6 hsa)]; exact hna6) (by omega) fun sb zs H7 hsb hz p7 h7 => ?_⟩
          exact cont sb H7 ⟨zs, hz, (p6.new hsa).ok.ne hsb, ((PotAt.refl p6.ok).new hsa).trans p7, h7⟩
        · exact cont sa _ ⟨ns, List.Perm.refl _, p6.ok.ne hsa, (PotAt.refl p6.ok).new hsa, upd_same⟩
      · rintro sb H7 ⟨zs, hz, nps, p7, h7⟩
        refine ⟨_, rfl, sb, rfl, ⟨_, SqL.of h7⟩, fun ca hca => ?_⟩
        have npc : p ≠ ca := p7.ok.ne hca
        have zl : zs.length ≤ 20 := by have := hz.length_eq; omega
        refine comp_list (xs := zs.map V.str) (fun j ys τ H8 => ∃ (t0 : Option V) (rs : List Str), ys = rs.map V.str ∧ τ = [t0, some (.ref p)] ∧ rs.Sublist (zs.take j) ∧ PotAt p H7 H8 ∧ H8 ca = some (.lst ys)) ⟨none, [], rfl, rfl, List.nil_sublist _, (PotAt.refl p7.ok).new hca, upd_same⟩ (fun j ys τ H8 ⟨_, rs, _, _, _, p8, h8⟩ => ⟨h8, SqL.of (p8.kp _ _ h7 (Ne.symm nps))⟩) ?_ ?_
        · rintro j x ys τ H8 hx ⟨t0, rs, rfl, rfl, hsub, p8, h8⟩
          have hjl : j < (zs.map V.str).length := (List.getElem?_eq_some_iff.mp hx).1
          have hjr : j < zs.length := by simpa using hjl
          obtain rfl : V.str zs[j] = x := by simpa [hjr] using hx
          have tkj : zs.take (j + 1) = zs.take j ++ [zs[j]] := by rw [List.take_succ, List.getElem?_eq_getElem hjr]; rfl
          have rl : rs.length ≤ 20 := by have := hsub.length_le; rw [List.length_take] at this; omega
          refine ⟨_, rfl, digit_sp (p := p) (m := 3) p8.ok (by decide) (by decide) fun d H9 d0 d1 p9 => ?_⟩
          refine ⟨_, _, rfl, rfl, _, rfl, ?_⟩
          have h9 := p9.kp _ _ h8 (Ne.symm npc)
          refine ite2 (fun hb => ?_) (fun hb => ?_)
          · refine ⟨_, rfl, h9, by rw [List.length_map, sizeLine_eq]; omega, cw_next hjl ⟨_, rs ++ [zs[j]], by rw [List.map_append]; rfl, rfl, ?_, (p8.trans p9).write hca npc, upd_same⟩⟩
            rw [tkj]; exact hsub.append (List.Sublist.refl _)
          · refine cw_next hjl ⟨_, rs, rfl, rfl, ?_, p8.trans p9, h9⟩
            rw [tkj]; exact hsub.trans (List.sublist_append_left _ _)
        · rintro ys τ H8 ⟨t0, rs, rfl, rfl, hsub, p8, h8⟩
          rw [List.length_map, List.take_length] at hsub
          have rnd : rs.Nodup := hsub.nodup (hz.nodup_iff.mpr nsd)
          have rsu : ∀ n ∈ rs, n ∈ ns := fun n hn => hz.mem_iff.mp (hsub.subset hn)
          have rl : rs.length ≤ 20 := by have := hsub.length_le; omega
          have p68 : PotAt p H6 H8 := p7.trans p8
          revert v10 H8 ca
          apply via3 (Cond := fun rb H9 => ∃ rs' : List Str, rs'.Nodup ∧ (∀ n ∈ rs', n ∈ ns) ∧ rs'.length ≤ 20 ∧ PotAt p H6 H9 ∧ H9 rb = some (.lst (rs'.map V.str)))
          · intro cont u10 cb hca npc G8 p8 h8 p68
            refine ⟨_, rfl, rfl, _, rfl, ?_⟩
            refine ite2 (fun h1 => ?_) (fun h1 => ite_f (cont cb u10 G8 ⟨rs, rnd, rsu, rl, p68, h8⟩))
            refine ⟨_, rfl, cb, _, rfl, .inl (SqL.of h8), _, _, rfl, rfl, _, rfl, ?_⟩
            refine ite2 (fun h2 => ?_) (fun h2 => ite_f (cont cb u10 G8 ⟨rs, rnd, rsu, rl, p68, h8⟩))
            have h2' : 1 < rs.length := by have := of_decide_eq_true h2; rw [List.length_map] at this; omega
            refine ⟨_, rfl, digit_sp (p := p) (m := 3) p8.ok (by decide) (by decide) fun d H9 d0 d1 p9 => ⟨rfl, _, rfl, ?_⟩⟩
            have h9 := p9.kp _ _ h8 (Ne.symm npc)
            refine ite2 (fun h3 => ?_) (fun h3 => cont cb u10 H9 ⟨rs, rnd, rsu, rl, p68.trans p9, h9⟩)
            refine ⟨_, rfl, _, rfl, cb, _, rfl, .inl (SqL.of h9), _, _, rfl, rfl, digit_sp (p := p) p9.ok (by rw [List.length_map]; omega) (by rw [List.length_map]; omega) fun at_ H10 a0 a1 p10 => ?_⟩
            have h10 := p10.kp _ _ h9 (Ne.symm npc)
            rw [List.length_map] at a1
            obtain ⟨k, rfl⟩ := Int.eq_ofNat_of_zero_le a0
            have hk : k + 1 < rs.length := by omega
            have g0 : (rs.map V.str)[k]? = some (.str rs[k]) := by rw [List.getElem?_map, List.getElem?_eq_getElem (by omega)]; rfl
            have g1 : (rs.map V.str)[k + 1]? = some (.str rs[k + 1]) := by rw [List.getElem?_map, List.getElem?_eq_getElem hk]; rfl
            refine ⟨_, rfl, _, rfl, _, rfl, cb, _, rfl, SqL.of h10, fun s1 hs1 => ?_⟩
            have p11 := (PotAt.refl p10.ok).new (o := .lst (cutV (rs.map V.str) none (some (k : Int)))) hs1
            have S1 := same_new (o := .lst (cutV (rs.map V.str) none (some (k : Int)))) hs1
            refine ⟨_, rfl, _, rfl, _, _, rfl, rfl, cb, _, _, _, rfl, rfl, SqL.of (S1 _ _ h10), (show atI (rs.map V.str) (((k + 1 : Nat) : Int)) = _ from atI_nat g1), ?_⟩
            refine ⟨_, rfl, _, rfl, cb, _, _, _, rfl, rfl, SqL.of (S1 _ _ h10), atI_nat g0, by show 2 ≤ sizeLine; rw [sizeLine_eq]; decide, fun s2 hs2 => ?_⟩
            have p12 := p11.new (o := .lst [V.str rs[k + 1], .str rs[k]]) hs2
            have S2 := S1.trans (same_new (o := .lst [V.str rs[k + 1], .str rs[k]]) hs2)
            refine ⟨s1, s2, _, _, rfl, rfl, by rw [upd_ne (ne_of_none upd_same hs2)]; exact upd_same, upd_same, by have := cutV_length (rs.map V.str) none (some (k : Int)); rw [List.length_map] at this; rw [sizeLine_eq]; show _ + 2 ≤ _; omega, fun s3 hs3 => ?_⟩
            have S3 := S2.trans (same_new (o := .lst (cutV (rs.map V.str) none (some (k : Int)) ++ [V.str rs[k + 1], .str rs[k]])) hs3)
            have p13 := p12.new (o := .lst (cutV (rs.map V.str) none (some (k : Int)) ++ [V.str rs[k + 1], .str rs[k]])) hs3
            refine ⟨_, rfl, _, rfl, _, _, rfl, rfl, _, rfl, cb, _, rfl, SqL.of (S3 _ _ h10), fun s4 hs4 => ?_⟩
            have p14 := p13.new (o := .lst (cutV (rs.map V.str) (some ((k : Int) + 2)) none)) hs4
            refine ⟨s3, s4, _, _, rfl, rfl, by rw [upd_ne (ne_of_none upd_same hs4)]; exact upd_same, upd_same, by have h1 := cutV_length (rs.map V.str) none (some (k : Int)); have h2 := cutV_length (rs.map V.str) (some ((k : Int) + 2)) none; rw [List.length_map] at h1 h2; rw [List.length_append, sizeLine_eq]; show _ + 2 + _ ≤ _; omega, fun s5 hs5 => ?_⟩
            have eqv : cutV (rs.map V.str) none (some (k : Int)) ++ [V.str rs[k + 1], .str rs[k]] ++ cutV (rs.map V.str) (some ((k : Int) + 2)) none = (rs.take k ++ [rs[k + 1], rs[k]] ++ rs.drop (k + 2)).map V.str := by
              rw [cut_hi _ _ (by rw [List.length_map]; omega), show ((k : Int) + 2) = ((k + 2 : Nat) : Int) from rfl, cut_lo _ _ (by rw [List.length_map]; omega)]
              simp [List.map_take, List.map_drop]
            have pm := swap_perm rs k hk
            refine cont s5 _ _ ⟨rs.take k ++ [rs[k + 1], rs[k]] ++ rs.drop (k + 2), pm.nodup_iff.mpr rnd, fun n hn => rsu n (pm.mem_iff.mp hn), by rw [pm.length_eq]; exact rl, (p68.trans (p9.trans p10)).trans (p14.new hs5), ?_⟩
            rw [upd_same, eqv]
          · rintro rb v H9 ⟨rs', rnd', rsu', rl', p69, hrb⟩
            have hra9 := p69.kp _ _ hra6 (Ne.symm npr)
            refine ⟨_, rfl, .inl ⟨rfl, _, SqL.of hra9⟩, _, rfl, rb, _, rfl, .inl ⟨SqL.of hrb, fun t ht => ?_⟩⟩
            have hra10 : (upd H9 t (.tup (rs'.map V.str))) ra = some (.lst ws) := by rw [upd_ne (ne_of_none hra9 ht)]; exact hra9
            have hln := hR6.length
            refine ⟨ra, _, _, rfl, rfl, hra10, by rw [sizeLine_eq]; omega, ?_⟩
            have p610 := p69.new (o := .tup (rs'.map V.str)) ht
            refine ⟨ws ++ [.ref t], rows ++ [rs'], _, _, _, _, rfl, by rw [List.length_append, hlen6]; rfl, (p6.trans p610).write hraH npr, ?_, upd_same, ?_, nsd, nsn, ?_, ?_⟩
            · rw [upd_ne nnr]; exact p610.kp _ _ hna6 (Ne.symm npn)
            · refine RowsV.append (rows_keep hR6 fun b xs hb => ?_) ?_
              · rw [upd_ne (ne_of hb hra6 (by intro z; cases z))]
                obtain ⟨x, y, e, _⟩ := p6.ok
                exact p610.kp _ _ hb (ne_of hb e (by intro z; cases z))
              · rw [upd_ne (ne_of upd_same hra10 (by intro z; cases z))]; exact upd_same
            · intro r hr
              rcases List.mem_append.mp hr with z | z
              · exact hok6.rd r z
              · have : r = rs' := by simpa using z
                rw [this]; exact rnd'
            · intro r hr
              rcases List.mem_append.mp hr with z | z
              · exact hok6.sub r z
              · have : r = rs' := by simpa using z
                rw [this]; exact rsu'
    · rintro σ H6 ⟨ws, rows, v7, v8, v9, v10, rfl, hlen6, p6, hna6, hra6, hR6, hok6⟩
      refine ⟨_, rfl, ra, _, rfl, .inl ⟨SqL.of hra6, fun t ht => ?_⟩⟩
      exact q t ws ns rows _ (p6.free ht) (p6.new ht) upd_same (rows_keep hR6 fun b xs hb => by rw [upd_ne (ne_of_none hb ht)]; exact hb) (by omega) nsl hok6
end
end K13
namespace K13
open PySem L2 PySem.W HT
theorem nm_ok {x : Str} (h : Nm x) : PyData.strOk x = true := by
  unfold PyData.strOk
  rw [← Array.all_toList, List.all_eq_true]; intro c hc; have := (h.az c hc).2; exact decide_eq_true (by omega)
theorem strs_rep (H : Hp) : ∀ xs : List Str, RepAll H (xs.map V.str) (xs.map PyData.str)
  | [] => .nil
  | x :: xs => .cons (.str x) (strs_rep H xs)
theorem strs_lay : ∀ {xs : List Str}, (∀ x ∈ xs, Nm x) → PyData.canLayAll0 (xs.map PyData.str) = true
  | [], _ => rfl
  | x :: xs, h => by
    show (PyData.strOk x && PyData.canLayAll0 (xs.map PyData.str)) = true
    rw [nm_ok (h x List.mem_cons_self), strs_lay fun y hy => h y (List.mem_cons_of_mem _ hy)]; rfl
theorem strs_depth : ∀ xs : List Str, PyData.depthAll (xs.map PyData.str) = 0
  | [] => rfl
  | x :: xs => by rw [List.map_cons]; simp only [PyData.depthAll, PyData.depth, strs_depth xs, Nat.max_self]
theorem strs_eqv : ∀ xs ys : List Str, PyData.eqvAll (xs.map PyData.str) (ys.map PyData.str) = decide (xs = ys)
  | [], [] => rfl
  | [], y :: ys => rfl
  | x :: xs, [] => rfl
  | x :: xs, y :: ys => by
    show ((x == y) && PyData.eqvAll (xs.map PyData.str) (ys.map PyData.str)) = _
    rw [strs_eqv xs ys]
    by_cases e : x = y
    · by_cases f : xs = ys <;> simp [e, f]
    · simp [e]
/-! ### what is due, place by place -/
def inL (left : List Str) (r : List Str) : List Str := r.filter fun n => decide (n ∈ left)
def behind (rows : List (List Str)) (left : List Str) (n : Str) : Bool := rows.any fun r => decide (n ∈ (inL left r).drop 1)
def firstFrom (all : List (List Str)) (left : List Str) : List (List Str) → Option Str
  | [] => none
  | r :: rest => match inL left r with
    | [] => firstFrom all left rest
    | x :: _ => if behind all left x then firstFrom all left rest else some x
theorem cut_from (xs : List V) (k : Nat) : cutV xs (some (k : Int)) none = xs.drop k := by
  unfold cutV; rw [HT.sIx_none, HT.sIx_nat]
  by_cases h : k ≤ xs.length
  · rw [Nat.min_eq_left h, List.take_of_length_le (by rw [List.length_drop]; omega)]
  · rw [Nat.min_eq_right (by omega), List.drop_length, List.drop_of_length_le (by omega)]; simp
theorem cut_to (xs : List V) (k : Nat) : cutV xs none (some (k : Int)) = xs.take k := by
  unfold cutV; rw [HT.sIx_none, HT.sIx_nat]
  by_cases h : k ≤ xs.length
  · rw [Nat.min_eq_left h]; simp
  · rw [Nat.min_eq_right (by omega)]; simp; rw [List.take_of_length_le (by omega)]
section
variable {P : Program} {w : World} {K : Frag} {mg : Str → Option Value} {base : Heap} {f : Addr} {fd : FuncData}
@[irreducible] def spBehind : Sp := fun vs H Q _ => ∃ (t l : Addr) (ws : List V) (rows : List (List Str)) (left : List Str) (n : Str), vs = [.ref t, .ref l, .str n] ∧ H t = some (.tup ws) ∧ RowsV H ws rows ∧ Small rows ∧ H l = some (.lst (left.map V.str)) ∧
  ∀ H', Same H H' → Q (.bl (behind rows left n)) H'
theorem behind_sp {t l : Addr} {ws : List V} {rows : List (List Str)} {left : List Str} {n : Str} {H : Hp} {Q : VK} {E : XK} (ht : H t = some (.tup ws)) (hR : RowsV H ws rows) (hS : Small rows) (hl : H l = some (.lst (left.map V.str)))
    (q : ∀ H', Same H H' → Q (.bl (behind rows left n)) H') : spBehind [.ref t, .ref l, .str n] H Q E := by
  unfold spBehind; exact ⟨t, l, ws, rows, left, n, rfl, ht, hR, hS, hl, q⟩
abbrev nBehind : List Str := ["_law_rows_here", "_law_left", "_law_name", "_law_row", "_law_some"]
theorem scBehind : FnScope nBehind ["_law_rows_here", "_law_left", "_law_name"] (defScope sBehind) := ⟨rfl, rfl, rfl, by decide +kernel, rfl, by decide +kernel, by decide +kernel⟩
abbrev scBh : Scope := compSc (asgV (bodyAt (forBody (bodyAt (defBody sBehind) 0)) 0))
theorem csBh : CompScope nBehind (defScope sBehind) ["_law_one", "_law_left"] [none, some 1] scBh := ⟨rfl, by decide +kernel, by decide +kernel, rfl, fv_of (by decide +kernel), by decide +kernel⟩
/-- the block [x for x in row if x in left] -/
theorem comp_in {K : Frag} {a l p : Addr} {r left : List Str} {H : Hp} {Q : VK} (ha : H a = some (.tup (r.map V.str))) (hl : H l = some (.lst (left.map V.str))) (hp : H p = none) (hs : r.length ≤ 20)
    (q : Q (.ref p) (upd H p (.lst ((inL left r).map V.str)))) :
    CompW (Itt K a) (gName 0) (tTest (tOp (rIn K false) (tVar 0) (tVar 1))) (tVar 0) [none, some (.ref l)] Q p H := by
  have nap : a ≠ p := ne_of_none ha hp
  have nlp : l ≠ p := ne_of_none hl hp
  refine comp_tup (xs := r.map V.str) (fun j zs τ H2 => ∃ t1 : Option V, τ = [t1, some (.ref l)] ∧ zs = (inL left (r.take j)).map V.str ∧ H2 = upd H p (.lst zs)) ⟨none, rfl, rfl, rfl⟩ (fun j zs τ H2 ⟨_, _, _, z⟩ => by rw [z]; exact ⟨upd_same, SqT.of (by rw [upd_ne nap]; exact ha)⟩) ?_ ?_
  · rintro j x zs τ H2 hx ⟨t1, rfl, rfl, rfl⟩
    have hjl : j < (r.map V.str).length := (List.getElem?_eq_some_iff.mp hx).1
    have hjr : j < r.length := by simpa using hjl
    obtain rfl : V.str r[j] = x := by simpa [hjr] using hx
    have tkj : r.take (j + 1) = r.take j ++ [r[j]] := by rw [List.take_succ, List.getElem?_eq_getElem hjr]; rfl
    refine ⟨_, rfl, _, rfl, l, _, rfl, .inl (SqL.of (by rw [upd_ne nlp]; exact hl)), rfl, flat_strs _, _, rfl, ?_⟩
    rw [if_neg Bool.false_ne_true, inV_strs]
    refine ite2 (fun hin => ?_) (fun hin => ?_)
    · refine ⟨_, rfl, upd_same, ?_, cw_next hjl ⟨_, rfl, ?_, by rw [upd_upd]⟩⟩
      · have h1 := List.length_filter_le (fun n => decide (n ∈ left)) (r.take j)
        have h2 : (r.take j).length ≤ r.length := by rw [List.length_take]; omega
        unfold inL
        rw [List.length_map, sizeLine_eq]; omega
      · unfold inL
        rw [tkj, List.filter_append, List.map_append, List.filter_cons_of_pos (p := fun n => decide (n ∈ left)) (by simpa using hin)]; rfl
    · refine cw_next hjl ⟨_, rfl, ?_, rfl⟩
      unfold inL
      rw [tkj, List.filter_append, List.filter_cons_of_neg (p := fun n => decide (n ∈ left)) (by simpa using hin), List.filter_nil, List.append_nil]
  · rintro zs τ H2 ⟨t1, rfl, rfl, rfl⟩
    rw [List.length_map, List.take_length]
    exact q
theorem ok_behind (F : Fun K "_law_is_behind" "_law_is_behind" sBehind f fd) : FnOk P w K mg base CX0 1 f fd ["_law_rows_here", "_law_left", "_law_name"] spBehind := by
  refine F.ok scBehind (fun vs H Q E h => ?_) (fun cdv A outer s H vs Q E hr h => ?_)
  · unfold spBehind at h; obtain ⟨t, l, ws, rows, left, n, rfl, _⟩ := h; rfl
  · unfold spBehind at h
    obtain ⟨t, l, ws, rows, left, n, rfl, ht, hR, hS, hl, q⟩ := h
    refine ⟨_, pss_cons (ps_for PassesOwn.never rfl (pi_tup (pv 0)) (pg_name (i := 3) scBehind.nd rfl (Or.inl rfl))
        (pss_cons (ps_setComp (i := 4) rfl csBh scBehind.nd rfl rfl (pi_tup (pv 3)) (fun s H fp => ⟨pg_name (i := 0) csBh.nd rfl (Or.inl rfl), pifs_one (pt_cmpR (op_in_K K rfl) (pv 0) (pv 1) rfl), pv 0⟩))
        (pss_one (ps_if (pt_cmpR op_in_seq (pv 2) (pe_slice sl_list (pv 4) (po_some pe_int) po_none) rfl) (pss_one (ps_ret pe_bl)) pss_nil))))
      (pss_one (ps_ret pe_bl)), ?_⟩
    refine ⟨_, rfl, t, rfl, ⟨_, SqT.of ht⟩, for_tup (xs := ws) (fun i σ H1 => ∃ v3 v4 : Option V, σ = [some (.ref t), some (.ref l), some (.str n), v3, v4] ∧ Same H H1 ∧ behind (rows.take i) left n = false) ⟨none, none, rfl, Same.refl _, rfl⟩ (fun i σ H1 _ ⟨_, _, _, z, _⟩ => SqT.of (z _ _ ht)) ?_ ?_⟩
    · rintro i x σ H1 hx ⟨v3, v4, rfl, S1, hb⟩
      obtain ⟨a, r, rfl, hri, har⟩ := hR.get hx
      have ha1 := S1 _ _ har
      have hl1 := S1 _ _ hl
      have tk : rows.take (i + 1) = rows.take i ++ [r] := by rw [List.take_succ, hri]; rfl
      have hrm := List.mem_of_getElem? hri
      refine ⟨_, rfl, a, rfl, ⟨_, SqT.of ha1⟩, fun p hp => comp_in ha1 hl1 hp (hS.short r hrm) ?_⟩
      have S2 := S1.trans (same_new (o := .lst ((inL left r).map V.str)) hp)
      refine ⟨_, rfl, _, rfl, _, rfl, p, _, rfl, SqL.of upd_same, fun p2 hp2 => ?_⟩
      have ec : cutV ((inL left r).map V.str) (some 1) none = ((inL left r).drop 1).map V.str := by
        rw [show (1 : Int) = ((1 : Nat) : Int) from rfl, cut_from, List.map_drop]
      rw [ec]
      refine ⟨p2, _, rfl, .inl (SqL.of upd_same), rfl, flat_strs _, _, rfl, ?_⟩
      rw [if_neg Bool.false_ne_true, inV_strs]
      have S3 := S2.trans (same_new (o := .lst (((inL left r).drop 1).map V.str)) hp2)
      have split : behind (rows.take (i + 1)) left n = (behind (rows.take i) left n || decide (n ∈ (inL left r).drop 1)) := by rw [tk]; unfold behind; rw [List.any_append]; simp
      refine ite2 (fun hin => ?_) (fun hin => ?_)
      · have hall : behind rows left n = true := List.any_eq_true.mpr ⟨r, hrm, hin⟩
        have := q _ S3
        rw [hall] at this
        exact this
      · refine ⟨_, _, rfl, S3, ?_⟩
        rw [split, hb]
        simpa using hin
    · rintro σ H1 ⟨v3, v4, rfl, S1, hb⟩
      rw [hR.length, List.take_length] at hb
      have := q H1 S1
      rw [hb] at this
      exact this
end
end K13
namespace K13
open PySem L2 PySem.W HT
def addN (left : List Str) (n : Str) : List Str := if n ∈ left then left else left ++ [n]
def allNames (rows : List (List Str)) : List Str := rows.foldl (fun l r => r.foldl addN l) []
def dueLoop (rows : List (List Str)) : Nat → List Str → List Str → Option (List Str)
  | 0, _, acc => some acc
  | k + 1, left, acc => match firstFrom rows left rows with
    | none => none
    | some n => dueLoop rows k (left.erase n) (acc ++ [n])
def dueF (rows : List (List Str)) : Option (List Str) := dueLoop rows (allNames rows).length (allNames rows) []
theorem first_in {all : List (List Str)} {left : List Str} {n : Str} : ∀ {rest : List (List Str)}, firstFrom all left rest = some n → n ∈ left ∧ ∃ r ∈ rest, n ∈ r
  | [], h => by cases h
  | r :: rest, h => by
    unfold firstFrom at h
    split at h
    · obtain ⟨h1, q, hq, h2⟩ := first_in (rest := rest) h
      exact ⟨h1, q, List.mem_cons_of_mem _ hq, h2⟩
    next x t e =>
      split at h
      · obtain ⟨h1, q, hq, h2⟩ := first_in (rest := rest) h
        exact ⟨h1, q, List.mem_cons_of_mem _ hq, h2⟩
      · cases h
        have : n ∈ inL left r := by rw [e]; exact List.mem_cons_self
        have := List.mem_filter.mp this
        exact ⟨by simpa using this.2, r, List.mem_cons_self, this.1⟩
theorem erase_first : ∀ {ys : List Str} {y : Str} {j : Nat}, ys[j]? = some y → (∀ m : Nat, m < j → ys[m]? ≠ some y) → ys.eraseIdx j = ys.erase y
  | [], y, j, h, _ => by simp at h
  | x :: ys, y, 0, h, _ => by
    obtain rfl : x = y := by simpa using h
    simp
  | x :: ys, y, j + 1, h, hno => by
    have hx : x ≠ y := fun z => hno 0 (by omega) (by rw [z]; rfl)
    rw [List.eraseIdx_cons_succ, List.erase_cons_tail (by simpa using hx), erase_first (by simpa using h) fun m hm => by simpa using hno (m + 1) (by omega)]
section
variable {P : Program} {w : World} {K : Frag} {mg : Str → Option Value} {base : Heap} {f : Addr} {fd : FuncData}
@[irreducible] def spFirst : Sp := fun vs H Q _ => ∃ (t l : Addr) (ws : List V) (rows : List (List Str)) (left : List Str), vs = [.ref t, .ref l] ∧ H t = some (.tup ws) ∧ RowsV H ws rows ∧ Small rows ∧ H l = some (.lst (left.map V.str)) ∧
  ∀ H', Same H H' → Q (optV (firstFrom rows left rows)) H'
theorem first_sp {t l : Addr} {ws : List V} {rows : List (List Str)} {left : List Str} {H : Hp} {Q : VK} {E : XK} (ht : H t = some (.tup ws)) (hR : RowsV H ws rows) (hS : Small rows) (hl : H l = some (.lst (left.map V.str)))
    (q : ∀ H', Same H H' → Q (optV (firstFrom rows left rows)) H') : spFirst [.ref t, .ref l] H Q E := by
  unfold spFirst; exact ⟨t, l, ws, rows, left, rfl, ht, hR, hS, hl, q⟩
abbrev nFirst : List Str := ["_law_rows_here", "_law_left", "_law_row", "_law_some"]
theorem scFirst : FnScope nFirst ["_law_rows_here", "_law_left"] (defScope sFirst) := ⟨rfl, rfl, rfl, by decide +kernel, rfl, by decide +kernel, by decide +kernel⟩
abbrev scFs : Scope := compSc (asgV (bodyAt (forBody (bodyAt (defBody sFirst) 0)) 0))
theorem csFs : CompScope nFirst (defScope sFirst) ["_law_name", "_law_left"] [none, some 1] scFs := ⟨rfl, by decide +kernel, by decide +kernel, rfl, fv_of (by decide +kernel), by decide +kernel⟩
theorem ok_first {fB : Addr} {fdB : FuncData} (F : Fun K "_law_first" "_law_first" sFirst f fd) (FB : Fun K "_law_is_behind" "_law_is_behind" sBehind fB fdB) (bB : Binds K fdB ["_law_rows_here", "_law_left", "_law_name"] []) (mB : mg "_law_is_behind" = some (.ref fB)) :
    FnOk P w K mg base CX0 2 f fd ["_law_rows_here", "_law_left"] spFirst := by
  have GB : FnOk P w K mg base CX0 1 fB fdB ["_law_rows_here", "_law_left", "_law_name"] spBehind := ok_behind FB
  refine F.ok scFirst (fun vs H Q E h => ?_) (fun cdv A outer s H vs Q E hr h => ?_)
  · unfold spFirst at h; obtain ⟨t, l, ws, rows, left, rfl, _⟩ := h; rfl
  · unfold spFirst at h
    obtain ⟨t, l, ws, rows, left, rfl, ht, hR, hS, hl, q⟩ := h
    have hu := hr.units
    have hr1 : Room 1 _ := hr
    refine ⟨_, pss_cons (ps_for PassesOwn.never rfl (pi_tup (pv 0)) (pg_name (i := 2) scFirst.nd rfl (Or.inl rfl))
        (pss_cons (ps_setComp (i := 3) rfl csFs scFirst.nd rfl rfl (pi_tup (pv 2)) (fun s H fp => ⟨pg_name (i := 0) csFs.nd rfl (Or.inl rfl), pifs_one (pt_cmpR (op_in_K K rfl) (pv 0) (pv 1) rfl), pv 0⟩))
        (pss_one (ps_if (PW.pt (pw_and (pt_cmpR (op_neD hu) (pv 3) (pe_lst pa_nil) (nomark _)) (pw_and1 (pt_not (pt_val (pe_call GB hr1 rfl mB FB.kp bB .nil pass0 (pa_cons (pv 0) (pa_cons (pv 1) (pa_cons (pe_ix ix_list (pv 3) pe_int (fun _ _ => rfl)) pa_nil))))))))) (pss_one (ps_ret (pe_ix ix_list (pv 3) pe_int (fun _ _ => rfl)))) pss_nil))))
      (pss_one (ps_ret pe_non)), ?_⟩
    refine ⟨_, rfl, t, rfl, ⟨_, SqT.of ht⟩, for_tup (xs := ws) (fun i σ H1 => ∃ v2 v3 : Option V, σ = [some (.ref t), some (.ref l), v2, v3] ∧ Same H H1 ∧ firstFrom rows left (rows.drop i) = firstFrom rows left rows) ⟨none, none, rfl, Same.refl _, rfl⟩ (fun i σ H1 _ ⟨_, _, _, z, _⟩ => SqT.of (z _ _ ht)) ?_ ?_⟩
    · rintro i x σ H1 hx ⟨v2, v3, rfl, S1, hf⟩
      obtain ⟨a, r, rfl, hri, har⟩ := hR.get hx
      have ha1 := S1 _ _ har
      have hl1 := S1 _ _ hl
      have hrm := List.mem_of_getElem? hri
      have hdr : rows.drop i = r :: rows.drop (i + 1) := by
        obtain ⟨hi1, rfl⟩ := List.getElem?_eq_some_iff.mp hri
        exact List.drop_eq_getElem_cons hi1
      rw [hdr] at hf
      have nmI : ∀ n ∈ inL left r, Nm n := fun n hn => hS.nm r hrm n (List.mem_filter.mp hn).1
      refine ⟨_, rfl, a, rfl, ⟨_, SqT.of ha1⟩, fun p hp => comp_in ha1 hl1 hp (hS.short r hrm) ?_⟩
      have hf : (match inL left r with | [] => firstFrom rows left (rows.drop (i + 1)) | x :: _ => if behind rows left x then firstFrom rows left (rows.drop (i + 1)) else some x) = firstFrom rows left rows := hf
      generalize inL left r = I at hf nmI ⊢
      have S2 := S1.trans (same_new (o := .lst (I.map V.str)) hp)
      refine ⟨_, rfl, Nat.zero_le _, fun z1 hz1 => ?_⟩
      have S3 := S2.trans (same_new (o := .lst []) hz1)
      have hp3 : (upd (upd H1 p (.lst (I.map V.str))) z1 (.lst [])) p = some (.lst (I.map V.str)) := by rw [upd_ne (ne_of_none upd_same hz1)]; exact upd_same
      refine ⟨.list _, .list [], .lst hp3 (strs_rep _ _), .lst upd_same .nil, strs_lay nmI, rfl, by show PyData.depthAll _ + 1 ≤ 60; rw [strs_depth]; decide, _, rfl, ?_⟩
      cases I with
      | nil => exact ⟨_, _, rfl, S3, hf⟩
      | cons y t' =>
        have hf : (if behind rows left y then firstFrom rows left (rows.drop (i + 1)) else some y) = firstFrom rows left rows := hf
        refine ⟨_, rfl, _, rfl, _, rfl, p, _, 0, .str y, rfl, rfl, SqL.of hp3, at0, ?_⟩
        refine behind_sp (S3 _ _ ht) (hR.same S3) hS (S3 _ _ hl) fun H4 S4 => ⟨_, rfl, ?_⟩
        cases hb : behind rows left y with
        | true =>
          rw [hb] at hf
          exact ⟨_, _, rfl, S3.trans S4, hf⟩
        | false =>
          rw [hb] at hf
          refine ⟨_, rfl, p, _, 0, .str y, rfl, rfl, SqL.of (S4 _ _ hp3), at0, ?_⟩
          have e : firstFrom rows left rows = some y := hf.symm
          have := q H4 (S3.trans S4)
          rw [e] at this
          exact this
    · rintro σ H1 ⟨v2, v3, rfl, S1, hf⟩
      rw [hR.length, List.drop_length] at hf
      have e : firstFrom rows left rows = none := hf.symm
      have := q H1 S1
      rw [e] at this
      exact this
end
end K13
namespace K13
open PySem L2 PySem.W HT
theorem addN_len (l : List Str) (n : Str) : (addN l n).length ≤ l.length + 1 := by
  unfold addN; split
  · omega
  · rw [List.length_append]; exact Nat.le_refl _
def addR (l : List Str) (r : List Str) : List Str := r.foldl addN l
theorem addR_snoc (l r : List Str) (n : Str) : addR l (r ++ [n]) = addN (addR l r) n := by unfold addR; rw [List.foldl_append]; rfl
theorem all_snocN (rows : List (List Str)) (r : List Str) : allNames (rows ++ [r]) = addR (allNames rows) r := by unfold allNames; rw [List.foldl_append]; rfl
theorem erase_length {left : List Str} {n : Str} (h : n ∈ left) : (left.erase n).length + 1 = left.length := by
  rw [List.length_erase_of_mem h]
  have : 0 < left.length := List.length_pos_of_mem h
  omega
section
variable {P : Program} {w : World} {K : Frag} {mg : Str → Option Value} {base : Heap} {f : Addr} {fd : FuncData}
@[irreducible] def spDue : Sp := fun vs H Q _ => ∃ (t : Addr) (ws : List V) (rows : List (List Str)), vs = [.ref t] ∧ H t = some (.tup ws) ∧ RowsV H ws rows ∧ Small rows ∧
  (dueF rows = none → ∀ H', Same H H' → Q .non H') ∧ (∀ o, dueF rows = some o → ∀ p H', H p = none → Same H H' → H' p = some (.tup (o.map V.str)) → Q (.ref p) H')
theorem due_sp {t : Addr} {ws : List V} {rows : List (List Str)} {H : Hp} {Q : VK} {E : XK} (ht : H t = some (.tup ws)) (hR : RowsV H ws rows) (hS : Small rows) (qn : dueF rows = none → ∀ H', Same H H' → Q .non H')
    (qs : ∀ o, dueF rows = some o → ∀ p H', H p = none → Same H H' → H' p = some (.tup (o.map V.str)) → Q (.ref p) H') : spDue [.ref t] H Q E := by
  unfold spDue; exact ⟨t, ws, rows, rfl, ht, hR, hS, qn, qs⟩
abbrev nDue : List Str := ["_law_rows_here", "_law_left", "_law_row", "_law_name", "_law_found", "_law_turn"]
theorem scDue : FnScope nDue ["_law_rows_here"] (defScope sDue) := ⟨rfl, rfl, rfl, by decide +kernel, rfl, by decide +kernel, by decide +kernel⟩
theorem ok_due {fB fF : Addr} {fdB fdF : FuncData} (F : Fun K "_law_due" "_law_due" sDue f fd) (B : Blt mg) (FB : Fun K "_law_is_behind" "_law_is_behind" sBehind fB fdB) (bB : Binds K fdB ["_law_rows_here", "_law_left", "_law_name"] []) (mB : mg "_law_is_behind" = some (.ref fB))
    (FF : Fun K "_law_first" "_law_first" sFirst fF fdF) (bF : Binds K fdF ["_law_rows_here", "_law_left"] []) (mF : mg "_law_first" = some (.ref fF)) :
    FnOk P w K mg base CX0 3 f fd ["_law_rows_here"] spDue := by
  have GF : FnOk P w K mg base CX0 2 fF fdF ["_law_rows_here", "_law_left"] spFirst := ok_first FF FB bB mB
  refine F.ok scDue (fun vs H Q E h => ?_) (fun cdv A outer s H vs Q E hr h => ?_)
  · unfold spDue at h; obtain ⟨t, ws, rows, rfl, _⟩ := h; rfl
  · unfold spDue at h
    obtain ⟨t, ws, rows, rfl, ht, hR, hS, qn, qs⟩ := h
    have hr2 : Room 2 _ := hr
    refine ⟨_, pss_cons (ps_set (i := 1) scDue.nd rfl (Or.inl rfl) (pe_lst pa_nil))
      (pss_cons (ps_for PassesOwn.never rfl (pi_tup (pv 0)) (pg_name (i := 2) scDue.nd rfl (Or.inl rfl))
        (pss_one (ps_for PassesOwn.never rfl (pi_tup (pv 2)) (pg_name (i := 3) scDue.nd rfl (Or.inl rfl))
          (pss_one (ps_if (pt_cmpR op_notIn_seq (pv 3) (pv 1) rfl) (pss_one (ps_expr (pe_bm PySem.F.plainAttrs_list PySem.F.slot_list_append PySem.F.type_list_append mt_append (pv 1) (pa_cons (pv 3) pa_nil)))) pss_nil)))))
      (pss_cons (ps_set (i := 4) scDue.nd rfl (Or.inl rfl) (pe_lst pa_nil))
      (pss_cons (ps_for PassesOwn.never rfl (pi_range1 rfl B.range (pa_cons (pe_callB call_len_seq rfl B.len boot_len (pa_cons (pv 1) pa_nil)) pa_nil)) (pg_name (i := 5) scDue.nd rfl (Or.inl rfl))
        (pss_cons (ps_set (i := 3) scDue.nd rfl (Or.inl rfl) (pe_call GF hr2 rfl mF FF.kp bF .nil pass0 (pa_cons (pv 0) (pa_cons (pv 1) pa_nil))))
        (pss_cons (ps_if (pt_cmpR op_isN (pv 3) pe_non (nomark _)) (pss_one (ps_ret pe_non)) pss_nil)
        (pss_cons (ps_expr (pe_bm PySem.F.plainAttrs_list PySem.F.slot_list_append PySem.F.type_list_append mt_append (pv 4) (pa_cons (pv 3) pa_nil)))
        (pss_one (ps_expr (pe_bm PySem.F.plainAttrs_list PySem.F.slot_list_remove PySem.F.type_list_remove mt_remove (pv 1) (pa_cons (pv 3) pa_nil))))))))
      (pss_one (ps_ret (pe_callTy call_tuple_of rfl B.tuple boot_tuple (pa_cons (pv 4) pa_nil))))))), ?_⟩
    refine ⟨Nat.zero_le _, fun la hla => ?_⟩
    have n0 : ∀ {b : Addr} {o : HO}, H b = some o → b ≠ la := fun e => ne_of_none e hla
    refine ⟨_, rfl, t, rfl, ⟨_, SqT.of ((same_new hla) _ _ ht)⟩, for_tup (xs := ws) (fun i σ H1 => ∃ v2 v3 : Option V, σ = [some (.ref t), some (.ref la), v2, v3, none, none] ∧ Same H H1 ∧ H1 la = some (.lst ((allNames (rows.take i)).map V.str)) ∧ (allNames (rows.take i)).length ≤ 20 * i)
      ⟨none, none, rfl, same_new hla, upd_same, Nat.le_refl _⟩ (fun i σ H1 _ ⟨_, _, _, z, _⟩ => SqT.of (z _ _ ht)) ?_ ?_⟩
    · rintro i x σ H1 hx ⟨v2, v3, rfl, S1, hla1, hlen⟩
      obtain ⟨a, r, rfl, hri, har⟩ := hR.get hx
      have hil : i < ws.length := (List.getElem?_eq_some_iff.mp hx).1
      have hrl := hS.short r (List.mem_of_getElem? hri)
      have hfew : i < 10 := by have := hR.length; have := hS.few; omega
      have tk : rows.take (i + 1) = rows.take i ++ [r] := by rw [List.take_succ, hri]; rfl
      refine ⟨_, rfl, a, rfl, ⟨_, SqT.of (S1 _ _ har)⟩, for_tup (xs := r.map V.str) (fun j σ H2 => ∃ v3 : Option V, σ = [some (.ref t), some (.ref la), some (.ref a), v3, none, none] ∧ Same H H2 ∧ H2 la = some (.lst ((addR (allNames (rows.take i)) (r.take j)).map V.str)) ∧ (addR (allNames (rows.take i)) (r.take j)).length ≤ (allNames (rows.take i)).length + j)
        ⟨_, rfl, S1, hla1, Nat.le_refl _⟩ (fun j σ H2 _ ⟨_, _, z, _⟩ => SqT.of (z _ _ har)) ?_ ?_⟩
      · rintro j x σ H2 hxj ⟨v3, rfl, S2, hla2, hl2⟩
        have hjr : j < r.length := by simpa using (List.getElem?_eq_some_iff.mp hxj).1
        obtain rfl : V.str r[j] = x := by simpa [hjr] using hxj
        have tkj : r.take (j + 1) = r.take j ++ [r[j]] := by rw [List.take_succ, List.getElem?_eq_getElem hjr]; rfl
        have hal := addN_len (addR (allNames (rows.take i)) (r.take j)) r[j]
        refine ⟨_, rfl, _, rfl, la, _, rfl, .inl (SqL.of hla2), rfl, flat_strs _, _, rfl, ?_⟩
        rw [if_pos rfl, inV_strs]
        refine ite2 (fun hn => ?_) (fun hn => ?_)
        · have hn' : r[j] ∉ addR (allNames (rows.take i)) (r.take j) := by simpa using hn
          refine ⟨_, rfl, .inl ⟨rfl, _, SqL.of hla2⟩, _, rfl, la, _, _, rfl, rfl, hla2, by rw [List.length_map, sizeLine_eq]; omega, ?_⟩
          refine ⟨_, rfl, fun b o hb => by rw [upd_ne (n0 hb)]; exact S2 b o hb, ?_, by rw [tkj, addR_snoc]; omega⟩
          rw [upd_same, tkj, addR_snoc]; unfold addN; rw [if_neg hn', List.map_append]; rfl
        · have hn' : r[j] ∈ addR (allNames (rows.take i)) (r.take j) := by simpa using hn
          refine ⟨_, rfl, S2, ?_, by rw [tkj, addR_snoc]; omega⟩
          rw [tkj, addR_snoc]; unfold addN; rw [if_pos hn']; exact hla2
      · rintro σ H2 ⟨v3, rfl, S2, hla2, hl2⟩
        rw [List.length_map, List.take_length] at hla2 hl2
        exact ⟨_, _, rfl, S2, by rw [tk, all_snocN]; exact hla2, by rw [tk, all_snocN]; omega⟩
    · rintro σ H1 ⟨v2, v3, rfl, S1, hla1, hlen⟩
      rw [hR.length, List.take_length] at hla1 hlen
      have hN : (allNames rows).length ≤ 200 := by have := hS.few; omega
      refine ⟨Nat.zero_le _, fun fa hfa => ?_⟩
      have nlf : la ≠ fa := ne_of_none hla1 hfa
      have hfaH : H fa = none := S1.free hfa
      have n1 : ∀ {b : Addr} {o : HO}, H b = some o → b ≠ fa := fun e => ne_of_none e hfaH
      have S2 := S1.trans (same_new (o := .lst []) hfa)
      have hla2 : (upd H1 fa (.lst [])) la = some (.lst ((allNames rows).map V.str)) := by rw [upd_ne nlf]; exact hla1
      refine ⟨_, rfl, la, _, rfl, .inl (SqL.of hla2), (((allNames rows).map V.str).length : Int), rfl, by omega, by rw [List.length_map]; omega, for_range (fun i σ H2 => ∃ (v2 v3 v5 : Option V) (left acc : List Str), σ = [some (.ref t), some (.ref la), v2, v3, some (.ref fa), v5] ∧ Same H H2 ∧ H2 la = some (.lst (left.map V.str)) ∧ H2 fa = some (.lst (acc.map V.str)) ∧ acc.length = i ∧ left.length + i = (allNames rows).length ∧ dueLoop rows left.length left acc = dueF rows)
        ⟨_, _, none, allNames rows, [], rfl, S2, hla2, upd_same, rfl, rfl, rfl⟩ ?_ ?_⟩
      · rintro i σ H2 hi ⟨v2, v3, v5, left, acc, rfl, S3, hla3, hfa3, hacc, hll, hdl⟩
        have hi' : i < (allNames rows).length := by simpa using hi
        refine ⟨_, rfl, _, rfl, first_sp (S3 _ _ ht) (hR.same S3) hS hla3 fun H4 S4 => ?_⟩
        have hstep : left.length = (left.length - 1) + 1 := by omega
        rw [hstep] at hdl
        unfold dueLoop at hdl
        cases e : firstFrom rows left rows with
        | none =>
          rw [e] at hdl
          refine ⟨_, rfl, rfl, _, rfl, ?_⟩
          exact qn hdl.symm H4 (S3.trans S4)
        | some n =>
          rw [e] at hdl
          obtain ⟨hnl, _⟩ := first_in e
          obtain ⟨j, hj, hno⟩ := first_at hnl
          have el := erase_length hnl
          have hla4 := S4 _ _ hla3
          have hfa4 := S4 _ _ hfa3
          refine ⟨_, rfl, rfl, _, rfl, ?_⟩
          refine ⟨_, rfl, .inl ⟨rfl, _, SqL.of hfa4⟩, _, rfl, fa, _, _, rfl, rfl, hfa4, by rw [List.length_map, sizeLine_eq]; omega, ?_⟩
          have hla5 : (upd H4 fa (.lst (acc.map V.str ++ [optV (some n)]))) la = some (.lst (left.map V.str)) := by rw [upd_ne nlf]; exact hla4
          refine ⟨_, rfl, .inl ⟨rfl, _, SqL.of hla5⟩, _, rfl, la, left, n, j, rfl, rfl, hla5, hj, hno, ?_⟩
          have S6 : Same H H4 := S3.trans S4
          refine ⟨_, _, _, left.erase n, acc ++ [n], rfl, fun b o hb => by rw [upd_ne (n0 hb), upd_ne (n1 hb)]; exact S6 b o hb, ?_, ?_, by rw [List.length_append, hacc]; rfl, by omega, ?_⟩
          · rw [upd_same, map_erase, erase_first hj hno]
          · rw [upd_ne (Ne.symm nlf), upd_same, List.map_append]; rfl
          · have : (left.erase n).length = left.length - 1 := by omega
            rw [this]; exact hdl
      · rintro σ H2 ⟨v2, v3, v5, left, acc, rfl, S3, hla3, hfa3, hacc, hll, hdl⟩
        have hl0 : left.length = 0 := by rw [List.length_map] at hll; omega
        rw [hl0] at hdl
        refine ⟨_, rfl, fa, _, rfl, .inl ⟨SqL.of hfa3, fun p hp => ?_⟩⟩
        exact qs acc hdl.symm p _ (S3.free hp) (S3.trans (same_new hp)) upd_same
end
end K13
namespace K13
open PySem L2 PySem.W HT
def strKV (nm : List (Str × Str)) : List (Key × V) := nm.map fun p => (Sum.inr p.1, V.str p.2)
def lookS (nm : List (Str × Str)) (x : Str) : Str := match nm.find? fun p => decide (p.1 = x) with | some p => p.2 | none => x
theorem val_str {nm : List (Str × Str)} {x : Str} (h : x ∈ nm.map (·.1)) : valV (strKV nm) (Sum.inr x) = some (V.str (lookS nm x)) := by
  have e : valV (strKV nm) (Sum.inr x) = (nm.find? fun p => decide (p.1 = x)).map fun p => V.str p.2 := by
    unfold valV strKV
    rw [List.find?_map, Option.map_map]
    congr 1
    congr 1
    funext p
    simp
  rw [e]
  unfold lookS
  cases e : nm.find? fun p => decide (p.1 = x) with
  | none =>
    rw [List.find?_eq_none] at e
    obtain ⟨p, hp, rfl⟩ := List.mem_map.mp h
    exact absurd (decide_eq_true rfl) (e p hp)
  | some p => rfl
def trueKV (ks : List Str) : List (Key × V) := ks.map fun k => (Sum.inr k, V.bl true)
theorem true_val (ks : List Str) (x : Str) : valV (trueKV ks) (Sum.inr x) = if x ∈ ks then some (V.bl true) else none := by
  induction ks with
  | nil => simp [trueKV, valV]
  | cons k ks ih =>
    by_cases e : k = x
    · subst e
      simp [trueKV, valV]
    · have e' : ¬ ((Sum.inr k : Key) = Sum.inr x) := fun z => e (Sum.inr.inj z)
      have step : valV (trueKV (k :: ks)) (Sum.inr x) = valV (trueKV ks) (Sum.inr x) := by
        unfold valV trueKV
        rw [List.map_cons, List.find?_cons_of_neg (by simpa using e)]
      rw [step, ih]
      have e2 : x ≠ k := fun z => e z.symm
      simp [e2]
theorem true_put (ks : List Str) (x : Str) : putK (trueKV ks) (Sum.inr x) (.bl true) = trueKV (addN ks x) := by
  by_cases h : x ∈ ks
  · unfold addN; rw [if_pos h]
    unfold putK
    rw [if_pos]
    · unfold trueKV
      rw [List.map_map]
      apply List.map_congr_left
      intro k _
      show (if (Sum.inr k : Key) = Sum.inr x then ((Sum.inr k : Key), V.bl true) else (Sum.inr k, V.bl true)) = (Sum.inr k, V.bl true)
      split <;> rfl
    · rw [List.any_eq_true]
      exact ⟨(Sum.inr x, V.bl true), List.mem_map.mpr ⟨x, h, rfl⟩, by simp⟩
  · rw [putK_new _ (by rw [true_val, if_neg h])]
    unfold addN; rw [if_neg h]
    unfold trueKV; rw [List.map_append]; rfl
theorem zip_str (ks ys : List Str) : zipKV ks (ys.map V.str) = strKV (ks.zip ys) := by
  unfold zipKV strKV
  rw [List.zip_map_right, List.map_map]; rfl
section
variable {P : Program} {w : World} {K : Frag} {mg : Str → Option Value} {base : Heap} {f : Addr} {fd : FuncData}
@[irreducible] def spRen : Sp := fun vs H Q _ => ∃ (t d : Addr) (ws : List V) (rows : List (List Str)) (nm : List (Str × Str)), vs = [.ref t, .ref d] ∧ H t = some (.tup ws) ∧ RowsV H ws rows ∧ Small rows ∧ H d = some (.dK (strKV nm)) ∧ (∀ r ∈ rows, ∀ n ∈ r, n ∈ nm.map (·.1)) ∧
  ∀ (p : Addr) (us : List V) (H' : Hp), H p = none → Same H H' → H' p = some (.tup us) → RowsV H' us (rows.map fun r => r.map (lookS nm)) → Q (.ref p) H'
theorem ren_sp {t d : Addr} {ws : List V} {rows : List (List Str)} {nm : List (Str × Str)} {H : Hp} {Q : VK} {E : XK} (ht : H t = some (.tup ws)) (hR : RowsV H ws rows) (hS : Small rows) (hd : H d = some (.dK (strKV nm))) (hn : ∀ r ∈ rows, ∀ n ∈ r, n ∈ nm.map (·.1))
    (q : ∀ (p : Addr) (us : List V) (H' : Hp), H p = none → Same H H' → H' p = some (.tup us) → RowsV H' us (rows.map fun r => r.map (lookS nm)) → Q (.ref p) H') : spRen [.ref t, .ref d] H Q E := by
  unfold spRen; exact ⟨t, d, ws, rows, nm, rfl, ht, hR, hS, hd, hn, q⟩
abbrev nRen : List Str := ["_law_rows_here", "_law_named"]
theorem scRen : FnScope nRen ["_law_rows_here", "_law_named"] (defScope sRenamed) := ⟨rfl, rfl, rfl, by decide +kernel, rfl, by decide +kernel, by decide +kernel⟩
abbrev eRn : Expr := arg0 (retV (bodyAt (defBody sRenamed) 0))
abbrev scRnO : Scope := compSc eRn
abbrev scRnI : Scope := compSc (arg0 (eltOf eRn))
theorem csRnO : CompScope nRen (defScope sRenamed) ["_law_row", "_law_named"] [none, some 1] scRnO := ⟨rfl, by decide +kernel, by decide +kernel, rfl, fv_of (by decide +kernel), by decide +kernel⟩
theorem csRnI {env : Env} : CompScope ["_law_row", "_law_named"] (relabel scRnO env) ["_law_name", "_law_named"] [none, some 1] scRnI := nest rfl (by decide +kernel) (by decide +kernel) rfl (by decide +kernel) (by decide +kernel)
theorem ndRn : (["_law_name", "_law_named"] : List Str).Nodup := by decide +kernel
theorem ok_ren (F : Fun K "_law_renamed" "_law_renamed" sRenamed f fd) (B : Blt mg) : FnOk P w K mg base CX0 1 f fd ["_law_rows_here", "_law_named"] spRen := by
  refine F.ok scRen (fun vs H Q E h => ?_) (fun cdv A outer s H vs Q E hr h => ?_)
  · unfold spRen at h; obtain ⟨t, d, ws, rows, nm, rfl, _⟩ := h; rfl
  · unfold spRen at h
    obtain ⟨t, d, ws, rows, nm, rfl, ht, hR, hS, hd, hn, q⟩ := h
    have hu := hr.units
    have hu1 : (A.deeper (PyProof.Rows.envOfC "_law_renamed" (defScope sRenamed) s.heap.objs.size f cdv)).units + 1 < cLine := by omega
    refine ⟨_, pss_one (ps_ret (pe_callTy call_tuple_of rfl B.tuple boot_tuple (pa_cons (pe_comp rfl csRnO (pi_tup (pv 0)) (fun s H fp => ⟨pg_name (i := 0) csRnO.nd rfl (Or.inl rfl), pifs_nil,
      pe_callTy (call_tuple_K K rfl) rfl B.tuple boot_tuple (pa_cons (pe_comp rfl csRnI (pi_tup_K K rfl (pv 0)) (fun s H fp => ⟨pg_name (i := 0) ndRn rfl (Or.inl rfl), pifs_nil, pe_dget hu1 (pv 1) (pv 0) (fun _ _ => rfl)⟩)) pa_nil)⟩)) pa_nil))), ?_⟩
    refine ⟨_, rfl, t, rfl, ⟨_, SqT.of ht⟩, fun a1 ha1 => ?_⟩
    refine comp_tup (xs := ws) (fun i ys τ H4 => ∃ t0 : Option V, τ = [t0, some (.ref d)] ∧ H4 a1 = some (.lst ys) ∧ Same H H4 ∧ RowsV H4 ys ((rows.take i).map fun r => r.map (lookS nm))) ⟨none, rfl, upd_same, same_new ha1, .nil⟩ (fun i ys τ H4 ⟨_, _, h1, h2, _⟩ => ⟨h1, SqT.of (h2 _ _ ht)⟩) ?_ ?_
    · rintro i x ys τ H4 hx ⟨t0, rfl, h41, S4, hR4⟩
      obtain ⟨a, r, rfl, hri, har⟩ := hR.get hx
      have hlt : i < ws.length := (List.getElem?_eq_some_iff.mp hx).1
      have tk : rows.take (i + 1) = rows.take i ++ [r] := by rw [List.take_succ, hri]; rfl
      have hrm := List.mem_of_getElem? hri
      have ha4 := S4 _ _ har
      have hd4 := S4 _ _ hd
      refine ⟨_, rfl, a, rfl, ⟨_, SqT.of ha4⟩, fun b1 hb1 => ?_⟩
      have nab : a ≠ b1 := ne_of_none ha4 hb1
      have ndb : d ≠ b1 := ne_of_none hd4 hb1
      refine comp_tup (xs := r.map V.str) (fun j zs τ' H5 => ∃ t1 : Option V, τ' = [t1, some (.ref d)] ∧ zs = ((r.take j).map (lookS nm)).map V.str ∧ H5 = upd H4 b1 (.lst zs)) ⟨none, rfl, rfl, rfl⟩ (fun j zs τ' H5 ⟨_, _, _, z⟩ => by rw [z]; exact ⟨upd_same, SqT.of (by rw [upd_ne nab]; exact ha4)⟩) ?_ ?_
      · rintro j x zs τ' H5 hx' ⟨t1, rfl, rfl, rfl⟩
        have hjl : j < (r.map V.str).length := (List.getElem?_eq_some_iff.mp hx').1
        have hjr : j < r.length := by simpa using hjl
        obtain rfl : V.str r[j] = x := by simpa [hjr] using hx'
        have tkj : r.take (j + 1) = r.take j ++ [r[j]] := by rw [List.take_succ, List.getElem?_eq_getElem hjr]; rfl
        have hv := val_str (hn r hrm _ (List.getElem_mem hjr))
        refine ⟨_, rfl, _, rfl, d, V.str (lookS nm r[j]), rfl, ?_, upd_same, ?_, cw_next hjl ⟨_, rfl, ?_, by rw [upd_upd]⟩⟩
        · rw [← hv]; exact DGet.k (k := Sum.inr r[j]) (by rw [upd_ne ndb]; exact hd4)
        · have h3 := hS.short r hrm
          rw [List.length_map, List.length_map, List.length_take, sizeLine_eq]; omega
        · rw [tkj, List.map_append, List.map_append]; rfl
      · rintro zs τ' H5 ⟨t1, rfl, rfl, rfl⟩
        rw [List.length_map, List.take_length]
        refine ⟨b1, _, rfl, .inl ⟨SqL.of upd_same, fun l hl => ?_⟩⟩
        have Sb : Same H4 _ := (same_new (o := .lst ((r.map (lookS nm)).map V.str)) hb1).trans (same_new (o := .tup ((r.map (lookS nm)).map V.str)) hl)
        have n1l : a1 ≠ l := ne_of_none ((same_new hb1) _ _ h41) hl
        refine ⟨Sb _ _ h41, ?_, cw_next hlt ⟨_, rfl, upd_same, fun b o hb => ?_, ?_⟩⟩
        · have h1 := hR4.length
          have h3 := hS.few
          rw [List.length_map, List.length_take] at h1
          rw [sizeLine_eq]; omega
        · rw [upd_ne (ne_of_none hb ha1)]; exact Sb _ _ (S4 b o hb)
        · rw [tk, List.map_append]
          refine RowsV.append (rows_keep hR4 fun b xs hb => ?_) ?_
          · rw [upd_ne (ne_of hb h41 (by intro z; cases z))]; exact Sb _ _ hb
          · rw [upd_ne (Ne.symm n1l)]; exact upd_same
    · rintro ys τ H4 ⟨t0, rfl, h41, S4, hR4⟩
      rw [hR.length, List.take_length] at hR4
      refine ⟨a1, _, rfl, .inl ⟨SqL.of h41, fun p hp => ?_⟩⟩
      exact q p ys _ (S4.free hp) (S4.trans (same_new hp)) upd_same (hR4.same (same_new hp))
end
end K13
namespace K13
open PySem L2 PySem.W HT
theorem call_len_dK {X : Cx} : CallR X (.builtin "len") (fun xs H Q => ∃ a kvs, xs = [V.ref a] ∧ H a = some (.dK kvs) ∧ Q (.int kvs.length) H) := by
  intro pins s σ H xs us Q I r ⟨a, kvs, e, ha, q⟩
  subst e
  obtain ⟨u, rfl, ru⟩ := vals1 r
  cases ru
  exact d_len I (.inl ha) fun t s' J => ⟨.int kvs.length, H, J, ⟨t, rfl⟩, q⟩
theorem addN_mem {l : List Str} {n x : Str} : x ∈ addN l n ↔ x ∈ l ∨ x = n := by
  unfold addN
  split
  next h => exact ⟨.inl, fun z => z.elim id fun z => z ▸ h⟩
  next h => simp
theorem addN_nd {l : List Str} {n : Str} (h : l.Nodup) : (addN l n).Nodup := by
  unfold addN
  split
  · exact h
  next z =>
    rw [List.nodup_append]
    exact ⟨h, by simp, fun a ha b hb => by
      have : b = n := by simpa using hb
      rw [this]; exact fun w => z (w ▸ ha)⟩
theorem addR_ok : ∀ (r l : List Str), l.Nodup → (addR l r).Nodup ∧ ∀ x, x ∈ addR l r ↔ x ∈ l ∨ x ∈ r
  | [], l, h => ⟨h, fun x => by simp [addR]⟩
  | n :: r, l, h => by
    obtain ⟨h1, h2⟩ := addR_ok r (addN l n) (addN_nd h)
    exact ⟨h1, fun x => by show x ∈ addR (addN l n) r ↔ _; rw [h2, addN_mem, List.mem_cons, or_assoc]⟩
theorem all_ok : ∀ (rows : List (List Str)) (l : List Str), l.Nodup → (rows.foldl (fun l r => r.foldl addN l) l).Nodup ∧ ∀ x, x ∈ rows.foldl (fun l r => r.foldl addN l) l ↔ x ∈ l ∨ ∃ r ∈ rows, x ∈ r
  | [], l, h => ⟨h, fun x => by simp⟩
  | r :: rows, l, h => by
    obtain ⟨h1, h2⟩ := addR_ok r l h
    obtain ⟨h3, h4⟩ := all_ok rows (addR l r) h1
    refine ⟨h3, fun x => ?_⟩
    show x ∈ rows.foldl (fun l r => r.foldl addN l) (addR l r) ↔ _
    rw [h4, h2]
    constructor
    · rintro ((h | h) | ⟨q, hq, h⟩)
      · exact .inl h
      · exact .inr ⟨r, List.mem_cons_self, h⟩
      · exact .inr ⟨q, List.mem_cons_of_mem _ hq, h⟩
    · rintro (h | ⟨q, hq, h⟩)
      · exact .inl (.inl h)
      · rcases List.mem_cons.mp hq with rfl | hq
        · exact .inl (.inr h)
        · exact .inr ⟨q, hq, h⟩
theorem all_nd (rows : List (List Str)) : (allNames rows).Nodup := (all_ok rows [] List.nodup_nil).1
theorem mem_allN (rows : List (List Str)) (x : Str) : x ∈ allNames rows ↔ ∃ r ∈ rows, x ∈ r := by
  have := (all_ok rows [] List.nodup_nil).2 x
  simpa [allNames] using this
section
variable {P : Program} {w : World} {K : Frag} {mg : Str → Option Value} {base : Heap} {f : Addr} {fd : FuncData}
@[irreducible] def spOther : Sp := fun vs H Q _ => ∃ (p t : Addr) (ws : List V) (rows : List (List Str)), vs = [.ref p, .ref t] ∧ PotOk p H ∧ H t = some (.tup ws) ∧ RowsV H ws rows ∧ Small rows ∧ (allNames rows).length ≤ 20 ∧
  ∀ (d : Addr) (ys : List Str) (H' : Hp), H d = none → PotAt p H H' → H' d = some (.dK (strKV ((allNames rows).zip ys))) → ys.length = (allNames rows).length → ys.Nodup → (∀ y ∈ ys, Nm y) → Q (.ref d) H'
theorem other_sp {p t : Addr} {ws : List V} {rows : List (List Str)} {H : Hp} {Q : VK} {E : XK} (hp : PotOk p H) (ht : H t = some (.tup ws)) (hR : RowsV H ws rows) (hS : Small rows) (hl : (allNames rows).length ≤ 20)
    (q : ∀ (d : Addr) (ys : List Str) (H' : Hp), H d = none → PotAt p H H' → H' d = some (.dK (strKV ((allNames rows).zip ys))) → ys.length = (allNames rows).length → ys.Nodup → (∀ y ∈ ys, Nm y) → Q (.ref d) H') : spOther [.ref p, .ref t] H Q E := by
  unfold spOther; exact ⟨p, t, ws, rows, rfl, hp, ht, hR, hS, hl, q⟩
abbrev nOther : List Str := ["_law_pot_here", "_law_rows_here", "_law_names_here", "_law_row", "_law_name"]
theorem scOther : FnScope nOther ["_law_pot_here", "_law_rows_here"] (defScope sOther) := ⟨rfl, rfl, rfl, by decide +kernel, rfl, by decide +kernel, by decide +kernel⟩
theorem ok_other {fD fN fS : Addr} {fdD fdN fdS : FuncData} (F : Fun K "_law_other_names" "_law_other_names" sOther f fd) (B : Blt mg) (hdict : mg "dict" = none) (hzip : mg "zip" = none) (FD : Fun K "_law_digit" "_law_digit" sDigit fD fdD) (bD : Binds K fdD ["_law_pot_here", "_law_many"] []) (mD : mg "_law_digit" = some (.ref fD))
    (FN : Fun K "_law_names" "_law_names" sNames fN fdN) (bN : Binds K fdN ["_law_pot_here", "_law_many"] []) (mN : mg "_law_names" = some (.ref fN))
    (FS : Fun K "_law_shuffled" "_law_shuffled" sShuf fS fdS) (bS : Binds K fdS ["_law_pot_here", "_law_names_here"] []) (mS : mg "_law_shuffled" = some (.ref fS)) :
    FnOk P w K mg base CX0 4 f fd ["_law_pot_here", "_law_rows_here"] spOther := by
  have GN : FnOk P w K mg base CX0 3 fN fdN ["_law_pot_here", "_law_many"] spNames := ok_names FN B FD bD mD
  have GS : FnOk P w K mg base CX0 2 fS fdS ["_law_pot_here", "_law_names_here"] spShuf := ok_shuf FS B FD bD mD
  refine F.ok scOther (fun vs H Q E h => ?_) (fun cdv A outer s H vs Q E hr h => ?_)
  · unfold spOther at h; obtain ⟨p, t, ws, rows, rfl, _⟩ := h; rfl
  · unfold spOther at h
    obtain ⟨p, t, ws, rows, rfl, hp, ht, hR, hS, hl20, q⟩ := h
    have hu := hr.units
    have hu1 : (A.deeper (PyProof.Rows.envOfC "_law_other_names" (defScope sOther) s.heap.objs.size f cdv)).units + 1 < cLine := by omega
    have hr2 : Room 2 _ := hr.mono (by decide)
    have hr3 : Room 3 _ := hr
    refine ⟨_, pss_cons (ps_set (i := 2) scOther.nd rfl (Or.inl rfl) pe_dnewK)
      (pss_cons (ps_for PassesOwn.never rfl (pi_tup (pv 1)) (pg_name (i := 3) scOther.nd rfl (Or.inl rfl))
        (pss_one (ps_for PassesOwn.never rfl (pi_tup (pv 3)) (pg_name (i := 4) scOther.nd rfl (Or.inl rfl))
          (pss_one (ps_dput hu1 (pv 2) (pv 4) pe_bl rfl)))))
      (pss_one (ps_ret (pe_dictzip rfl rfl rfl hdict hzip (pa_cons (pe_callTy (call_listD rfl) rfl B.list boot_list (pa_cons (pv 2) pa_nil))
        (pa_cons (pe_call GS hr2 rfl mS FS.kp bS .nil pass0 (pa_cons (pv 0) (pa_cons (pe_call GN hr3 rfl mN FN.kp bN .nil pass0 (pa_cons (pv 0) (pa_cons (pe_callB call_len_dK rfl B.len boot_len (pa_cons (pv 2) pa_nil)) pa_nil))) pa_nil))) pa_nil)))))), ?_⟩
    refine fun d hd => ?_
    have n0 : ∀ {b : Addr} {o : HO}, H b = some o → b ≠ d := fun e => ne_of_none e hd
    refine ⟨_, rfl, t, rfl, ⟨_, SqT.of ((same_new hd) _ _ ht)⟩, for_tup (xs := ws) (fun i σ H1 => ∃ v3 v4 : Option V, σ = [some (.ref p), some (.ref t), some (.ref d), v3, v4] ∧ Same H H1 ∧ H1 d = some (.dK (trueKV (allNames (rows.take i)))) ∧ (allNames (rows.take i)).length ≤ 20 * i)
      ⟨none, none, rfl, same_new hd, upd_same, Nat.le_refl _⟩ (fun i σ H1 _ ⟨_, _, _, z, _⟩ => SqT.of (z _ _ ht)) ?_ ?_⟩
    · rintro i x σ H1 hx ⟨v3, v4, rfl, S1, hd1, hlen⟩
      obtain ⟨a, r, rfl, hri, har⟩ := hR.get hx
      have hil : i < ws.length := (List.getElem?_eq_some_iff.mp hx).1
      have hrl := hS.short r (List.mem_of_getElem? hri)
      have hfew : i < 10 := by have := hR.length; have := hS.few; omega
      have tk : rows.take (i + 1) = rows.take i ++ [r] := by rw [List.take_succ, hri]; rfl
      refine ⟨_, rfl, a, rfl, ⟨_, SqT.of (S1 _ _ har)⟩, for_tup (xs := r.map V.str) (fun j σ H2 => ∃ v4 : Option V, σ = [some (.ref p), some (.ref t), some (.ref d), some (.ref a), v4] ∧ Same H H2 ∧ H2 d = some (.dK (trueKV (addR (allNames (rows.take i)) (r.take j)))) ∧ (addR (allNames (rows.take i)) (r.take j)).length ≤ (allNames (rows.take i)).length + j)
        ⟨_, rfl, S1, hd1, Nat.le_refl _⟩ (fun j σ H2 _ ⟨_, _, z, _⟩ => SqT.of (z _ _ har)) ?_ ?_⟩
      · rintro j x σ H2 hxj ⟨v4, rfl, S2, hd2, hl2⟩
        have hjr : j < r.length := by simpa using (List.getElem?_eq_some_iff.mp hxj).1
        obtain rfl : V.str r[j] = x := by simpa [hjr] using hxj
        have tkj : r.take (j + 1) = r.take j ++ [r[j]] := by rw [List.take_succ, List.getElem?_eq_getElem hjr]; rfl
        have hal := addN_len (addR (allNames (rows.take i)) (r.take j)) r[j]
        refine ⟨_, rfl, _, rfl, d, _, rfl, DPut.k (k := Sum.inr r[j]) hd2 (by unfold trueKV; rw [List.length_map, sizeLine_eq]; omega), ?_⟩
        refine ⟨_, rfl, fun b o hb => by rw [upd_ne (n0 hb)]; exact S2 b o hb, ?_, by rw [tkj, addR_snoc]; omega⟩
        rw [upd_same, true_put, tkj, addR_snoc]
      · rintro σ H2 ⟨v4, rfl, S2, hd2, hl2⟩
        rw [List.length_map, List.take_length] at hd2 hl2
        exact ⟨_, _, rfl, S2, by rw [tk, all_snocN]; exact hd2, by rw [tk, all_snocN]; omega⟩
    · rintro σ H1 ⟨v3, v4, rfl, S1, hd1, hlen⟩
      rw [hR.length, List.take_length] at hd1 hlen
      have hp1 : PotOk p H1 := by
        obtain ⟨x, y, e, r⟩ := hp
        exact ⟨x, y, S1 _ _ e, r⟩
      refine ⟨_, rfl, d, _, rfl, hd1, fun kl hkl => ?_⟩
      have ekl : (trueKV (allNames rows)).map (fun kv => kV kv.1) = (allNames rows).map V.str := by unfold trueKV; rw [List.map_map]; rfl
      rw [ekl]
      have p2 := (PotAt.refl hp1).new (o := .lst ((allNames rows).map V.str)) hkl
      have hd2 : (upd H1 kl (.lst ((allNames rows).map V.str))) d = some (.dK (trueKV (allNames rows))) := by rw [upd_ne (ne_of_none hd1 hkl)]; exact hd1
      have elen : ((trueKV (allNames rows)).length : Int) = (((allNames rows).length : Nat) : Int) := by unfold trueKV; rw [List.length_map]
      refine ⟨_, rfl, _, rfl, _, rfl, d, _, rfl, hd2, ?_⟩
      rw [elen]
      refine names_sp (p := p) (m := (allNames rows).length) p2.ok hl20 fun l ys H3 hl hyl hnm hnd p3 h3 => ?_
      refine shuf_sp p3.ok (p2.ok.ne hl) h3 (by omega) fun l4 zs H4 hl4 hperm p4 h4 => ?_
      have npk : p ≠ kl := hp1.ne hkl
      have hkl4 : H4 kl = some (.lst ((allNames rows).map V.str)) := p4.kp _ _ (p3.kp _ _ upd_same (Ne.symm npk)) (Ne.symm npk)
      refine ⟨kl, l4, allNames rows, zs.map V.str, rfl, hkl4, h4, all_nd rows, by rw [List.length_map, hperm.length_eq]; omega, fun dz hdz => ?_⟩
      rw [zip_str]
      have p14 : PotAt p H1 H4 := p2.trans (p3.trans p4)
      have pH : PotAt p H H4 := ⟨p14.ok, fun b o e n => p14.kp b o (S1 b o e) n⟩
      exact q dz zs _ (pH.free hdz) (pH.new hdz) upd_same (by rw [hperm.length_eq]; omega) (hperm.nodup_iff.mpr hnd) fun y hy => hnm y (hperm.mem_iff.mp hy)
end
end K13
namespace K13
open PySem L2 HT
def kept (rows : List (List Str)) (o : List Str) : Bool := rows.all fun r => decide ((o.filter fun n => decide (n ∈ r)) = r)
/-! ### pure: as in k12 -/
theorem wish_none {n : Str} : ∀ {k : Nat} {rest : List (List Str)}, wishFrom k rest n = none ↔ ∀ r ∈ rest, n ∈ r → r.head? = some n
  | k, [] => by simp [wishFrom]
  | k, [] :: rest => by
    show wishFrom (k + 1) rest n = none ↔ _
    rw [wish_none (k := k + 1) (rest := rest)]; simp
  | k, (x :: r) :: rest => by
    show (if n ∈ x :: r ∧ x ≠ n then some (k, x) else wishFrom (k + 1) rest n) = none ↔ _
    by_cases h : n ∈ x :: r ∧ x ≠ n
    · rw [if_pos h]
      constructor
      · intro z; cases z
      · intro z
        have := z _ List.mem_cons_self h.1
        exact absurd (by simpa using this) h.2
    · rw [if_neg h, wish_none (k := k + 1) (rest := rest)]
      constructor
      · intro z q hq hn
        rcases List.mem_cons.mp hq with rfl | hq
        · by_cases e : x = n
          · rw [e]; rfl
          · exact absurd ⟨hn, e⟩ h
        · exact z q hq hn
      · exact fun z q hq => z q (List.mem_cons_of_mem _ hq)
def fIdx : List (List Str) → Str → Nat
  | [], _ => 0
  | r :: rows, x => if x ∈ r then 0 else fIdx rows x + 1
theorem fIdx_le {x : Str} : ∀ {rows : List (List Str)} {i : Nat} {r : List Str}, rows[i]? = some r → x ∈ r → fIdx rows x ≤ i
  | [], i, r, h, _ => by simp at h
  | q :: rows, 0, r, h, hx => by
    obtain rfl : q = r := by simpa using h
    unfold fIdx; rw [if_pos hx]; exact Nat.le_refl _
  | q :: rows, i + 1, r, h, hx => by
    unfold fIdx
    split
    · exact Nat.zero_le _
    · have := fIdx_le (rows := rows) (i := i) (by simpa using h) hx
      omega
theorem fIdx_at {x : Str} : ∀ {rows : List (List Str)}, (∃ r ∈ rows, x ∈ r) → ∃ r, rows[fIdx rows x]? = some r ∧ x ∈ r
  | [], ⟨_, h, _⟩ => by simp at h
  | q :: rows, ⟨r, hr, hx⟩ => by
    unfold fIdx
    by_cases h : x ∈ q
    · rw [if_pos h]; exact ⟨q, rfl, h⟩
    · rw [if_neg h]
      rcases List.mem_cons.mp hr with rfl | hr
      · exact absurd hx h
      · obtain ⟨r', e, hx'⟩ := fIdx_at ⟨r, hr, hx⟩
        exact ⟨r', by simpa using e, hx'⟩
theorem fIdx_without {n x : Str} (h : x ≠ n) : ∀ rows : List (List Str), fIdx (L2.without n rows) x = fIdx rows x
  | [] => rfl
  | r :: rows => by
    show (if x ∈ r.filter (fun y => !decide (y = n)) then 0 else fIdx (L2.without n rows) x + 1) = if x ∈ r then 0 else fIdx rows x + 1
    rw [fIdx_without h rows]
    by_cases z : x ∈ r
    · rw [if_pos z, if_pos (List.mem_filter.mpr ⟨z, by simpa using h⟩)]
    · rw [if_neg z, if_neg fun y => z (List.mem_filter.mp y).1]
theorem free_first {all : List (List Str)} {n : Str} : ∀ {rest : List (List Str)}, freeFrom all rest = some n → wishFrom 0 all n = none ∧ ∃ (i : Nat) (r : List Str), rest[i]? = some r ∧ r.head? = some n ∧ ∀ (j : Nat) (q : List Str) (y : Str), rest[j]? = some q → q.head? = some y → wishFrom 0 all y = none → i ≤ j
  | [], h => by cases h
  | [] :: rest, h => by
    obtain ⟨h1, i, r, e1, e2, e3⟩ := free_first (rest := rest) h
    refine ⟨h1, i + 1, r, by simpa using e1, e2, fun j q y hj hq hy => ?_⟩
    cases j with
    | zero =>
      obtain rfl : [] = q := by simpa using hj
      simp at hq
    | succ j => have := e3 j q y (by simpa using hj) hq hy; omega
  | (x :: t) :: rest, h => by
    have h : (if (wishFrom 0 all x).isNone then some x else freeFrom all rest) = some n := h
    by_cases c : (wishFrom 0 all x).isNone = true
    · rw [if_pos c] at h
      cases h
      exact ⟨by simpa using c, 0, _, rfl, rfl, fun _ _ _ _ _ _ => Nat.zero_le _⟩
    · rw [if_neg c] at h
      obtain ⟨h1, i, r, e1, e2, e3⟩ := free_first (rest := rest) h
      refine ⟨h1, i + 1, r, by simpa using e1, e2, fun j q y hj hq hy => ?_⟩
      cases j with
      | zero =>
        obtain rfl : x :: t = q := by simpa using hj
        obtain rfl : x = y := by simpa using hq
        exact absurd (by rw [hy]; rfl) c
      | succ j => have := e3 j q y (by simpa using hj) hq hy; omega
def IsOrder (rest : List (List Str)) (q : List Str) : Prop := q.Nodup ∧ ∀ x, x ∈ q ↔ ∃ r ∈ rest, x ∈ r
theorem kept_iff {rest : List (List Str)} {q : List Str} : kept rest q = true ↔ ∀ r ∈ rest, (q.filter fun n => decide (n ∈ r)) = r := by
  unfold kept; rw [List.all_eq_true]; simp
theorem mem_without {n x : Str} {rest : List (List Str)} : (∃ r ∈ L2.without n rest, x ∈ r) ↔ x ≠ n ∧ ∃ r ∈ rest, x ∈ r := by
  constructor
  · rintro ⟨r, hr, hx⟩
    obtain ⟨q, hq, rfl⟩ := List.mem_map.mp hr
    have := List.mem_filter.mp hx
    exact ⟨by simpa using this.2, q, hq, this.1⟩
  · rintro ⟨h, q, hq, hx⟩
    exact ⟨_, List.mem_map.mpr ⟨q, hq, rfl⟩, List.mem_filter.mpr ⟨hx, by simpa using h⟩⟩
theorem any_iff {rest : List (List Str)} : (rest.any fun r => !r.isEmpty) = true ↔ ∃ r ∈ rest, ∃ x, x ∈ r := by
  rw [List.any_eq_true]
  constructor
  · rintro ⟨r, hr, e⟩
    cases r with
    | nil => simp at e
    | cons x t => exact ⟨_, hr, x, List.mem_cons_self⟩
  · rintro ⟨r, hr, x, hx⟩
    refine ⟨r, hr, ?_⟩
    cases r with
    | nil => simp at hx
    | cons y t => rfl
theorem nd_without {n : Str} {rest : List (List Str)} (h : ∀ r ∈ rest, r.Nodup) : ∀ r ∈ L2.without n rest, r.Nodup := by
  intro r hr
  obtain ⟨q, hq, rfl⟩ := List.mem_map.mp hr
  exact (h q hq).filter _
theorem sound : ∀ (m : Nat) (rest : List (List Str)), total rest = m → (∀ r ∈ rest, r.Nodup) → ∀ o, mergeG (total rest) rest = some o → IsOrder rest o ∧ kept rest o = true := by
  intro m
  induction m using Nat.strongRecOn with
  | _ m ih =>
    intro rest hm hnd o ho
    cases hA : rest.any fun r => !r.isEmpty with
    | false =>
      rw [merge_stop hA] at ho
      cases ho
      have emp : ∀ r ∈ rest, ∀ x, x ∉ r := fun r hr x hx => by
        have := any_iff.mpr ⟨r, hr, x, hx⟩
        rw [hA] at this; cases this
      refine ⟨⟨List.nodup_nil, fun x => ⟨fun h => by simp at h, fun ⟨r, hr, hx⟩ => absurd hx (emp r hr x)⟩⟩, kept_iff.mpr fun r hr => ?_⟩
      cases r with
      | nil => rfl
      | cons y t => exact absurd List.mem_cons_self (emp _ hr y)
    | true =>
      cases e : leastFree rest with
      | none => rw [merge_none hA e] at ho; cases ho
      | some n =>
        rw [merge_some hA e] at ho
        obtain ⟨o', ho', rfl⟩ := Option.map_eq_some_iff.mp ho
        have lt := total_without_lt (least_mem e)
        obtain ⟨⟨h1, h2⟩, h3⟩ := ih _ (by omega) (L2.without n rest) rfl (nd_without hnd) o' ho'
        rw [kept_iff] at h3
        have hno : n ∉ o' := fun z => ((mem_without.mp ((h2 n).mp z)).1 rfl)
        obtain ⟨hfree, _⟩ := free_first e
        rw [wish_none] at hfree
        refine ⟨⟨List.nodup_cons.mpr ⟨hno, h1⟩, fun x => ?_⟩, kept_iff.mpr fun r hr => ?_⟩
        · rw [List.mem_cons, h2, mem_without]
          constructor
          · rintro (rfl | h)
            · exact least_mem e
            · exact h.2
          · intro h
            by_cases z : x = n
            · exact .inl z
            · exact .inr ⟨z, h⟩
        · have hr' := h3 _ (List.mem_map.mpr ⟨r, hr, rfl⟩)
          have same : (o'.filter fun y => decide (y ∈ r)) = o'.filter fun y => decide (y ∈ r.filter fun y => !decide (y = n)) := by
            apply List.filter_congr
            intro y hy
            have : y ≠ n := fun z => hno (z ▸ hy)
            simp [this]
          by_cases hn : n ∈ r
          · have hh := hfree r hr hn
            cases r with
            | nil => simp at hn
            | cons z t =>
              obtain rfl : z = n := by simpa using hh
              have ht : z ∉ t := (List.nodup_cons.mp (hnd _ hr)).1
              have et : ((z :: t).filter fun y => !decide (y = z)) = t := by
                rw [List.filter_cons_of_neg (by simp)]
                exact List.filter_eq_self.mpr fun y hy => by
                  have : y ≠ z := fun w => ht (w ▸ hy)
                  simpa using this
              rw [List.filter_cons_of_pos (by simp), same, hr', et]
          · have er : (r.filter fun y => !decide (y = n)) = r := List.filter_eq_self.mpr fun y hy => by
              have : y ≠ n := fun w => hn (w ▸ hy)
              simpa using this
            rw [List.filter_cons_of_neg (by simpa using hn), same, hr', er]
theorem best : ∀ (m : Nat) (rest : List (List Str)), total rest = m → (∀ r ∈ rest, r.Nodup) → ∀ (rk : Str → Int), (∀ x, (∃ r ∈ rest, x ∈ r) → rk x = fIdx rest x) → ∀ q, IsOrder rest q → kept rest q = true →
    ∃ o, mergeG (total rest) rest = some o ∧ lexLt (q.map rk) (o.map rk) = false := by
  intro m
  induction m using Nat.strongRecOn with
  | _ m ih =>
    intro rest hm hnd rk hrk q hq hk
    obtain ⟨qnd, qmem⟩ := hq
    rw [kept_iff] at hk
    cases q with
    | nil =>
      have hA : (rest.any fun r => !r.isEmpty) = false := by
        cases hA : rest.any fun r => !r.isEmpty with
        | false => rfl
        | true =>
          obtain ⟨r, hr, x, hx⟩ := any_iff.mp hA
          exact absurd ((qmem x).mpr ⟨r, hr, hx⟩) (by simp)
      exact ⟨[], merge_stop hA, rfl⟩
    | cons x q' =>
      have hx := (qmem x).mp List.mem_cons_self
      obtain ⟨r0, hr0, hx0⟩ := hx
      have hA : (rest.any fun r => !r.isEmpty) = true := any_iff.mpr ⟨r0, hr0, x, hx0⟩
      have xfree : ∀ r ∈ rest, x ∈ r → r.head? = some x := fun r hr hxr => by
        have := hk r hr
        rw [List.filter_cons_of_pos (by simpa using hxr)] at this
        rw [← this]; rfl
      have xw : wishFrom 0 rest x = none := wish_none.mpr xfree
      cases e : leastFree rest with
      | none =>
        have hh : x ∈ heads rest := mem_heads.mpr ⟨r0, hr0, xfree r0 hr0 hx0⟩
        exact absurd xw (freeFrom_none e x hh)
      | some n =>
        obtain ⟨nw, i, r, ei, eh, first⟩ := free_first e
        have nfree := wish_none.mp nw
        have lt := total_without_lt (least_mem e)
        have hn : ∃ r ∈ rest, n ∈ r := least_mem e
        have ord' : IsOrder (L2.without n rest) ((x :: q').filter fun y => !decide (y = n)) := by
          refine ⟨qnd.filter _, fun y => ?_⟩
          rw [mem_without, List.mem_filter, qmem]
          constructor
          · rintro ⟨h1, h2⟩; exact ⟨by simpa using h2, h1⟩
          · rintro ⟨h1, h2⟩; exact ⟨h2, by simpa using h1⟩
        have kept' : kept (L2.without n rest) ((x :: q').filter fun y => !decide (y = n)) = true := by
          rw [kept_iff]
          intro s hs
          obtain ⟨s0, hs0, rfl⟩ := List.mem_map.mp hs
          have h1 := hk s0 hs0
          show List.filter (fun y => decide (y ∈ s0.filter fun y => !decide (y = n))) ((x :: q').filter fun y => !decide (y = n)) = s0.filter fun y => !decide (y = n)
          conv => rhs; rw [← h1]
          rw [List.filter_filter, List.filter_filter]
          apply List.filter_congr
          intro y _
          by_cases z : y = n
          · simp [z]
          · simp [z]
        obtain ⟨o', ho', hlex⟩ := ih _ (by omega) (L2.without n rest) rfl (nd_without hnd) rk (fun y hy => by
          obtain ⟨h1, h2⟩ := mem_without.mp hy
          rw [hrk y h2, fIdx_without h1]) _ ord' kept'
        refine ⟨n :: o', by rw [merge_some hA e, ho']; rfl, ?_⟩
        rw [List.map_cons, List.map_cons, lexLt_cons]
        by_cases z : x = n
        · subst z
          rw [if_pos rfl]
          have hxq : x ∉ q' := (List.nodup_cons.mp qnd).1
          have eq' : ((x :: q').filter fun y => !decide (y = x)) = q' := by
            rw [List.filter_cons_of_neg (by simp)]
            exact List.filter_eq_self.mpr fun y hy => by
              have : y ≠ x := fun w => hxq (w ▸ hy)
              simpa using this
          rw [eq'] at hlex
          exact hlex
        · obtain ⟨rx, erx, hxrx⟩ := fIdx_at ⟨r0, hr0, hx0⟩
          have hrx := List.mem_of_getElem? erx
          have h1 : i ≤ fIdx rest x := first _ rx x erx (xfree rx hrx hxrx) xw
          have h2 : fIdx rest n ≤ i := fIdx_le ei (List.mem_of_head? eh)
          have h3 : fIdx rest n ≠ fIdx rest x := fun w => by
            obtain ⟨rn, ern, hnrn⟩ := fIdx_at hn
            rw [w, erx] at ern
            obtain rfl := Option.some.inj ern
            have a := xfree rx hrx hxrx
            rw [nfree rx hrx hnrn] at a
            exact z (Option.some.inj a).symm
          have r1 : rk x = (fIdx rest x : Int) := hrk x ⟨r0, hr0, hx0⟩
          have r2 : rk n = (fIdx rest n : Int) := hrk n hn
          rw [if_neg (by rw [r1, r2]; omega), r1, r2]
          exact decide_eq_false (by omega)
end K13
namespace K13
open PySem L2 HT
/-! ### what is due is what is merged -/
def restr (left : List Str) (rows : List (List Str)) : List (List Str) := rows.map (inL left)
theorem behind_iff {rows : List (List Str)} {left : List Str} (hnd : ∀ r ∈ rows, r.Nodup) (x : Str) : behind rows left x = false ↔ wishFrom 0 (restr left rows) x = none := by
  rw [wish_none]
  unfold behind
  rw [List.any_eq_false]
  constructor
  · intro h q hq hx
    obtain ⟨r, hr, rfl⟩ := List.mem_map.mp hq
    have h1 := h r hr
    cases e : inL left r with
    | nil => rw [e] at hx; simp at hx
    | cons y t =>
      rw [e] at hx h1
      rcases List.mem_cons.mp hx with rfl | hx
      · rfl
      · exact absurd (by simpa using hx) h1
  · intro h r hr
    have h1 := h _ (List.mem_map.mpr ⟨r, hr, rfl⟩)
    have nd : (inL left r).Nodup := (hnd r hr).filter _
    cases e : inL left r with
    | nil => simp
    | cons y t =>
      rw [e] at h1 nd
      intro hx
      have hx : x ∈ t := by simpa using hx
      obtain rfl : y = x := by simpa using h1 (List.mem_cons_of_mem _ hx)
      exact (List.nodup_cons.mp nd).1 hx
theorem first_free {all : List (List Str)} {left : List Str} (hnd : ∀ r ∈ all, r.Nodup) : ∀ rest : List (List Str), firstFrom all left rest = freeFrom (restr left all) (restr left rest)
  | [] => rfl
  | r :: rest => by
    unfold firstFrom
    show _ = freeFrom (restr left all) (inL left r :: restr left rest)
    cases e : inL left r with
    | nil => exact first_free hnd rest
    | cons x t =>
      show (if behind all left x then firstFrom all left rest else some x) = if (wishFrom 0 (restr left all) x).isNone then some x else freeFrom (restr left all) (restr left rest)
      cases hb : behind all left x with
      | false => rw [(behind_iff hnd x).mp hb]; rfl
      | true =>
        have : wishFrom 0 (restr left all) x ≠ none := fun z => by rw [(behind_iff hnd x).mpr z] at hb; cases hb
        have hn : (wishFrom 0 (restr left all) x).isNone = false := by
          cases z : wishFrom 0 (restr left all) x with
          | none => exact absurd z this
          | some _ => rfl
        rw [hn]
        exact first_free hnd rest
theorem restr_erase {left : List Str} (nd : left.Nodup) (n : Str) (rows : List (List Str)) : restr (left.erase n) rows = L2.without n (restr left rows) := by
  unfold restr L2.without
  rw [List.map_map]
  apply List.map_congr_left
  intro r _
  show inL (left.erase n) r = (inL left r).filter fun y => !decide (y = n)
  unfold inL
  rw [List.filter_filter]
  apply List.filter_congr
  intro y _
  have : y ∈ left.erase n ↔ y ≠ n ∧ y ∈ left := nd.mem_erase_iff
  have e : decide (y ∈ left.erase n) = decide (y ≠ n ∧ y ∈ left) := decide_eq_decide.mpr this
  rw [e]
  by_cases h1 : y = n <;> simp [h1]
theorem due_loop {rows : List (List Str)} (hnd : ∀ r ∈ rows, r.Nodup) : ∀ (k : Nat) (left acc : List Str), left.length = k → left.Nodup → (∀ x ∈ left, ∃ r ∈ rows, x ∈ r) →
    dueLoop rows k left acc = (mergeG (total (restr left rows)) (restr left rows)).map (acc ++ ·)
  | 0, left, acc, hl, _, _ => by
    obtain rfl := List.eq_nil_of_length_eq_zero hl
    have hA : ((restr [] rows).any fun r => !r.isEmpty) = false := by
      unfold restr
      rw [List.any_map, List.any_eq_false]
      intro r _
      have : inL [] r = [] := by unfold inL; simp
      simp [this]
    rw [merge_stop hA]
    show some acc = some (acc ++ [])
    rw [List.append_nil]
  | k + 1, left, acc, hl, nd, hsub => by
    have hA : ((restr left rows).any fun r => !r.isEmpty) = true := by
      cases left with
      | nil => cases hl
      | cons x t =>
        obtain ⟨r, hr, hx⟩ := hsub x List.mem_cons_self
        exact any_iff.mpr ⟨inL (x :: t) r, List.mem_map.mpr ⟨r, hr, rfl⟩, x, List.mem_filter.mpr ⟨hx, by simp⟩⟩
    have ef : firstFrom rows left rows = leastFree (restr left rows) := first_free hnd rows
    show (match firstFrom rows left rows with | none => none | some n => dueLoop rows k (left.erase n) (acc ++ [n])) = _
    rw [ef]
    cases e : leastFree (restr left rows) with
    | none => rw [merge_none hA e]; rfl
    | some n =>
      have hn : n ∈ left := (first_in (ef.trans e)).1
      have el := erase_length hn
      rw [merge_some hA e, ← restr_erase nd]
      show dueLoop rows k (left.erase n) (acc ++ [n]) = _
      rw [due_loop hnd k (left.erase n) (acc ++ [n]) (by omega) (nd.erase n) fun x hx => hsub x (List.mem_of_mem_erase hx), Option.map_map]
      congr 1
      funext z
      simp
theorem restr_all (rows : List (List Str)) : restr (allNames rows) rows = rows := by
  unfold restr
  conv => rhs; rw [← List.map_id rows]
  apply List.map_congr_left
  intro r hr
  unfold inL
  exact List.filter_eq_self.mpr fun x hx => decide_eq_true ((mem_allN rows x).mpr ⟨r, hr, hx⟩)
theorem due_merge {rows : List (List Str)} (hnd : ∀ r ∈ rows, r.Nodup) : dueF rows = mergeG (total rows) rows := by
  unfold dueF
  rw [due_loop hnd _ _ _ rfl (all_nd rows) fun x hx => (mem_allN rows x).mp hx, restr_all]
  cases mergeG (total rows) rows <;> simp
/-! ### the told row, once more -/
theorem uniq_free {all : List (List Str)} {n : Str} (hn : wishFrom 0 all n = none) (hh : ∃ r ∈ all, r.head? = some n) (hu : ∀ y, wishFrom 0 all y = none → (∃ r ∈ all, r.head? = some y) → y = n) : leastFree all = some n := by
  cases e : leastFree all with
  | none => exact absurd hn (freeFrom_none e n (mem_heads.mpr hh))
  | some y =>
    obtain ⟨h1, i, r, h2, h3, _⟩ := free_first e
    rw [hu y h1 ⟨r, List.mem_of_getElem? h2, h3⟩]
theorem without_append (n : Str) (a b : List (List Str)) : L2.without n (a ++ b) = L2.without n a ++ L2.without n b := List.map_append
theorem filter_head {n : Str} {o : List Str} (h : n ∉ o) : ((n :: o).filter fun y => !decide (y = n)) = o := by
  rw [List.filter_cons_of_neg (by simp)]
  exact List.filter_eq_self.mpr fun y hy => by
    have : y ≠ n := fun w => h (w ▸ hy)
    simpa using this
theorem told_in : ∀ (m : Nat) (a b : List (List Str)) (o : List Str), total (a ++ b) = m → (∀ r ∈ a ++ b, r.Nodup) → mergeG (total (a ++ b)) (a ++ b) = some o → mergeG (total (a ++ [o] ++ b)) (a ++ [o] ++ b) = some o := by
  intro m
  induction m using Nat.strongRecOn with
  | _ m ih =>
    intro a b o hm hnd ho
    cases hA : (a ++ b).any fun r => !r.isEmpty with
    | false =>
      rw [merge_stop hA] at ho
      cases ho
      refine merge_stop ?_
      rw [List.any_append] at hA
      rw [List.any_append, List.any_append]
      obtain ⟨h1, h2⟩ := Bool.or_eq_false_iff.mp hA
      rw [h1, h2]; rfl
    | true =>
      cases e : leastFree (a ++ b) with
      | none => rw [merge_none hA e] at ho; cases ho
      | some n =>
        obtain ⟨⟨ond, omem⟩, _⟩ := sound _ _ rfl hnd o ho
        rw [merge_some hA e] at ho
        obtain ⟨o', ho', rfl⟩ := Option.map_eq_some_iff.mp ho
        have hno : n ∉ o' := (List.nodup_cons.mp ond).1
        have lt := total_without_lt (least_mem e)
        obtain ⟨nw, _⟩ := free_first e
        rw [wish_none] at nw
        have mem3 : ∀ {r : List Str}, r ∈ a ++ [n :: o'] ++ b ↔ r ∈ a ++ b ∨ r = n :: o' := fun {r} => by
          simp only [List.mem_append, List.mem_singleton]
          constructor
          · rintro ((h | h) | h)
            · exact .inl (.inl h)
            · exact .inr h
            · exact .inl (.inr h)
          · rintro ((h | h) | h)
            · exact .inl (.inl h)
            · exact .inr h
            · exact .inl (.inr h)
        have e' : leastFree (a ++ [n :: o'] ++ b) = some n := by
          refine uniq_free (wish_none.mpr fun r hr hx => ?_) ⟨n :: o', mem3.mpr (.inr rfl), rfl⟩ fun y hy hh => ?_
          · rcases mem3.mp hr with h | rfl
            · exact nw r h hx
            · rfl
          · obtain ⟨r, hr, he⟩ := hh
            have hyo : y ∈ n :: o' := by
              rcases mem3.mp hr with h | rfl
              · exact (omem y).mpr ⟨r, h, List.mem_of_head? he⟩
              · exact List.mem_of_head? he
            have := wish_none.mp hy _ (mem3.mpr (.inr rfl)) hyo
            simpa using this.symm
        have hA' : ((a ++ [n :: o'] ++ b).any fun r => !r.isEmpty) = true := any_iff.mpr ⟨n :: o', mem3.mpr (.inr rfl), n, List.mem_cons_self⟩
        rw [merge_some hA' e']
        have ew : L2.without n (a ++ [n :: o'] ++ b) = L2.without n a ++ [o'] ++ L2.without n b := by
          rw [without_append, without_append]
          congr 2
          show [(n :: o').filter fun y => !decide (y = n)] = [o']
          rw [filter_head hno]
        rw [ew]
        rw [without_append] at ho' lt
        have hnd' : ∀ r ∈ L2.without n a ++ L2.without n b, r.Nodup := by rw [← without_append]; exact nd_without hnd
        rw [ih _ (by omega) (L2.without n a) (L2.without n b) o' rfl hnd' ho']
        rfl
/-! ### a part of it, at the end -/
theorem free_is {all : List (List Str)} {n : Str} (hn : wishFrom 0 all n = none) : ∀ (rest : List (List Str)) (i : Nat) (r : List Str), rest[i]? = some r → r.head? = some n → (∀ (j : Nat) (q : List Str) (y : Str), j < i → rest[j]? = some q → q.head? = some y → wishFrom 0 all y ≠ none) → freeFrom all rest = some n
  | [], i, r, h, _, _ => by simp at h
  | q :: rest, 0, r, h, hr, _ => by
    obtain rfl : q = r := by simpa using h
    cases q with
    | nil => simp at hr
    | cons x t =>
      obtain rfl : x = n := by simpa using hr
      show (if (wishFrom 0 all x).isNone then some x else freeFrom all rest) = some x
      rw [hn]; rfl
  | q :: rest, i + 1, r, h, hr, hno => by
    have ih := free_is hn rest i r (by simpa using h) hr fun j q y hj hq hy => hno (j + 1) q y (by omega) (by simpa using hq) hy
    cases q with
    | nil => exact ih
    | cons x t =>
      show (if (wishFrom 0 all x).isNone then some x else freeFrom all rest) = some n
      have := hno 0 (x :: t) x (by omega) rfl rfl
      have hx : (wishFrom 0 all x).isNone = false := by
        cases z : wishFrom 0 all x with
        | none => exact absurd z this
        | some _ => rfl
      rw [hx]
      exact ih
theorem part_in (S : List Str) : ∀ (m : Nat) (rest : List (List Str)) (o : List Str), total rest = m → (∀ r ∈ rest, r.Nodup) → mergeG (total rest) rest = some o → mergeG (total (rest ++ [inL S o])) (rest ++ [inL S o]) = some o := by
  intro m
  induction m using Nat.strongRecOn with
  | _ m ih =>
    intro rest o hm hnd ho
    cases hA : rest.any fun r => !r.isEmpty with
    | false =>
      rw [merge_stop hA] at ho
      cases ho
      refine merge_stop ?_
      rw [List.any_append, hA]; rfl
    | true =>
      cases e : leastFree rest with
      | none => rw [merge_none hA e] at ho; cases ho
      | some n =>
        obtain ⟨⟨ond, omem⟩, _⟩ := sound _ _ rfl hnd o ho
        rw [merge_some hA e] at ho
        obtain ⟨o', ho', rfl⟩ := Option.map_eq_some_iff.mp ho
        have hno : n ∉ o' := (List.nodup_cons.mp ond).1
        have lt := total_without_lt (least_mem e)
        obtain ⟨nw, i, r, ei, eh, first⟩ := free_first e
        have nw' := wish_none.mp nw
        have il : i < rest.length := (List.getElem?_eq_some_iff.mp ei).1
        have e' : leastFree (rest ++ [inL S (n :: o')]) = some n := by
          refine free_is (wish_none.mpr fun q hq hx => ?_) _ i r (by rw [List.getElem?_append_left il]; exact ei) eh fun j q y hj hq hy hw => ?_
          · rcases List.mem_append.mp hq with h | h
            · exact nw' q h hx
            · obtain rfl : q = inL S (n :: o') := by simpa using h
              have hs : n ∈ S := by
                have := (List.mem_filter.mp hx).2
                simpa using this
              show ((n :: o').filter fun y => decide (y ∈ S)).head? = some n
              rw [List.filter_cons_of_pos (by simpa using hs)]; rfl
          · rw [List.getElem?_append_left (by omega)] at hq
            have hw' : wishFrom 0 rest y = none := wish_none.mpr fun q' hq' hx => wish_none.mp hw q' (List.mem_append_left _ hq') hx
            have := first j q y hq hy hw'
            omega
        have hA' : ((rest ++ [inL S (n :: o')]).any fun r => !r.isEmpty) = true := by rw [List.any_append, hA]; rfl
        rw [merge_some hA' e', without_append]
        have ew : L2.without n [inL S (n :: o')] = [inL S o'] := by
          show [(inL S (n :: o')).filter fun y => !decide (y = n)] = [inL S o']
          unfold inL
          rw [List.filter_filter]
          have : ((n :: o').filter fun a => !decide (a = n) && decide (a ∈ S)) = o'.filter fun y => decide (y ∈ S) := by
            rw [List.filter_cons_of_neg (by simp)]
            apply List.filter_congr
            intro y hy
            have : y ≠ n := fun w => hno (w ▸ hy)
            simp [this]
          rw [this]
        rw [ew, ih _ (by omega) (L2.without n rest) o' rfl (nd_without hnd) ho']
        rfl
theorem none_in {rows : List (List Str)} {part : List Str} (hnd : ∀ r ∈ rows, r.Nodup) (pnd : part.Nodup) (psub : ∀ x ∈ part, ∃ r ∈ rows, x ∈ r) (h : mergeG (total rows) rows = none) : mergeG (total (rows ++ [part])) (rows ++ [part]) = none := by
  cases e : mergeG (total (rows ++ [part])) (rows ++ [part]) with
  | none => rfl
  | some o =>
    have hnd' : ∀ r ∈ rows ++ [part], r.Nodup := fun r hr => by
      rcases List.mem_append.mp hr with z | z
      · exact hnd r z
      · have : r = part := by simpa using z
        rw [this]; exact pnd
    obtain ⟨⟨h1, h2⟩, h3⟩ := sound _ _ rfl hnd' o e
    rw [kept_iff] at h3
    have io : IsOrder rows o := ⟨h1, fun x => by
      rw [h2]
      constructor
      · rintro ⟨r, hr, hx⟩
        rcases List.mem_append.mp hr with z | z
        · exact ⟨r, z, hx⟩
        · have : r = part := by simpa using z
          subst this
          exact psub x hx
      · rintro ⟨r, hr, hx⟩
        exact ⟨r, List.mem_append_left _ hr, hx⟩⟩
    obtain ⟨o2, ho2, _⟩ := best _ rows rfl hnd (fun x => fIdx rows x) (fun _ _ => rfl) o io (kept_iff.mpr fun r hr => h3 r (List.mem_append_left _ hr))
    rw [h] at ho2; cases ho2
/-! ### other names -/
def InjOn (f : Str → Str) (rows : List (List Str)) : Prop := ∀ x y, (∃ r ∈ rows, x ∈ r) → (∃ r ∈ rows, y ∈ r) → f x = f y → x = y
def ren (f : Str → Str) (rows : List (List Str)) : List (List Str) := rows.map fun r => r.map f
theorem ren_wish {f : Str → Str} {all : List (List Str)} (h : InjOn f all) {x : Str} (hx : ∃ r ∈ all, x ∈ r) : wishFrom 0 (ren f all) (f x) = none ↔ wishFrom 0 all x = none := by
  rw [wish_none, wish_none]
  constructor
  · intro z r hr hxr
    have := z _ (List.mem_map.mpr ⟨r, hr, rfl⟩) (List.mem_map.mpr ⟨x, hxr, rfl⟩)
    cases r with
    | nil => simp at hxr
    | cons y t =>
      have e : f y = f x := by simpa using this
      rw [h y x ⟨y :: t, hr, List.mem_cons_self⟩ hx e]; rfl
  · intro z q hq hxq
    obtain ⟨r, hr, rfl⟩ := List.mem_map.mp hq
    obtain ⟨y, hy, e⟩ := List.mem_map.mp hxq
    have hyx := h y x ⟨r, hr, hy⟩ hx e
    subst hyx
    have := z r hr hy
    cases r with
    | nil => simp at hy
    | cons w t =>
      obtain rfl : w = y := by simpa using this
      rfl
theorem ren_free {f : Str → Str} {all : List (List Str)} (h : InjOn f all) : ∀ rest : List (List Str), (∀ r ∈ rest, r ∈ all) → freeFrom (ren f all) (ren f rest) = (freeFrom all rest).map f
  | [], _ => rfl
  | [] :: rest, hs => ren_free h rest fun r hr => hs r (List.mem_cons_of_mem _ hr)
  | (x :: t) :: rest, hs => by
    have ih := ren_free h rest fun r hr => hs r (List.mem_cons_of_mem _ hr)
    show (if (wishFrom 0 (ren f all) (f x)).isNone then some (f x) else freeFrom (ren f all) (ren f rest)) = (if (wishFrom 0 all x).isNone then some x else freeFrom all rest).map f
    have hw := ren_wish h (x := x) ⟨x :: t, hs _ List.mem_cons_self, List.mem_cons_self⟩
    cases z : wishFrom 0 all x with
    | none => rw [hw.mpr z]; rfl
    | some q =>
      have : wishFrom 0 (ren f all) (f x) ≠ none := fun w => by rw [hw.mp w] at z; cases z
      cases z2 : wishFrom 0 (ren f all) (f x) with
      | none => exact absurd z2 this
      | some _ => exact ih
theorem ren_without {f : Str → Str} {rows : List (List Str)} (h : InjOn f rows) {n : Str} (hn : ∃ r ∈ rows, n ∈ r) : L2.without (f n) (ren f rows) = ren f (L2.without n rows) := by
  unfold L2.without ren
  rw [List.map_map, List.map_map]
  apply List.map_congr_left
  intro r hr
  show (r.map f).filter (fun y => !decide (y = f n)) = (r.filter fun y => !decide (y = n)).map f
  rw [List.filter_map]
  congr 1
  apply List.filter_congr
  intro y hy
  have : f y = f n ↔ y = n := ⟨fun e => h y n ⟨r, hr, hy⟩ hn e, fun e => by rw [e]⟩
  show (!decide (f y = f n)) = !decide (y = n)
  rw [decide_eq_decide.mpr this]
theorem ren_total (f : Str → Str) (rows : List (List Str)) : total (ren f rows) = total rows := by
  unfold total ren
  rw [List.map_map]
  congr 1
  apply List.map_congr_left
  intro r _
  exact List.length_map ..
theorem ren_any (f : Str → Str) (rows : List (List Str)) : ((ren f rows).any fun r => !r.isEmpty) = rows.any fun r => !r.isEmpty := by
  unfold ren
  rw [List.any_map]
  congr 1
  funext r
  cases r <;> rfl
theorem ren_merge {f : Str → Str} : ∀ (m : Nat) (rows : List (List Str)), total rows = m → InjOn f rows → mergeG (total (ren f rows)) (ren f rows) = (mergeG (total rows) rows).map (List.map f) := by
  intro m
  induction m using Nat.strongRecOn with
  | _ m ih =>
    intro rows hm h
    have ea := ren_any f rows
    cases hA : rows.any fun r => !r.isEmpty with
    | false => rw [merge_stop hA, merge_stop (ea.trans hA)]; rfl
    | true =>
      have el : leastFree (ren f rows) = (leastFree rows).map f := ren_free h rows fun _ hr => hr
      cases e : leastFree rows with
      | none =>
        rw [e] at el
        rw [merge_none hA e, merge_none (ea.trans hA) el]; rfl
      | some n =>
        rw [e] at el
        have lt := total_without_lt (least_mem e)
        rw [merge_some hA e, merge_some (ea.trans hA) el, ren_without h (least_mem e)]
        have hi : InjOn f (L2.without n rows) := fun x y hx hy => h x y (mem_without.mp hx).2 (mem_without.mp hy).2
        rw [ih _ (by omega) (L2.without n rows) rfl hi, Option.map_map, Option.map_map]
        congr 1
end K13
namespace K13
open PySem L2 PySem.W HT
theorem boot_min : bootBuiltins "min" = some (.builtin "min") := by decide +kernel
theorem boot_repr : bootBuiltins "repr" = some (.builtin "repr") := by decide +kernel
section
variable {P : Program} {w : World} {K : Frag} {mg : Str → Option Value} {base : Heap} {f : Addr} {fd : FuncData}
theorem pot_sp {a : Addr} {ns : List Int} {k : Int} {H : Hp} {Q : VK} {E : XK} (h : SqL K H a (ns.map V.int)) (k0 : 0 ≤ k) (k1 : k ≤ 100) (hl : ns.length ≤ 63) (q : ∀ p H', H p = none → PotOk p H' → Same H H' → Q (.ref p) H') : spPot K [.ref a, .int k] H Q E := by
  unfold spPot
  exact ⟨a, ns, k, rfl, h, k0, k1, hl, fun p x y hp x0 y0 y1 => q p _ hp ⟨x, y, upd_same, x0, y0, y1⟩ (same_new hp)⟩
theorem sqL_same {H H' : Hp} {a : Addr} {xs : List V} (h : SqL K H a xs) (s : Same H H') : SqL K H' a xs := by
  rcases h with (h | ⟨o, h⟩) | h
  · exact .inl (.inl (s _ _ h))
  · exact .inl (.inr ⟨o, s _ _ h⟩)
  · exact .inr h
theorem pot_same {p : Addr} {H H' : Hp} (h : PotOk p H) (s : Same H H') : PotAt p H H' := by
  obtain ⟨x, y, e, r⟩ := h
  exact ⟨⟨x, y, s _ _ e, r⟩, fun b o e _ => s b o e⟩
theorem keepT {p a : Addr} {H H' : Hp} {xs : List V} (h : PotOk p H) (q : PotAt p H H') (e : H a = some (.tup xs)) : H' a = some (.tup xs) := by
  obtain ⟨x, y, ep, _⟩ := h
  exact q.kp _ _ e (ne_of e ep (by intro z; cases z))
theorem keepD {p a : Addr} {H H' : Hp} {kvs : List (Key × V)} (h : PotOk p H) (q : PotAt p H H') (e : H a = some (.dK kvs)) : H' a = some (.dK kvs) := by
  obtain ⟨x, y, ep, _⟩ := h
  exact q.kp _ _ e (ne_of e ep (by intro z; cases z))
theorem keepR {p : Addr} {H H' : Hp} {ws : List V} {rows : List (List Str)} (h : PotOk p H) (q : PotAt p H H') (e : RowsV H ws rows) : RowsV H' ws rows := rows_keep e fun _ _ z => keepT h q z
theorem strs_data : ∀ {xs : List Str}, (∀ x ∈ xs, Nm x) → PyData.showableAll (xs.map PyData.str) = true ∧ PyData.hasDictAll (xs.map PyData.str) = false ∧ PyData.leavesShortAll 13 (xs.map PyData.str) = true ∧ PyData.bulkAll (xs.map PyData.str) ≤ 25 * xs.length
  | [], _ => ⟨rfl, rfl, rfl, Nat.zero_le _⟩
  | x :: xs, h => by
    obtain ⟨h1, h2, h3, h4⟩ := strs_data (xs := xs) fun y hy => h y (List.mem_cons_of_mem _ hy)
    have hx := h x List.mem_cons_self
    have z1 : x.cps.size ≤ 8 := hx.hi
    refine ⟨?_, ?_, ?_, ?_⟩
    · simp only [List.map_cons, PyData.showableAll, PyData.showable, h1, Bool.and_true]
    · simp only [List.map_cons, PyData.hasDictAll, PyData.hasDict, h2, Bool.or_false]
    · simp only [List.map_cons, PyData.leavesShortAll, PyData.leavesShort, h3, nm_leaves hx, Bool.and_true]
    · simp only [List.map_cons, PyData.bulkAll, PyData.bulk, List.length_cons]; omega
theorem tup_shown {xs : List Str} (h : ∀ x ∈ xs, Nm x) (hl : xs.length ≤ 20) : (PyData.tuple (xs.map PyData.str)).showable = true ∧ (PyData.tuple (xs.map PyData.str)).hasDict = false ∧ (PyData.tuple (xs.map PyData.str)).depth ≤ 50 ∧ (PyData.tuple (xs.map PyData.str)).shown.length ≤ 100000 := by
  obtain ⟨h1, h2, h3, h4⟩ := strs_data h
  refine ⟨by simp only [PyData.showable, h1], by simp only [PyData.hasDict, h2], by simp only [PyData.depth, strs_depth]; decide, ?_⟩
  have := PyData.shown_le_bulk 13 (by decide) (.tuple (xs.map PyData.str)) (by simp only [PyData.leavesShort, h3])
  simp only [PyData.bulk] at this
  omega
theorem rows_take {H : Hp} : ∀ {ws : List V} {rows : List (List Str)} (k : Nat), RowsV H ws rows → RowsV H (ws.take k) (rows.take k)
  | _, _, 0, _ => .nil
  | _, _, _ + 1, .nil => .nil
  | _, _, k + 1, .cons p t => .cons p (rows_take k t)
theorem rows_drop {H : Hp} : ∀ {ws : List V} {rows : List (List Str)} (k : Nat), RowsV H ws rows → RowsV H (ws.drop k) (rows.drop k)
  | _, _, 0, h => h
  | _, _, _ + 1, .nil => .nil
  | _, _, k + 1, .cons _ t => rows_drop k t
theorem rows_two {H : Hp} : ∀ {vs ws : List V} {r q : List (List Str)}, RowsV H vs r → RowsV H ws q → RowsV H (vs ++ ws) (r ++ q)
  | _, _, _, _, .nil, h => h
  | _, _, _, _, .cons p t, h => .cons p (rows_two t h)
theorem look_at : ∀ {ks ys : List Str} {i : Nat} {x y : Str}, ks.Nodup → ks[i]? = some x → ys[i]? = some y → lookS (ks.zip ys) x = y
  | [], _, i, x, y, _, h, _ => by simp at h
  | _ :: _, [], i, x, y, _, _, h => by simp at h
  | k :: ks, w :: ys, 0, x, y, _, h1, h2 => by
    obtain rfl : k = x := by simpa using h1
    obtain rfl : w = y := by simpa using h2
    unfold lookS
    rw [List.zip_cons_cons, List.find?_cons_of_pos (by simp)]
  | k :: ks, w :: ys, i + 1, x, y, nd, h1, h2 => by
    have h1' : ks[i]? = some x := by simpa using h1
    have hne : k ≠ x := fun z => (List.nodup_cons.mp nd).1 (z ▸ List.mem_of_getElem? h1')
    have ih := look_at (List.nodup_cons.mp nd).2 h1' (by simpa using h2)
    unfold lookS at ih ⊢
    rw [List.zip_cons_cons, List.find?_cons_of_neg (by simpa using hne)]
    exact ih
theorem look_inj {ks ys : List Str} (hk : ks.Nodup) (hy : ys.Nodup) (hl : ys.length = ks.length) {a b : Str} (ha : a ∈ ks) (hb : b ∈ ks) (e : lookS (ks.zip ys) a = lookS (ks.zip ys) b) : a = b := by
  obtain ⟨i, hi, rfl⟩ := List.getElem_of_mem ha
  obtain ⟨j, hj, rfl⟩ := List.getElem_of_mem hb
  have ei := look_at hk (List.getElem?_eq_getElem hi) (List.getElem?_eq_getElem (show i < ys.length by omega))
  have ej := look_at hk (List.getElem?_eq_getElem hj) (List.getElem?_eq_getElem (show j < ys.length by omega))
  rw [ei, ej] at e
  have hij : i = j := (List.getElem_inj hy).mp e
  subst hij; rfl
theorem look_nm {ks ys : List Str} (hk : ks.Nodup) (hl : ys.length = ks.length) (hn : ∀ y ∈ ys, Nm y) {a : Str} (ha : a ∈ ks) : Nm (lookS (ks.zip ys) a) := by
  obtain ⟨i, hi, rfl⟩ := List.getElem_of_mem ha
  rw [look_at hk (List.getElem?_eq_getElem hi) (List.getElem?_eq_getElem (show i < ys.length by omega))]
  exact hn _ (List.getElem_mem _)
/-- the block [x for x in row if x in part], part a tuple -/
theorem comp_inT {K : Frag} {a l p : Addr} {r left : List Str} {H : Hp} {Q : VK} (ha : H a = some (.tup (r.map V.str))) (hl : H l = some (.tup (left.map V.str))) (hp : H p = none) (hs : r.length ≤ 20)
    (q : Q (.ref p) (upd H p (.lst ((inL left r).map V.str)))) :
    CompW (Itt K a) (gName 0) (tTest (tOp (rIn K false) (tVar 0) (tVar 1))) (tVar 0) [none, some (.ref l)] Q p H := by
  have nap : a ≠ p := ne_of_none ha hp
  have nlp : l ≠ p := ne_of_none hl hp
  refine comp_tup (xs := r.map V.str) (fun j zs τ H2 => ∃ t1 : Option V, τ = [t1, some (.ref l)] ∧ zs = (inL left (r.take j)).map V.str ∧ H2 = upd H p (.lst zs)) ⟨none, rfl, rfl, rfl⟩ (fun j zs τ H2 ⟨_, _, _, z⟩ => by rw [z]; exact ⟨upd_same, SqT.of (by rw [upd_ne nap]; exact ha)⟩) ?_ ?_
  · rintro j x zs τ H2 hx ⟨t1, rfl, rfl, rfl⟩
    have hjl : j < (r.map V.str).length := (List.getElem?_eq_some_iff.mp hx).1
    have hjr : j < r.length := by simpa using hjl
    obtain rfl : V.str r[j] = x := by simpa [hjr] using hx
    have tkj : r.take (j + 1) = r.take j ++ [r[j]] := by rw [List.take_succ, List.getElem?_eq_getElem hjr]; rfl
    refine ⟨_, rfl, _, rfl, l, _, rfl, .inr (SqT.of (by rw [upd_ne nlp]; exact hl)), rfl, flat_strs _, _, rfl, ?_⟩
    rw [if_neg Bool.false_ne_true, inV_strs]
    refine ite2 (fun hin => ?_) (fun hin => ?_)
    · refine ⟨_, rfl, upd_same, ?_, cw_next hjl ⟨_, rfl, ?_, by rw [upd_upd]⟩⟩
      · have h1 := List.length_filter_le (fun n => decide (n ∈ left)) (r.take j)
        have h2 : (r.take j).length ≤ r.length := by rw [List.length_take]; omega
        unfold inL
        rw [List.length_map, sizeLine_eq]; omega
      · unfold inL
        rw [tkj, List.filter_append, List.map_append, List.filter_cons_of_pos (p := fun n => decide (n ∈ left)) (by simpa using hin)]; rfl
    · refine cw_next hjl ⟨_, rfl, ?_, rfl⟩
      unfold inL
      rw [tkj, List.filter_append, List.filter_cons_of_neg (p := fun n => decide (n ∈ left)) (by simpa using hin), List.filter_nil, List.append_nil]
  · rintro zs τ H2 ⟨t1, rfl, rfl, rfl⟩
    rw [List.length_map, List.take_length]
    exact q
theorem ite_ff {A B : Prop} {k : Bool} (hk : k = false) (h : B) : if k = true then A else B := by subst hk; exact h
/-- the block [x for x in names if digit(pot, 2) == 0] -/
theorem comp_part {K : Frag} {kl p ca : Addr} {ks : List Str} {H : Hp} {Q : VK} (hkl : H kl = some (.lst (ks.map V.str))) (pk : PotOk p H) (npk : p ≠ kl) (hca : H ca = none) (hks : ks.length ≤ 20)
    (q : ∀ (rs : List Str) (H' : Hp), rs.Sublist ks → PotAt p H H' → H' ca = some (.lst (rs.map V.str)) → Q (.ref ca) H') :
    CompW (Itl K kl) (gName 0) (tTest (tOp rEq (tCall spDigit [] E0 (tCons (tVar 1) (tCons (tC (V.int 2)) tNil))) (tC (V.int 0)))) (tVar 0) [none, some (.ref p)] Q ca H := by
  have npc : p ≠ ca := pk.ne hca
  refine comp_list (xs := ks.map V.str) (fun j ys τ H8 => ∃ (t0 : Option V) (rs : List Str), ys = rs.map V.str ∧ τ = [t0, some (.ref p)] ∧ rs.Sublist (ks.take j) ∧ PotAt p H H8 ∧ H8 ca = some (.lst ys)) ⟨none, [], rfl, rfl, List.nil_sublist _, (PotAt.refl pk).new hca, upd_same⟩ (fun j ys τ H8 ⟨_, rs, _, _, _, p8, h8⟩ => ⟨h8, SqL.of (p8.kp _ _ hkl (Ne.symm npk))⟩) ?_ ?_
  · rintro j x ys τ H8 hx ⟨t0, rs, rfl, rfl, hsub, p8, h8⟩
    have hjl : j < (ks.map V.str).length := (List.getElem?_eq_some_iff.mp hx).1
    have hjr : j < ks.length := by simpa using hjl
    obtain rfl : V.str ks[j] = x := by simpa [hjr] using hx
    have tkj : ks.take (j + 1) = ks.take j ++ [ks[j]] := by rw [List.take_succ, List.getElem?_eq_getElem hjr]; rfl
    have rl : rs.length ≤ 20 := by have := hsub.length_le; rw [List.length_take] at this; omega
    refine ⟨_, rfl, digit_sp (p := p) (m := 2) p8.ok (by decide) (by decide) fun d H9 d0 d1 p9 => ⟨rfl, _, rfl, ?_⟩⟩
    have h9 := p9.kp _ _ h8 (Ne.symm npc)
    refine ite2 (fun hb => ?_) (fun hb => ?_)
    · refine ⟨_, rfl, h9, by rw [List.length_map, sizeLine_eq]; omega, cw_next hjl ⟨_, rs ++ [ks[j]], by rw [List.map_append]; rfl, rfl, ?_, (p8.trans p9).write hca npc, upd_same⟩⟩
      rw [tkj]; exact hsub.append (List.Sublist.refl _)
    · refine cw_next hjl ⟨_, rs, rfl, rfl, ?_, p8.trans p9, h9⟩
      rw [tkj]; exact hsub.trans (List.sublist_append_left _ _)
  · rintro ys τ H8 ⟨t0, rs, rfl, rfl, hsub, p8, h8⟩
    rw [List.length_map, List.take_length] at hsub
    exact q rs H8 hsub p8 h8
@[irreducible] def spLaw (K : Frag) : Sp := fun vs H Q _ => ∃ (a : Addr) (ns : List Int), vs = [.ref a] ∧ SqL K H a (ns.map V.int) ∧ ns.length ≤ 63 ∧ ∀ H', Q (.bl true) H'
abbrev nLaw : List Str := ["_law_script", "_law_k", "_law_pot_here", "_law_at", "_law_rows_here", "_law_named", "_law_told_here", "_law_part"]
theorem scLaw : FnScope nLaw ["_law_script"] (defScope sLaw) := ⟨rfl, rfl, rfl, by decide +kernel, rfl, by decide +kernel, by decide +kernel⟩
def ifBody2 (s : Stmt) : List Stmt := match s with | .If _ b _ _ => b | _ => []
abbrev scL1 : Scope := compSc (arg0 (asgV (bodyAt (forBody (bodyAt (defBody sLaw) 0)) 6)))
abbrev scL2 : Scope := compSc (arg0 (asgV (bodyAt (ifBody2 (bodyAt (forBody (bodyAt (defBody sLaw) 0)) 7)) 0)))
theorem csL1 : CompScope nLaw (defScope sLaw) ["_law_name", "_law_pot_here"] [none, some 2] scL1 := ⟨rfl, by decide +kernel, by decide +kernel, rfl, fv_of (by decide +kernel), by decide +kernel⟩
theorem csL2 : CompScope nLaw (defScope sLaw) ["_law_name", "_law_part"] [none, some 7] scL2 := ⟨rfl, by decide +kernel, by decide +kernel, rfl, fv_of (by decide +kernel), by decide +kernel⟩
theorem ok_law {fP fD fRo fOt fT fDu fRe : Addr} {dP dD dRo dOt dT dDu dRe : FuncData} (F : Fun K "law" "law" sLaw f fd) (B : Blt mg) (hrepr : mg "repr" = none)
    (GP : FnOk P w K mg base CX0 1 fP dP ["_law_script", "_law_k"] (spPot K)) (kP : keepIn K (.ref fP) = true) (bP : Binds K dP ["_law_script", "_law_k"] []) (mP : mg "_law_pot" = some (.ref fP))
    (GD : FnOk P w K mg base CX0 1 fD dD ["_law_pot_here", "_law_many"] spDigit) (kD : keepIn K (.ref fD) = true) (bD : Binds K dD ["_law_pot_here", "_law_many"] []) (mD : mg "_law_digit" = some (.ref fD))
    (GRo : FnOk P w K mg base CX0 4 fRo dRo ["_law_pot_here", "_law_most_names", "_law_most_rows"] spRows) (kRo : keepIn K (.ref fRo) = true) (bRo : Binds K dRo ["_law_pot_here", "_law_most_names", "_law_most_rows"] []) (mRo : mg "_law_rows" = some (.ref fRo))
    (GO : FnOk P w K mg base CX0 4 fOt dOt ["_law_pot_here", "_law_rows_here"] spOther) (kO : keepIn K (.ref fOt) = true) (bO : Binds K dOt ["_law_pot_here", "_law_rows_here"] []) (mO : mg "_law_other_names" = some (.ref fOt))
    (GT : FnOk P w K mg base CX0 4 fT dT ["_law_rows_here"] spTold) (kT : keepIn K (.ref fT) = true) (bT : Binds K dT ["_law_rows_here"] []) (mT : mg "_law_told" = some (.ref fT))
    (GDu : FnOk P w K mg base CX0 3 fDu dDu ["_law_rows_here"] spDue) (kDu : keepIn K (.ref fDu) = true) (bDu : Binds K dDu ["_law_rows_here"] []) (mDu : mg "_law_due" = some (.ref fDu))
    (GRe : FnOk P w K mg base CX0 1 fRe dRe ["_law_rows_here", "_law_named"] spRen) (kRe : keepIn K (.ref fRe) = true) (bRe : Binds K dRe ["_law_rows_here", "_law_named"] []) (mRe : mg "_law_renamed" = some (.ref fRe)) :
    FnOk P w K mg base CX0 5 f fd ["_law_script"] (spLaw K) := by
  refine F.ok scLaw (fun vs H Q E h => ?_) (fun cdv A outer s H vs Q E hr h => ?_)
  · unfold spLaw at h; obtain ⟨a, ns, rfl, _⟩ := h; rfl
  · unfold spLaw at h
    obtain ⟨a, ns, rfl, hS, hns, q⟩ := h
    have hu := hr.units
    have hg := hr.gd
    have hr4 : Room 4 _ := hr
    have hr3 : Room 3 _ := hr.mono (by decide)
    have hr1 : Room 1 _ := hr.mono (by decide)
    refine ⟨_, pss_cons (ps_for PassesOwn.never rfl (pi_range1 rfl B.range (pa_cons (pe_callB (call_max2 rfl) rfl B.max boot_max (pa_cons pe_int (pa_cons (pe_callB (call_min2 rfl) rfl B.min boot_min (pa_cons pe_int (pa_cons (pe_callB call_len_seq rfl B.len boot_len (pa_cons (pv 0) pa_nil)) pa_nil))) pa_nil))) pa_nil)) (pg_name (i := 1) scLaw.nd rfl (Or.inl rfl))
        (pss_cons (ps_set (i := 2) scLaw.nd rfl (Or.inr rfl) (pe_call GP hr1 rfl mP kP bP .nil pass0 (pa_cons (pv 0) (pa_cons (pv 1) pa_nil))))
        (pss_cons (ps_set (i := 3) scLaw.nd rfl (Or.inl rfl) (pe_call GD hr1 rfl mD kD bD .nil pass0 (pa_cons (pv 2) (pa_cons pe_int pa_nil))))
        (pss_cons (ps_set (i := 4) scLaw.nd rfl (Or.inl rfl) (pe_call GRo hr4 rfl mRo kRo bRo .nil pass0 (pa_cons (pv 2) (pa_cons pe_int (pa_cons pe_int pa_nil)))))
        (pss_cons (ps_set (i := 5) scLaw.nd rfl (Or.inl rfl) (pe_call GO hr4 rfl mO kO bO .nil pass0 (pa_cons (pv 2) (pa_cons (pv 4) pa_nil))))
        (pss_cons (ps_set (i := 6) scLaw.nd rfl (Or.inl rfl) (pe_call GT hr4 rfl mT kT bT .nil pass0 (pa_cons (pv 4) pa_nil)))
        (pss_cons (ps_if (pt_cmpR op_ne (pe_callB (call_reprD hu hg) rfl hrepr boot_repr (pa_cons (pv 6) pa_nil)) (pe_callB (call_reprD hu hg) rfl hrepr boot_repr (pa_cons (pe_call GDu hr3 rfl mDu kDu bDu .nil pass0 (pa_cons (pv 4) pa_nil)) pa_nil)) (nomark _)) (pss_one (ps_ret pe_bl)) pss_nil)
        (pss_cons (ps_set (i := 7) scLaw.nd rfl (Or.inr rfl) (pe_callTy call_tuple_of rfl B.tuple boot_tuple (pa_cons (pe_comp rfl csL1 (pi_list (pe_callTy (call_listD rfl) rfl B.list boot_list (pa_cons (pv 5) pa_nil))) (fun s H fp => ⟨pg_name (i := 0) csL1.nd rfl (Or.inl rfl), pifs_one (pt_cmpR op_eq (pe_call GD hr1 rfl mD kD bD .nil pass0 (pa_cons (pv 1) (pa_cons pe_int pa_nil))) pe_int (nomark _)), pv 0⟩)) pa_nil)))
        (pss_one (ps_if (pt_cmpR op_notN (pv 6) pe_non (nomark _))
          (pss_cons (ps_set (i := 7) scLaw.nd rfl (Or.inr rfl) (pe_callTy call_tuple_of rfl B.tuple boot_tuple (pa_cons (pe_comp rfl csL2 (pi_tup (pv 6)) (fun s H fp => ⟨pg_name (i := 0) csL2.nd rfl (Or.inl rfl), pifs_one (pt_cmpR (op_in_K K rfl) (pv 0) (pv 1) rfl), pv 0⟩)) pa_nil)))
          (pss_cons (ps_if (PW.pt (pw_or (pt_cmpR (op_neD hu) (pe_call GT hr4 rfl mT kT bT .nil pass0 (pa_cons (pe_op op_catA (pe_op op_catA (pe_slice sl_tupA (pv 4) po_none (po_some (pv 3))) (pe_tup (pa_cons (pv 6) pa_nil))) (pe_slice sl_tupA (pv 4) (po_some (pv 3)) po_none)) pa_nil)) (pv 6) (nomark _)) (pw_or1 (pt_cmpR (op_neD hu) (pe_call GT hr4 rfl mT kT bT .nil pass0 (pa_cons (pe_op op_catA (pv 4) (pe_tup (pa_cons (pv 7) pa_nil))) pa_nil)) (pv 6) (nomark _))))) (pss_one (ps_ret pe_bl)) pss_nil)
          (pss_one (ps_if (pt_cmpR (op_neD hu) (pe_call GT hr4 rfl mT kT bT .nil pass0 (pa_cons (pe_call GRe hr1 rfl mRe kRe bRe .nil pass0 (pa_cons (pv 4) (pa_cons (pv 5) pa_nil))) pa_nil)) (pe_ix ix_tup (pe_call GRe hr1 rfl mRe kRe bRe .nil pass0 (pa_cons (pe_tup (pa_cons (pv 6) pa_nil)) (pa_cons (pv 5) pa_nil))) pe_int (fun _ _ => rfl)) (nomark _)) (pss_one (ps_ret pe_bl)) pss_nil))))
          (pss_one (ps_if (PW.pt (pw_or (pt_cmpR op_notN (pe_call GT hr4 rfl mT kT bT .nil pass0 (pa_cons (pe_call GRe hr1 rfl mRe kRe bRe .nil pass0 (pa_cons (pv 4) (pa_cons (pv 5) pa_nil))) pa_nil)) pe_non (nomark _)) (pw_or1 (pt_cmpR op_notN (pe_call GT hr4 rfl mT kT bT .nil pass0 (pa_cons (pe_op op_catA (pv 4) (pe_tup (pa_cons (pv 7) pa_nil))) pa_nil)) pe_non (nomark _))))) (pss_one (ps_ret pe_bl)) pss_nil))))))))))))
      (pss_one (ps_ret pe_bl)), ?_⟩
    refine ⟨_, rfl, a, _, rfl, .inl hS, _, _, rfl, _, _, rfl, _, rfl, ?_, ?_, for_range (fun i σ H1 => ∃ v1 v2 v3 v4 v5 v6 v7 : Option V, σ = [some (.ref a), v1, v2, v3, v4, v5, v6, v7] ∧ Same H H1) ⟨none, none, none, none, none, none, none, rfl, Same.refl _⟩ ?_ ?_⟩
    · split <;> omega
    · split <;> (try split) <;> omega
    · rintro i σ H1 hi ⟨v1, v2, v3, v4, v5, v6, v7, rfl, S1⟩
      have hi4 : i < 4 := by
        refine Nat.lt_of_lt_of_le hi ?_
        split <;> (try split) <;> omega
      refine ⟨_, rfl, _, rfl, pot_sp (sqL_same hS S1) (by omega) (by omega) hns fun p H2 hp pk S2 => ?_⟩
      refine ⟨_, rfl, digit_sp (p := p) (m := 6) pk (by decide) (by decide) fun at_ H3 a0 a1 p3 => ?_⟩
      refine ⟨_, rfl, rows_sp (mn := 8) (mr := 5) p3.ok (by decide) (by decide) fun t ws nn rows H4 ht p4 ht4 hR4 hl1 hl2 hok => ?_⟩
      have hsub : ∀ r ∈ rows, r.length ≤ 8 := fun r hr => Nat.le_trans (few_of (hok.rd r hr) (hok.sub r hr)) hl2
      have hSm : Small rows := ⟨by omega, fun r hr => Nat.le_trans (hsub r hr) (by decide), fun r hr n hn => hok.nm n (hok.sub r hr n hn)⟩
      have hallS : ∀ n ∈ allNames rows, n ∈ nn := fun n hn => by
        obtain ⟨r, hr, hx⟩ := (mem_allN rows n).mp hn
        exact hok.sub r hr n hx
      have hall : (allNames rows).length ≤ 8 := Nat.le_trans (few_of (all_nd rows) hallS) hl2
      refine ⟨_, rfl, _, rfl, other_sp p4.ok ht4 hR4 hSm (by omega) fun d ys H5 hd p5 hd5 hyl hynd hynm => ?_⟩
      have ht5 := keepT p4.ok p5 ht4
      have hR5 := keepR p4.ok p5 hR4
      have P5 : PotAt p H2 H5 := p3.trans (p4.trans p5)
      have kz : ((allNames rows).zip ys).map (·.1) = allNames rows := by rw [List.map_fst_zip]; omega
      have hkeys : ∀ r ∈ rows, ∀ n ∈ r, n ∈ ((allNames rows).zip ys).map (·.1) := fun r hr n hn => by rw [kz]; exact (mem_allN rows n).mpr ⟨r, hr, hn⟩
      have hinj : InjOn (lookS ((allNames rows).zip ys)) rows := fun x y hx hy e => look_inj (all_nd rows) hynd hyl ((mem_allN rows x).mpr hx) ((mem_allN rows y).mpr hy) e
      have hSmR : Small (rows.map fun r => r.map (lookS ((allNames rows).zip ys))) := by
        refine ⟨by rw [List.length_map]; exact hSm.few, fun r hr => ?_, fun r hr n hn => ?_⟩
        · obtain ⟨r0, hr0, rfl⟩ := List.mem_map.mp hr
          rw [List.length_map]; exact hSm.short r0 hr0
        · obtain ⟨r0, hr0, rfl⟩ := List.mem_map.mp hr
          obtain ⟨x, hx, rfl⟩ := List.mem_map.mp hn
          exact look_nm (all_nd rows) hyl hynm ((mem_allN rows x).mpr ⟨r0, hr0, hx⟩)
      have hdue := due_merge hok.rd
      have hren := ren_merge _ rows rfl hinj
      -- the part, whatever it is
      have tail : ∀ {H7 : Hp}, PotAt p H2 H7 → Same H H7 := fun {H7} z b o e => z.kp b o (S2 _ _ (S1 b o e)) (ne_of_none (S1 b o e) hp)
      refine ⟨_, rfl, told_sp ht5 hR5 hSm (fun hm H6 S6 => ?_) (fun o hm tp H6 htp S6 h6 => ?_)⟩
      · refine ⟨_, rfl, _, rfl, .inl ⟨rfl, ?_⟩⟩
        refine ⟨_, rfl, due_sp (S6 _ _ ht5) (hR5.same S6) hSm (fun _ H7 S7 => ?_) (fun o e => absurd (e.symm.trans (hdue.trans hm)) (by intro z; cases z))⟩
        refine ⟨_, rfl, .inl ⟨rfl, ?_⟩⟩
        refine ⟨rfl, _, rfl, ?_⟩
        refine ite_ff (by simp) ?_
        have P7 : PotAt p H2 H7 := P5.trans (pot_same P5.ok (S6.trans S7))
        have hd7 := (S6.trans S7) _ _ hd5
        have ht7 := (S6.trans S7) _ _ ht5
        have hR7 := hR5.same (S6.trans S7)
        refine ⟨_, rfl, d, _, rfl, hd7, fun kl hkl => ?_⟩
        have ekl : (strKV ((allNames rows).zip ys)).map (fun kv => kV kv.1) = (allNames rows).map V.str := by
          conv => rhs; rw [← kz]
          unfold strKV; rw [List.map_map, List.map_map]; rfl
        rw [ekl]
        have P8 := P7.new (o := .lst ((allNames rows).map V.str)) hkl
        refine ⟨kl, rfl, ⟨_, SqL.of upd_same⟩, fun ca hca => comp_part upd_same P8.ok (P7.ok.ne hkl) hca (by omega) fun rs H9 hsubl p9 h9 => ?_⟩
        have P9 := P8.trans p9
        have ht9 := keepT P8.ok p9 ((same_new hkl) _ _ ht7)
        have hR9 := keepR P8.ok p9 (hR7.same (same_new hkl))
        have hd9 := keepD P8.ok p9 ((same_new hkl) _ _ hd7)
        have rnd : rs.Nodup := hsubl.nodup (all_nd rows)
        have rsub : ∀ x ∈ rs, ∃ r ∈ rows, x ∈ r := fun x hx => (mem_allN rows x).mp (hsubl.subset hx)
        have rl : rs.length ≤ 8 := Nat.le_trans hsubl.length_le hall
        refine ⟨ca, _, rfl, .inl ⟨SqL.of h9, fun pt hpt => ?_⟩⟩
        have S10 := same_new (o := .tup (rs.map V.str)) hpt
        refine ⟨_, rfl, rfl, _, rfl, ?_⟩
        refine ⟨_, rfl, _, rfl, ren_sp (S10 _ _ ht9) (hR9.same S10) hSm (S10 _ _ hd9) hkeys fun rp us H11 hrp S11 hrp11 hR11 => ?_⟩
        refine told_sp hrp11 hR11 hSmR (fun _ H12 S12 => ⟨rfl, _, rfl, ?_⟩) (fun o e => absurd (e.symm.trans (hren.trans (congrArg (Option.map (List.map (lookS ((allNames rows).zip ys)))) hm))) (by intro z; cases z))
        have S912 := S10.trans (S11.trans S12)
        have hpt12 : H12 pt = some (.tup (rs.map V.str)) := S12 _ _ (S11 _ _ upd_same)
        refine ⟨_, rfl, _, rfl, by show 1 ≤ sizeLine; rw [sizeLine_eq]; decide, fun q2 hq2 => ?_⟩
        have T13 := same_new (o := .tup [V.ref pt]) hq2
        have hlw := hR9.length
        refine ⟨t, q2, _, _, rfl, rfl, T13 _ _ (S912 _ _ ht9), upd_same, by rw [sizeLine_eq]; show _ + 1 ≤ _; omega, fun q3 H14 T14 h14 => ?_⟩
        have S914 := S912.trans (T13.trans T14)
        have hSm2 : Small (rows ++ [rs]) := by
          refine ⟨by rw [List.length_append]; show _ + 1 ≤ 10; omega, fun r hr => ?_, fun r hr n hn => ?_⟩
          · rcases List.mem_append.mp hr with z | z
            · exact hSm.short r z
            · have : r = rs := by simpa using z
              rw [this]; omega
          · rcases List.mem_append.mp hr with z | z
            · exact hSm.nm r z n hn
            · have e : r = rs := by simpa using z
              rw [e] at hn
              obtain ⟨r', hr', hx⟩ := rsub n hn
              exact hSm.nm r' hr' n hx
        have hpt14 : H14 pt = some (.tup (rs.map V.str)) := T14 _ _ (T13 _ _ hpt12)
        refine told_sp h14 (rows_two (hR9.same S914) (.cons ⟨pt, rfl, hpt14⟩ .nil)) hSm2 (fun _ H15 S15 => ⟨rfl, _, rfl, ?_⟩) (fun o e => absurd (e.symm.trans (none_in hok.rd rnd rsub hm)) (by intro z; cases z))
        exact ⟨_, _, _, _, _, _, _, rfl, (tail P9).trans (S914.trans S15)⟩
      · obtain ⟨⟨ond, omem⟩, _⟩ := sound _ _ rfl hok.rd o hm
        have onm : ∀ n ∈ o, Nm n := fun n hn => by
          obtain ⟨r, hr, hx⟩ := (omem n).mp hn
          exact hSm.nm r hr n hx
        have ol : o.length ≤ 8 := Nat.le_trans (few_of ond fun n hn => (mem_allN rows n).mpr ((omem n).mp hn)) hall
        obtain ⟨sh1, sh2, sh3, sh4⟩ := tup_shown onm (by omega)
        have dep : (PyData.tuple (o.map PyData.str)).depth ≤ 60 := by omega
        have lay : (PyData.tuple (o.map PyData.str)).canLay0 = true := strs_lay onm
        have eqr : ∀ z : List Str, PyData.eqv (.tuple (z.map PyData.str)) (.tuple (z.map PyData.str)) = true := fun z => by
          show PyData.eqvAll _ _ = true
          rw [strs_eqv]; exact decide_eq_true rfl
        refine ⟨_, rfl, .ref tp, rfl, .inr ⟨tp, .tuple (o.map PyData.str), rfl, .tup h6 (strs_rep _ _), sh1, sh2, sh3, sh4, ?_⟩⟩
        refine ⟨_, rfl, due_sp (S6 _ _ ht5) (hR5.same S6) hSm (fun e => absurd (e.symm.trans (hdue.trans hm)) (by intro z; cases z)) (fun o2 e2 dp H7 hdp S7 h7 => ?_)⟩
        obtain rfl : o = o2 := Option.some.inj (hm.symm.trans (hdue.symm.trans e2))
        refine ⟨.ref dp, rfl, .inr ⟨dp, .tuple (o.map PyData.str), rfl, .tup h7 (strs_rep _ _), sh1, sh2, sh3, sh4, ?_⟩⟩
        refine ⟨rfl, _, rfl, ?_⟩
        refine ite_ff (by simp) ?_
        have S57 := S6.trans S7
        have P7 : PotAt p H2 H7 := P5.trans (pot_same P5.ok S57)
        have hd7 := S57 _ _ hd5
        have ht7 := S57 _ _ ht5
        have hR7 := hR5.same S57
        have htp7 := S7 _ _ h6
        refine ⟨_, rfl, d, _, rfl, hd7, fun kl hkl => ?_⟩
        have ekl : (strKV ((allNames rows).zip ys)).map (fun kv => kV kv.1) = (allNames rows).map V.str := by
          conv => rhs; rw [← kz]
          unfold strKV; rw [List.map_map, List.map_map]; rfl
        rw [ekl]
        have P8 := P7.new (o := .lst ((allNames rows).map V.str)) hkl
        refine ⟨kl, rfl, ⟨_, SqL.of upd_same⟩, fun ca hca => comp_part upd_same P8.ok (P7.ok.ne hkl) hca (by omega) fun rs H9 hsubl p9 h9 => ?_⟩
        have P9 := P8.trans p9
        have ht9 := keepT P8.ok p9 ((same_new hkl) _ _ ht7)
        have hR9 := keepR P8.ok p9 (hR7.same (same_new hkl))
        have hd9 := keepD P8.ok p9 ((same_new hkl) _ _ hd7)
        have htp9 := keepT P8.ok p9 ((same_new hkl) _ _ htp7)
        have hlw := hR9.length
        refine ⟨ca, _, rfl, .inl ⟨SqL.of h9, fun pt hpt => ?_⟩⟩
        have S10 := same_new (o := .tup (rs.map V.str)) hpt
        refine ⟨_, rfl, rfl, _, rfl, ?_⟩
        refine ⟨_, rfl, tp, rfl, ⟨_, SqT.of (S10 _ _ htp9)⟩, fun cb hcb => comp_inT (S10 _ _ htp9) upd_same hcb (by omega) ?_⟩
        have S11 := S10.trans (same_new (o := .lst ((inL rs o).map V.str)) hcb)
        refine ⟨cb, _, rfl, .inl ⟨SqL.of upd_same, fun pt2 hpt2 => ?_⟩⟩
        have S12 := S11.trans (same_new (o := .tup ((inL rs o).map V.str)) hpt2)
        have hpt2G : (upd (upd (upd H9 pt (.tup (rs.map V.str))) cb (.lst ((inL rs o).map V.str))) pt2 (.tup ((inL rs o).map V.str))) pt2 = some (.tup ((inL rs o).map V.str)) := upd_same
        obtain ⟨k, rfl⟩ := Int.eq_ofNat_of_zero_le a0
        -- rows[:at] + (told,) + rows[at:]
        refine ⟨_, rfl, _, rfl, _, rfl, t, _, rfl, S12 _ _ ht9, fun q1 G1 T1 k1 => ?_⟩
        rw [cut_to] at k1
        refine ⟨_, rfl, by show 1 ≤ sizeLine; rw [sizeLine_eq]; decide, fun q2 hq2 => ?_⟩
        have T2 := T1.trans (same_new (o := .tup [V.ref tp]) hq2)
        refine ⟨q1, q2, _, _, rfl, rfl, (same_new hq2) _ _ k1, upd_same, by rw [List.length_take, sizeLine_eq]; show _ + 1 ≤ _; omega, fun q3 G3 T3 k3 => ?_⟩
        have T13 := T2.trans T3
        refine ⟨_, rfl, _, rfl, _, rfl, t, _, rfl, T13 _ _ (S12 _ _ ht9), fun q4 G4 T4 k4 => ?_⟩
        rw [cut_from] at k4
        refine ⟨q3, q4, _, _, rfl, rfl, T4 _ _ k3, k4, by rw [List.length_append, List.length_take, List.length_drop, sizeLine_eq]; show _ + 1 + _ ≤ _; omega, fun q5 G5 T5 k5 => ?_⟩
        have T15 := T13.trans (T4.trans T5)
        have htp5 := T15 _ _ (S12 _ _ htp9)
        have hR5' := hR9.same (S12.trans T15)
        have smO : ∀ (z : List (List Str)) (p2 : List Str), (∀ r ∈ z, r ∈ rows ∨ r = p2) → z.length ≤ 10 → p2.length ≤ 20 → (∀ n ∈ p2, Nm n) → Small z := fun z p2 hz h10 h20 hnm => ⟨h10, fun r hr => by
          rcases hz r hr with w | rfl
          · exact hSm.short r w
          · exact h20, fun r hr n hn => by
          rcases hz r hr with w | rfl
          · exact hSm.nm r w n hn
          · exact hnm n hn⟩
        have esplit : rows.take k ++ rows.drop k = rows := List.take_append_drop k rows
        have hin : mergeG (total (rows.take k ++ [o] ++ rows.drop k)) (rows.take k ++ [o] ++ rows.drop k) = some o := told_in _ _ _ o rfl (by rw [esplit]; exact hok.rd) (by rw [esplit]; exact hm)
        have sm1 : Small (rows.take k ++ [o] ++ rows.drop k) := smO _ o (fun r hr => by
          simp only [List.mem_append, List.mem_singleton] at hr
          rcases hr with (h | h) | h
          · exact .inl (List.mem_of_mem_take h)
          · exact .inr h
          · exact .inl (List.mem_of_mem_drop h)) (by simp only [List.length_append, List.length_take, List.length_drop, List.length_singleton]; omega) (by omega) onm
        refine told_sp k5 (rows_two (rows_two (rows_take k hR5') (.cons ⟨tp, rfl, htp5⟩ .nil)) (rows_drop k hR5')) sm1 (fun e => absurd (e.symm.trans hin) (by intro z; cases z)) (fun o2 e2 u1 G6 hu1 T6 k6 => ?_)
        obtain rfl : o = o2 := Option.some.inj (hin.symm.trans e2)
        refine ⟨_, rfl, .tuple _, .tuple _, .tup k6 (strs_rep _ _), .tup (T6 _ _ htp5) (strs_rep _ _), lay, lay, dep, _, rfl, ?_⟩
        rw [eqr]
        -- rows + (part,)
        have T16 := T15.trans T6
        refine ⟨_, rfl, _, rfl, by show 1 ≤ sizeLine; rw [sizeLine_eq]; decide, fun q6 hq6 => ?_⟩
        have T7 := same_new (o := .tup [V.ref pt2]) hq6
        refine ⟨t, q6, _, _, rfl, rfl, T7 _ _ (T16 _ _ (S12 _ _ ht9)), upd_same, by rw [sizeLine_eq]; show _ + 1 ≤ _; omega, fun q7 G8 T8 k8 => ?_⟩
        have T18 := T16.trans (T7.trans T8)
        have hpn : mergeG (total (rows ++ [inL rs o])) (rows ++ [inL rs o]) = some o := part_in rs _ rows o rfl hok.rd hm
        have sm2 : Small (rows ++ [inL rs o]) := smO _ (inL rs o) (fun r hr => by
          simp only [List.mem_append, List.mem_singleton] at hr
          exact hr) (by rw [List.length_append]; show _ + 1 ≤ 10; omega) (by have := List.length_filter_le (fun n => decide (n ∈ rs)) o; unfold inL; omega) fun n hn => onm n (List.mem_filter.mp hn).1
        refine told_sp k8 (rows_two (hR9.same (S12.trans T18)) (.cons ⟨pt2, rfl, T18 _ _ hpt2G⟩ .nil)) sm2 (fun e => absurd (e.symm.trans hpn) (by intro z; cases z)) (fun o2 e2 u2 G9 hu2 T9 k9 => ?_)
        obtain rfl : o = o2 := Option.some.inj (hpn.symm.trans e2)
        have T19 := T18.trans T9
        refine ⟨_, rfl, .tuple _, .tuple _, .tup k9 (strs_rep _ _), .tup (T19 _ _ (S12 _ _ htp9)) (strs_rep _ _), lay, lay, dep, _, rfl, ?_⟩
        rw [eqr]
        -- other names
        have S19 := S12.trans T19
        refine ⟨_, rfl, _, rfl, ren_sp (S19 _ _ ht9) (hR9.same S19) hSm (S19 _ _ hd9) hkeys fun rp us G10 hrp T10 k10 hR10 => ?_⟩
        have hren2 : mergeG (total (rows.map fun r => r.map (lookS ((allNames rows).zip ys)))) (rows.map fun r => r.map (lookS ((allNames rows).zip ys))) = some (o.map (lookS ((allNames rows).zip ys))) := hren.trans (congrArg (Option.map (List.map (lookS ((allNames rows).zip ys)))) hm)
        refine told_sp k10 hR10 hSmR (fun e => absurd (e.symm.trans hren2) (by intro z; cases z)) (fun o2 e2 u3 G11 hu3 T11 k11 => ?_)
        obtain rfl : o.map (lookS ((allNames rows).zip ys)) = o2 := Option.some.inj (hren2.symm.trans e2)
        have S111 := S19.trans (T10.trans T11)
        refine ⟨_, rfl, by show 1 ≤ sizeLine; rw [sizeLine_eq]; decide, fun q8 hq8 => ?_⟩
        have T12 := same_new (o := .tup [V.ref tp]) hq8
        have S112 := S111.trans T12
        have smT : Small [o] := ⟨by show 1 ≤ 10; decide, fun r hr => by
          have : r = o := by simpa using hr
          rw [this]; omega, fun r hr n hn => by
          have e : r = o := by simpa using hr
          rw [e] at hn; exact onm n hn⟩
        refine ⟨_, rfl, ren_sp (rows := [o]) upd_same (.cons ⟨tp, rfl, S112 _ _ htp9⟩ .nil) smT (S112 _ _ hd9) (fun r hr n hn => ?_) fun r2 us2 G13 hr2 T13' k13 hR13 => ?_⟩
        · have e : r = o := by simpa using hr
          rw [e] at hn
          rw [kz]; exact (mem_allN rows n).mpr ((omem n).mp hn)
        · cases hR13 with
          | cons p13 t13 =>
            cases t13
            obtain ⟨b13, rfl, h13⟩ := p13
            refine ⟨r2, _, 0, .ref b13, rfl, rfl, SqT.of k13, (show atI [V.ref b13] ((0 : Nat) : Int) = some (V.ref b13) from atI_nat rfl), ?_⟩
            have onm2 : ∀ n ∈ o.map (lookS ((allNames rows).zip ys)), Nm n := fun n hn => by
              obtain ⟨x, hx, rfl⟩ := List.mem_map.mp hn
              exact look_nm (all_nd rows) hyl hynm ((mem_allN rows x).mpr ((omem x).mp hx))
            refine ⟨.tuple _, .tuple _, .tup (T13' _ _ (T12 _ _ k11)) (strs_rep _ _), .tup h13 (strs_rep _ _), strs_lay onm2, strs_lay onm2, by show PyData.depthAll _ + 1 ≤ 60; rw [strs_depth]; decide, _, rfl, ?_⟩
            rw [eqr]
            exact ⟨_, _, _, _, _, _, _, rfl, (tail P9).trans (S112.trans T13')⟩
    · rintro σ H1 ⟨v1, v2, v3, v4, v5, v6, v7, rfl, S1⟩
      exact q H1
end
end K13
/-! ### what the top has written -/
namespace K13
open PySem L2 PySem.W
def bsOk (K : Frag) (LE : Addr) : Bool := readsIn K LE (.type "type") && (specialIn K (.ref LE) "__getattribute__" == some (some (.builtin "type.__getattribute__")))
def nsOk (K : Frag) (C : Addr) : Bool := findIn K (.ref C) "kind" == some none && (findIn K (.ref C) "ring" == some none && (keepIn K (.ref C) && mroIn K C (.ref C) == some true))
theorem all_mk {l : OpenLaw} {w : World} {K : Frag} {h : Heap} {mg : Str → Option Value} {fa C LE fI fM fLf fWa fRw fP fD fN fS fRo fT fBe fFi fDu fRe fOt fL : Addr} (X : K.In h) (G : h.Ns mainGlobals mg) (hfa : mg "law" = some (.ref fa))
    {odI anI : Option Addr} {slI : Array (Option Value)} {ocI kVI dcI pmI cdI ctI : Value}
    {odM anM : Option Addr} {slM : Array (Option Value)} {ocM kVM dcM pmM cdM ctM : Value}
    {odLf anLf : Option Addr} {slLf : Array (Option Value)} {ocLf kVLf dcLf pmLf cdLf ctLf : Value}
    {odWa anWa : Option Addr} {slWa : Array (Option Value)} {ocWa kVWa dcWa pmWa cdWa ctWa : Value}
    {odRw anRw : Option Addr} {slRw : Array (Option Value)} {ocRw kVRw dcRw pmRw cdRw ctRw : Value}
    {odP anP : Option Addr} {slP : Array (Option Value)} {ocP kVP dcP pmP cdP ctP : Value}
    {odD anD : Option Addr} {slD : Array (Option Value)} {ocD kVD dcD pmD cdD ctD : Value}
    {odN anN : Option Addr} {slN : Array (Option Value)} {ocN kVN dcN pmN cdN ctN : Value}
    {odS anS : Option Addr} {slS : Array (Option Value)} {ocS kVS dcS pmS cdS ctS : Value}
    {odRo anRo : Option Addr} {slRo : Array (Option Value)} {ocRo kVRo dcRo pmRo cdRo ctRo : Value}
    {odT anT : Option Addr} {slT : Array (Option Value)} {ocT kVT dcT pmT cdT ctT : Value}
    {odBe anBe : Option Addr} {slBe : Array (Option Value)} {ocBe kVBe dcBe pmBe cdBe ctBe : Value}
    {odFi anFi : Option Addr} {slFi : Array (Option Value)} {ocFi kVFi dcFi pmFi cdFi ctFi : Value}
    {odDu anDu : Option Addr} {slDu : Array (Option Value)} {ocDu kVDu dcDu pmDu cdDu ctDu : Value}
    {odRe anRe : Option Addr} {slRe : Array (Option Value)} {ocRe kVRe dcRe pmRe cdRe ctRe : Value}
    {odOt anOt : Option Addr} {slOt : Array (Option Value)} {ocOt kVOt dcOt pmOt cdOt ctOt : Value}
    {odL anL : Option Addr} {slL : Array (Option Value)} {ocL kVL dcL pmL cdL ctL : Value}
    (aC : nsIn K mainGlobals "Ring" = some (some (.ref C)))
    (aLE : nsIn K mainGlobals "LineError" = some (some (.ref LE)))
    (fIa : findIn K (.ref C) "__init__" = some (some (.ref fI)))
    (fIi : isFn K (.ref fI) = true)
    (fIq : excInI K C (some (.ref fI)) = true)
    (fIl : K.lookup fI = some ⟨ocI, odI, .func (fnOf "__init__" "Ring.__init__" (defArgs sRing) (defBody sRing) (defScope sRing) .none kVI dcI pmI anI cdI ctI), slI⟩)
    (fIc : codeIn K cdI "Ring.__init__" = true)
    (fIk : keepIn K (.ref fI) = true)
    (fMa : nsIn K mainGlobals "merged" = some (some (.ref fM)))
    (fMl : K.lookup fM = some ⟨ocM, odM, .func (fnOf "merged" "merged" (defArgs sMerged) (defBody sMerged) (defScope sMerged) .none kVM dcM pmM anM cdM ctM), slM⟩)
    (fMc : codeIn K cdM "merged" = true)
    (fMk : keepIn K (.ref fM) = true)
    (fLfa : nsIn K mainGlobals "least_free" = some (some (.ref fLf)))
    (fLfl : K.lookup fLf = some ⟨ocLf, odLf, .func (fnOf "least_free" "least_free" (defArgs sLeast) (defBody sLeast) (defScope sLeast) .none kVLf dcLf pmLf anLf cdLf ctLf), slLf⟩)
    (fLfc : codeIn K cdLf "least_free" = true)
    (fLfk : keepIn K (.ref fLf) = true)
    (fWaa : nsIn K mainGlobals "wish_against" = some (some (.ref fWa)))
    (fWal : K.lookup fWa = some ⟨ocWa, odWa, .func (fnOf "wish_against" "wish_against" (defArgs sWish) (defBody sWish) (defScope sWish) .none kVWa dcWa pmWa anWa cdWa ctWa), slWa⟩)
    (fWac : codeIn K cdWa "wish_against" = true)
    (fWak : keepIn K (.ref fWa) = true)
    (fRwa : nsIn K mainGlobals "ring_within" = some (some (.ref fRw)))
    (fRwl : K.lookup fRw = some ⟨ocRw, odRw, .func (fnOf "ring_within" "ring_within" (defArgs sRingW) (defBody sRingW) (defScope sRingW) .none kVRw dcRw pmRw anRw cdRw ctRw), slRw⟩)
    (fRwc : codeIn K cdRw "ring_within" = true)
    (fRwk : keepIn K (.ref fRw) = true)
    (fPa : nsIn K mainGlobals "_law_pot" = some (some (.ref fP)))
    (fPl : K.lookup fP = some ⟨ocP, odP, .func (fnOf "_law_pot" "_law_pot" (defArgs sPot) (defBody sPot) (defScope sPot) .none kVP dcP pmP anP cdP ctP), slP⟩)
    (fPc : codeIn K cdP "_law_pot" = true)
    (fPk : keepIn K (.ref fP) = true)
    (fDa : nsIn K mainGlobals "_law_digit" = some (some (.ref fD)))
    (fDl : K.lookup fD = some ⟨ocD, odD, .func (fnOf "_law_digit" "_law_digit" (defArgs sDigit) (defBody sDigit) (defScope sDigit) .none kVD dcD pmD anD cdD ctD), slD⟩)
    (fDc : codeIn K cdD "_law_digit" = true)
    (fDk : keepIn K (.ref fD) = true)
    (fNa : nsIn K mainGlobals "_law_names" = some (some (.ref fN)))
    (fNl : K.lookup fN = some ⟨ocN, odN, .func (fnOf "_law_names" "_law_names" (defArgs sNames) (defBody sNames) (defScope sNames) .none kVN dcN pmN anN cdN ctN), slN⟩)
    (fNc : codeIn K cdN "_law_names" = true)
    (fNk : keepIn K (.ref fN) = true)
    (fSa : nsIn K mainGlobals "_law_shuffled" = some (some (.ref fS)))
    (fSl : K.lookup fS = some ⟨ocS, odS, .func (fnOf "_law_shuffled" "_law_shuffled" (defArgs sShuf) (defBody sShuf) (defScope sShuf) .none kVS dcS pmS anS cdS ctS), slS⟩)
    (fSc : codeIn K cdS "_law_shuffled" = true)
    (fSk : keepIn K (.ref fS) = true)
    (fRoa : nsIn K mainGlobals "_law_rows" = some (some (.ref fRo)))
    (fRol : K.lookup fRo = some ⟨ocRo, odRo, .func (fnOf "_law_rows" "_law_rows" (defArgs sRows) (defBody sRows) (defScope sRows) .none kVRo dcRo pmRo anRo cdRo ctRo), slRo⟩)
    (fRoc : codeIn K cdRo "_law_rows" = true)
    (fRok : keepIn K (.ref fRo) = true)
    (fTa : nsIn K mainGlobals "_law_told" = some (some (.ref fT)))
    (fTl : K.lookup fT = some ⟨ocT, odT, .func (fnOf "_law_told" "_law_told" (defArgs sTold) (defBody sTold) (defScope sTold) .none kVT dcT pmT anT cdT ctT), slT⟩)
    (fTc : codeIn K cdT "_law_told" = true)
    (fTk : keepIn K (.ref fT) = true)
    (fBea : nsIn K mainGlobals "_law_is_behind" = some (some (.ref fBe)))
    (fBel : K.lookup fBe = some ⟨ocBe, odBe, .func (fnOf "_law_is_behind" "_law_is_behind" (defArgs sBehind) (defBody sBehind) (defScope sBehind) .none kVBe dcBe pmBe anBe cdBe ctBe), slBe⟩)
    (fBec : codeIn K cdBe "_law_is_behind" = true)
    (fBek : keepIn K (.ref fBe) = true)
    (fFia : nsIn K mainGlobals "_law_first" = some (some (.ref fFi)))
    (fFil : K.lookup fFi = some ⟨ocFi, odFi, .func (fnOf "_law_first" "_law_first" (defArgs sFirst) (defBody sFirst) (defScope sFirst) .none kVFi dcFi pmFi anFi cdFi ctFi), slFi⟩)
    (fFic : codeIn K cdFi "_law_first" = true)
    (fFik : keepIn K (.ref fFi) = true)
    (fDua : nsIn K mainGlobals "_law_due" = some (some (.ref fDu)))
    (fDul : K.lookup fDu = some ⟨ocDu, odDu, .func (fnOf "_law_due" "_law_due" (defArgs sDue) (defBody sDue) (defScope sDue) .none kVDu dcDu pmDu anDu cdDu ctDu), slDu⟩)
    (fDuc : codeIn K cdDu "_law_due" = true)
    (fDuk : keepIn K (.ref fDu) = true)
    (fRea : nsIn K mainGlobals "_law_renamed" = some (some (.ref fRe)))
    (fRel : K.lookup fRe = some ⟨ocRe, odRe, .func (fnOf "_law_renamed" "_law_renamed" (defArgs sRenamed) (defBody sRenamed) (defScope sRenamed) .none kVRe dcRe pmRe anRe cdRe ctRe), slRe⟩)
    (fRec : codeIn K cdRe "_law_renamed" = true)
    (fRek : keepIn K (.ref fRe) = true)
    (fOta : nsIn K mainGlobals "_law_other_names" = some (some (.ref fOt)))
    (fOtl : K.lookup fOt = some ⟨ocOt, odOt, .func (fnOf "_law_other_names" "_law_other_names" (defArgs sOther) (defBody sOther) (defScope sOther) .none kVOt dcOt pmOt anOt cdOt ctOt), slOt⟩)
    (fOtc : codeIn K cdOt "_law_other_names" = true)
    (fOtk : keepIn K (.ref fOt) = true)
    (fLa : nsIn K mainGlobals "law" = some (some (.ref fL)))
    (fLl : K.lookup fL = some ⟨ocL, odL, .func (fnOf "law" "law" (defArgs sLaw) (defBody sLaw) (defScope sLaw) .none kVL dcL pmL anL cdL ctL), slL⟩)
    (fLc : codeIn K cdL "law" = true)
    (fLk : keepIn K (.ref fL) = true)
    (hxc : xclsOk K C = true)
    (hns : nsOk K C = true)
    (hbs : bsOk K LE = true)
    (hfi : findCls K (.ref LE) (.type "type") "__init__" = some (.val (.builtin "ValueError.__init__")))
    (zlen : nsIn K mainGlobals "len" = some none)
    (zmax : nsIn K mainGlobals "max" = some none)
    (zmin : nsIn K mainGlobals "min" = some none)
    (zabs : nsIn K mainGlobals "abs" = some none)
    (zrange : nsIn K mainGlobals "range" = some none)
    (zany : nsIn K mainGlobals "any" = some none)
    (zall : nsIn K mainGlobals "all" = some none)
    (zlist : nsIn K mainGlobals "list" = some none)
    (ztuple : nsIn K mainGlobals "tuple" = some none)
    (zenumerate : nsIn K mainGlobals "enumerate" = some none)
    (zrepr : nsIn K mainGlobals "repr" = some none)
    (zdict : nsIn K mainGlobals "dict" = some none)
    (zzip : nsIn K mainGlobals "zip" = some none) :
    ∃ fd : FuncData, (∀ (s : Shared) (v : Value), BindsTo s fd ⟨[v], []⟩ [("_law_script", v)]) ∧ ∀ base : Heap, K.In base → base.Ns mainGlobals mg → FnOk l.prog w K mg base CX0 5 fa fd ["_law_script"] (spLaw K) := by
  have e := hfa.symm.trans (mg_of X G fLa)
  cases e
  have Bl : Blt mg := ⟨mg_none_of X G zlen, mg_none_of X G zmax, mg_none_of X G zmin, mg_none_of X G zabs, mg_none_of X G zrange, mg_none_of X G zany, mg_none_of X G zall, mg_none_of X G zlist, mg_none_of X G ztuple, mg_none_of X G zenumerate⟩
  have n1 := Bool.and_eq_true_iff.mp hns
  have n2 := Bool.and_eq_true_iff.mp n1.2
  have n3 := Bool.and_eq_true_iff.mp n2.2
  have bs : BaseIn K LE := ⟨(Bool.and_eq_true_iff.mp hbs).1, beq_iff_eq.mp (Bool.and_eq_true_iff.mp hbs).2, hfi⟩
  have FI := fun_mk (st := sRing) fIl fIc fIk
  have FM := fun_mk (st := sMerged) fMl fMc fMk
  have FLf := fun_mk (st := sLeast) fLfl fLfc fLfk
  have FWa := fun_mk (st := sWish) fWal fWac fWak
  have FRw := fun_mk (st := sRingW) fRwl fRwc fRwk
  have FP := fun_mk (st := sPot) fPl fPc fPk
  have FD := fun_mk (st := sDigit) fDl fDc fDk
  have FN := fun_mk (st := sNames) fNl fNc fNk
  have FS := fun_mk (st := sShuf) fSl fSc fSk
  have FRo := fun_mk (st := sRows) fRol fRoc fRok
  have FT := fun_mk (st := sTold) fTl fTc fTk
  have FBe := fun_mk (st := sBehind) fBel fBec fBek
  have FFi := fun_mk (st := sFirst) fFil fFic fFik
  have FDu := fun_mk (st := sDue) fDul fDuc fDuk
  have FRe := fun_mk (st := sRenamed) fRel fRec fRek
  have FOt := fun_mk (st := sOther) fOtl fOtc fOtk
  have FL := fun_mk (st := sLaw) fLl fLc fLk
  have bI := FI.binds (ps := ["self", "kind", "ring"]) fun _ _ _ _ _ _ us hl => match us, hl with | [_, _, _], _ => rfl
  have bM := FM.binds (ps := ["rows"]) fun _ _ _ _ _ _ us hl => match us, hl with | [_], _ => rfl
  have bLf := FLf.binds (ps := ["rest"]) fun _ _ _ _ _ _ us hl => match us, hl with | [_], _ => rfl
  have bWa := FWa.binds (ps := ["rest", "name"]) fun _ _ _ _ _ _ us hl => match us, hl with | [_, _], _ => rfl
  have bRw := FRw.binds (ps := ["rest"]) fun _ _ _ _ _ _ us hl => match us, hl with | [_], _ => rfl
  have bP := FP.binds (ps := ["_law_script", "_law_k"]) fun _ _ _ _ _ _ us hl => match us, hl with | [_, _], _ => rfl
  have bD := FD.binds (ps := ["_law_pot_here", "_law_many"]) fun _ _ _ _ _ _ us hl => match us, hl with | [_, _], _ => rfl
  have bN := FN.binds (ps := ["_law_pot_here", "_law_many"]) fun _ _ _ _ _ _ us hl => match us, hl with | [_, _], _ => rfl
  have bS := FS.binds (ps := ["_law_pot_here", "_law_names_here"]) fun _ _ _ _ _ _ us hl => match us, hl with | [_, _], _ => rfl
  have bRo := FRo.binds (ps := ["_law_pot_here", "_law_most_names", "_law_most_rows"]) fun _ _ _ _ _ _ us hl => match us, hl with | [_, _, _], _ => rfl
  have bT := FT.binds (ps := ["_law_rows_here"]) fun _ _ _ _ _ _ us hl => match us, hl with | [_], _ => rfl
  have bBe := FBe.binds (ps := ["_law_rows_here", "_law_left", "_law_name"]) fun _ _ _ _ _ _ us hl => match us, hl with | [_, _, _], _ => rfl
  have bFi := FFi.binds (ps := ["_law_rows_here", "_law_left"]) fun _ _ _ _ _ _ us hl => match us, hl with | [_, _], _ => rfl
  have bDu := FDu.binds (ps := ["_law_rows_here"]) fun _ _ _ _ _ _ us hl => match us, hl with | [_], _ => rfl
  have bRe := FRe.binds (ps := ["_law_rows_here", "_law_named"]) fun _ _ _ _ _ _ us hl => match us, hl with | [_, _], _ => rfl
  have bOt := FOt.binds (ps := ["_law_pot_here", "_law_rows_here"]) fun _ _ _ _ _ _ us hl => match us, hl with | [_, _], _ => rfl
  have xc := xcls_of hxc
  have T : RingT K mg LE C fI (fnOf "__init__" "Ring.__init__" (defArgs sRing) (defBody sRing) (defScope sRing) .none kVI dcI pmI anI cdI ctI) := ⟨mg_of X G aC, fIq, fIi, n3.1, FI, bs, mg_of X G aLE, bI, xc, beq_iff_eq.mp n1.1, beq_iff_eq.mp n2.1⟩
  have mD := mg_of X G fDa
  exact ⟨fnOf "law" "law" (defArgs sLaw) (defBody sLaw) (defScope sLaw) .none kVL dcL pmL anL cdL ctL, fun s v => .of_eq rfl, fun base _ _ =>
    ok_law FL Bl (mg_none_of X G zrepr) (ok_pot FP Bl) fPk bP (mg_of X G fPa) (ok_digit FD) fDk bD mD
      (ok_rows FRo Bl FD bD mD FN bN (mg_of X G fNa) FS bS (mg_of X G fSa)) fRok bRo (mg_of X G fRoa) (ok_other FOt Bl (mg_none_of X G zdict) (mg_none_of X G zzip) FD bD mD FN bN (mg_of X G fNa) FS bS (mg_of X G fSa)) fOtk bOt (mg_of X G fOta)
      (ok_told FT (ok_merged FM Bl T FWa bWa (mg_of X G fWaa) FLf bLf (mg_of X G fLfa) FRw bRw (mg_of X G fRwa)) fMk bM (mg_of X G fMa) (mg_of X G aC) xc (beq_iff_eq.mp n3.2) fIq) fTk bT (mg_of X G fTa)
      (ok_due FDu Bl FBe bBe (mg_of X G fBea) FFi bFi (mg_of X G fFia)) fDuk bDu (mg_of X G fDua) (ok_ren FRe Bl) fRek bRe (mg_of X G fRea)⟩
theorem walk {l : OpenLaw} {q : Program} {loose : List Str} {XP : (Str → Option Value) → Heap → Prop} {YP : World → Heap → Prop} {d : DefRec} {K : Params → Frag} (hn : l.most = some 63) (hdf : d.params.defaults = [])
    (hY : ∀ (w : World) (h : Heap), YP w h → (K w.params).In h)
    (F : ∀ (w : World) (mg : Str → Option Value) (fa : Addr) (h : Heap), (K w.params).In h → h.Ns mainGlobals mg → mg d.name = some (.ref fa) →
      ∃ fd : FuncData, (∀ (s : Shared) (u : Value), BindsTo s fd ⟨[u], []⟩ [("_law_script", u)]) ∧ ∀ base : Heap, (K w.params).In base → base.Ns mainGlobals mg → FnOk l.prog w (K w.params) mg base CX0 5 fa fd ["_law_script"] (spLaw (K w.params))) :
    WalkO q loose XP YP l.row.toRowW d [] (fun f vs => PySem.call f vs) :=
  L2.walk_of (n := 63) (k := 5) (x := "_law_script") (CX := fun _ => CX0) (sp := fun w => spLaw (K w.params)) hn (by decide) hdf ⟨rfl, by decide, by decide, rfl⟩ hY F (fun _ _ a ns hl _ hS => by unfold spLaw; exact ⟨a, ns, rfl, hS, hl, fun _ => rfl⟩) fun _ _ _ _ _ z => z
end K13
open PySem PySem.W PyProof.Rows
set_option maxRecDepth 100000 in
set_option maxHeartbeats 0 in
theorem PySem.Challenge.cw_parentlines_k13_whole_told_row_says_noth_holds : PySem.Challenge.rw_parentlines_k13_whole_told_row_says_noth.Holds := by
  w_on; o_law; k_head; (case hw => w_witness2)
  k_fill
  refine K13.walk (l := PySem.Challenge.rw_parentlines_k13_whole_told_row_says_noth) rfl rfl (fun w h Y => PySem.W.kIn_of Y) ?F
  case F =>
    intro w mg fa h KX G hmg
    refine' K13.all_mk KX G hmg ?aC ?aLE ?fIa ?fIi ?fIq ?fIl ?fIc ?fIk ?fMa ?fMl ?fMc ?fMk ?fLfa ?fLfl ?fLfc ?fLfk ?fWaa ?fWal ?fWac ?fWak ?fRwa ?fRwl ?fRwc ?fRwk ?fPa ?fPl ?fPc ?fPk ?fDa ?fDl ?fDc ?fDk ?fNa ?fNl ?fNc ?fNk ?fSa ?fSl ?fSc ?fSk ?fRoa ?fRol ?fRoc ?fRok ?fTa ?fTl ?fTc ?fTk ?fBea ?fBel ?fBec ?fBek ?fFia ?fFil ?fFic ?fFik ?fDua ?fDul ?fDuc ?fDuk ?fRea ?fRel ?fRec ?fRek ?fOta ?fOtl ?fOtc ?fOtk ?fLa ?fLl ?fLc ?fLk ?hxc ?hns ?hbs ?hfi ?zlen ?zmax ?zmin ?zabs ?zrange ?zany ?zall ?zlist ?ztuple ?zenumerate ?zrepr ?zdict ?zzip
    (case aC => k_is)
    (case aLE => k_is)
    (case fIa => k_is)
    (case fIi => k_is)
    (case fIl => k_is)
    (case fIc => k_is)
    (case fIk => k_is)
    (case fMa => k_is)
    (case fMl => k_is)
    (case fMc => k_is)
    (case fMk => k_is)
    (case fLfa => k_is)
    (case fLfl => k_is)
    (case fLfc => k_is)
    (case fLfk => k_is)
    (case fWaa => k_is)
    (case fWal => k_is)
    (case fWac => k_is)
    (case fWak => k_is)
    (case fRwa => k_is)
    (case fRwl => k_is)
    (case fRwc => k_is)
    (case fRwk => k_is)
    (case fPa => k_is)
    (case fPl => k_is)
    (case fPc => k_is)
    (case fPk => k_is)
    (case fDa => k_is)
    (case fDl => k_is)
    (case fDc => k_is)
    (case fDk => k_is)
    (case fNa => k_is)
    (case fNl => k_is)
    (case fNc => k_is)
    (case fNk => k_is)
    (case fSa => k_is)
    (case fSl => k_is)
    (case fSc => k_is)
    (case fSk => k_is)
    (case fRoa => k_is)
    (case fRol => k_is)
    (case fRoc => k_is)
    (case fRok => k_is)
    (case fTa => k_is)
    (case fTl => k_is)
    (case fTc => k_is)
    (case fTk => k_is)
    (case fBea => k_is)
    (case fBel => k_is)
    (case fBec => k_is)
    (case fBek => k_is)
    (case fFia => k_is)
    (case fFil => k_is)
    (case fFic => k_is)
    (case fFik => k_is)
    (case fDua => k_is)
    (case fDul => k_is)
    (case fDuc => k_is)
    (case fDuk => k_is)
    (case fRea => k_is)
    (case fRel => k_is)
    (case fRec => k_is)
    (case fRek => k_is)
    (case fOta => k_is)
    (case fOtl => k_is)
    (case fOtc => k_is)
    (case fOtk => k_is)
    (case fLa => k_is)
    (case fLl => k_is)
    (case fLc => k_is)
    (case fLk => k_is)
    (case hfi => k_is)
    (case zlen => k_is)
    (case zmax => k_is)
    (case zmin => k_is)
    (case zabs => k_is)
    (case zrange => k_is)
    (case zany => k_is)
    (case zall => k_is)
    (case zlist => k_is)
    (case ztuple => k_is)
    (case zenumerate => k_is)
    (case zrepr => k_is)
    (case zdict => k_is)
    (case zzip => k_is)
    (case fIq => kernel_rfl)
    (case hxc => kernel_rfl)
    (case hns => kernel_rfl)
    (case hbs => kernel_rfl)
