import PyProof.Rows.All
import Wide.All
import OpenK.AllK
import Wide.FinOn
import Lean
import PyProof.EqAt
import PyProof.EqKinds
import PyProof.TupleCall
import PyProof.ReprRoads
import PyProof.ReprBulk
import PyProof.EnumMake
import PyProof.EnumFor
import KE.KRevSl
import PyProof.NsDelKeeps
import KE.KDictList
import PyProof.ZipIter
import PyProof.AttrMissHeap
import KE.KDictOf
import KE.KItemsList
import PyProof.Rows.ZipGen
import PyProof.CallFns
import PyProof.StrWalks
import PyProof.FString5
import KE.KSortTup
import PyProof.SetRoads
import PyProof.SetNew
import PyProof.Rows.SetFrom
import PyProof.WalksMore
import PyProof.ForAny
import PyProof.DictWalks
import PyProof.P3Eq
import PySem.Challenge.RW_parentlines_k11_rows_merged_or_a_ring
set_option Elab.async false
set_option linter.all false
set_option maxRecDepth 100000
set_option maxHeartbeats 4000000
-- CHANGE: your row's module here, as the last of these rows
/-! THE HAND LAYER, for ints, bools, texts, own classes, LISTS and tuples (index, slices, in, append, pop ..), calls, loops. Paste it whole ahead of your own text; what your proof does not reach may be deleted. -/
namespace L2
open PySem PySem.Spec PyProof.Rows

/-- a key: an int or a str -/
abbrev Key := Sum Int Str
def keyIs : Key → Value → Bool
  | .inl k, v => Value.isInt k v
  | .inr x, v => Value.isStrOf x v
def keyH (w : World) : Key → Int
  | .inl k => hashInt k
  | .inr x => hashStr w x
theorem keyIs_shape : ∀ {k : Key} {v : Value}, keyIs k v = true → (∃ i t, k = Sum.inl i ∧ v = Value.int i t) ∨ (∃ x t, k = Sum.inr x ∧ v = Value.str x t)
  | .inl i, v, h => by
    obtain ⟨t, e⟩ := Value.isInt_shape (k := i) (v := v) h
    exact .inl ⟨i, t, rfl, e⟩
  | .inr x, v, h => by
    obtain ⟨t, e⟩ := Value.isStrOf_shape (x := x) (v := v) h
    exact .inr ⟨x, t, rfl, e⟩
theorem keyIs_int (i : Int) (t : Tok) : keyIs (.inl i) (.int i t) = true := by simp [keyIs, Value.isInt]
theorem keyIs_str (x : Str) (t : Tok) : keyIs (.inr x) (.str x t) = true := by simp [keyIs, Value.isStrOf]
theorem key_ll (a b : Int) : decide ((Sum.inl a : Key) = Sum.inl b) = (a == b) := by
  by_cases e : a = b
  · subst e; simp
  · have h : ¬ (Sum.inl a : Key) = Sum.inl b := fun q => e (Sum.inl.inj q)
    rw [decide_eq_false h]
    exact (beq_eq_false_iff_ne.mpr e).symm
theorem key_rr (a b : Str) : decide ((Sum.inr a : Key) = Sum.inr b) = decide (a = b) := by
  by_cases e : a = b
  · subst e; simp
  · have h : ¬ (Sum.inr a : Key) = Sum.inr b := fun q => e (Sum.inr.inj q)
    rw [decide_eq_false h, decide_eq_false e]
theorem key_lr (a : Int) (b : Str) : decide ((Sum.inl a : Key) = Sum.inr b) = false := decide_eq_false (fun q => nomatch q)
theorem key_rl (a : Str) (b : Int) : decide ((Sum.inr a : Key) = Sum.inl b) = false := decide_eq_false (fun q => nomatch q)

def mixKind (prog : Program) (w : World) : PySem.KeyKind prog w Key where
  is := keyIs
  hash := keyH w
  inj := fun v a b ha hb => by
    rcases keyIs_shape ha with ⟨i, t, rfl, rfl⟩ | ⟨x, t, rfl, rfl⟩
    · rcases keyIs_shape hb with ⟨j, u, rfl, e⟩ | ⟨y, u, rfl, e⟩
      · injection e with e1 _; rw [e1]
      · exact nomatch e
    · rcases keyIs_shape hb with ⟨j, u, rfl, e⟩ | ⟨y, u, rfl, e⟩
      · exact nomatch e
      · injection e with e1 _; rw [e1]
  byValue := fun k v h => by
    rcases keyIs_shape h with ⟨i, t, rfl, rfl⟩ | ⟨x, t, rfl, rfl⟩ <;> rfl
  pyHash := fun hv h => by
    rcases keyIs_shape hv with ⟨i, t, rfl, rfl⟩ | ⟨x, t, rfl, rfl⟩
    · exact wpAny_pyHash_int h
    · exact wpAny_pyHash_str h
  eqBool := fun hu hv h => by
    rcases keyIs_shape hu with ⟨i, t, rfl, rfl⟩ | ⟨x, t, rfl, rfl⟩
    · rcases keyIs_shape hv with ⟨j, u, rfl, rfl⟩ | ⟨y, u, rfl, rfl⟩
      · rw [key_ll] at h; exact wpAny_eqBool_int h
      · rw [key_lr] at h; exact SeqAt.EqAt.int_str i t y u _ _ _ _ h
    · rcases keyIs_shape hv with ⟨j, u, rfl, rfl⟩ | ⟨y, u, rfl, rfl⟩
      · rw [key_rl] at h; exact SeqAt.EqAt.str_int x t j u _ _ _ _ h
      · rw [key_rr] at h; exact wpAny_eqBool_str h
  «strs» := fun k x t v h => by
    rcases keyIs_shape h with ⟨i, u, rfl, e⟩ | ⟨y, u, rfl, e⟩
    · exact nomatch e
    · injection e with e1 _
      subst e1
      cases v <;> rfl

theorem mixKind_int (prog : Program) (w : World) (i : Int) (t : Tok) : (mixKind prog w).is (.inl i) (.int i t) = true := keyIs_int i t
theorem mixKind_str (prog : Program) (w : World) (x : Str) (t : Tok) : (mixKind prog w).is (.inr x) (.str x t) = true := keyIs_str x t
end L2

namespace L2
open PySem PySem.Spec PyProof.Rows

/-- a value, without the heap -/
inductive V where
  | non | bl (b : Bool) | int (i : Int) | str (x : Str) | byt (b : Array UInt8) | flt (b : UInt64) | ref (a : Addr) | ty (n : String)
  deriving DecidableEq

def RelV : V → Value → Prop
  | .non, u => u = Value.none
  | .bl b, u => u = Value.bool b
  | .int i, u => ∃ t, u = Value.int i t
  | .str x, u => ∃ t, u = Value.str x t
  | .byt b, u => ∃ t, u = Value.bytes b t
  | .flt b, u => ∃ t, u = Value.float b t
  | .ref a, u => u = Value.ref a
  | .ty n, u => u = Value.type n

abbrev Vals : List V → List Value → Prop := Paired RelV
theorem Vals.length {xs : List V} {us : List Value} (r : Vals xs us) : xs.length = us.length := Paired.length r
theorem Vals.get : ∀ {xs : List V} {us : List Value} {i : Nat} {x : V}, Vals xs us → xs[i]? = some x → ∃ u, us[i]? = some u ∧ RelV x u
  | _, _, _, _, .nil, e => by simp at e
  | _, _, 0, _, .cons r _, e => by simp at e; subst e; exact ⟨_, rfl, r⟩
  | _, _, i + 1, x, .cons _ t, e => by
    obtain ⟨u, h1, h2⟩ := Vals.get (i := i) (x := x) t (by simpa using e)
    exact ⟨u, by simpa using h1, h2⟩
theorem Vals.set {x : V} {u : Value} (r : RelV x u) : ∀ {xs : List V} {us : List Value} (i : Nat), Vals xs us → Vals (xs.set i x) (us.set i u)
  | _, _, _, .nil => .nil
  | _, _, 0, .cons _ t => .cons r t
  | _, _, i + 1, .cons q t => .cons q (Vals.set r i t)
theorem Vals.append : ∀ {xs ys : List V} {us ws : List Value}, Vals xs us → Vals ys ws → Vals (xs ++ ys) (us ++ ws)
  | _, _, _, _, .nil, s => s
  | _, _, _, _, .cons r t, s => .cons r (Vals.append t s)
theorem Vals.take : ∀ {xs : List V} {us : List Value} (n : Nat), Vals xs us → Vals (xs.take n) (us.take n)
  | _, _, 0, _ => .nil
  | _, _, _ + 1, .nil => .nil
  | _, _, n + 1, .cons r t => .cons r (Vals.take n t)
theorem Vals.drop : ∀ {xs : List V} {us : List Value} (n : Nat), Vals xs us → Vals (xs.drop n) (us.drop n)
  | _, _, 0, r => r
  | _, _, _ + 1, .nil => .nil
  | _, _, n + 1, .cons _ t => Vals.drop n t
def RelO : Option V → Option Value → Prop
  | some v, some u => RelV v u
  | none, none => True
  | _, _ => False
def KV {κ : Type} : List (κ × V) → List (κ × Value) → Prop := Paired fun (p : κ × V) (q : κ × Value) => p.1 = q.1 ∧ RelV p.2 q.2

/-- a key of a dict (00_mix): an int or a text -/
def kV : Key → V
  | .inl i => .int i
  | .inr x => .str x

/-- what stands at a tracked address -/
inductive HO where
  /-- a list -/
  | lst (xs : List V)
  /-- a tuple (never changes) -/
  | tup (xs : List V)
  /-- a dict whose keys are ints and texts; one whose keys are tuples of ints and texts (the empty one is both) -/
  | dK (kvs : List (Key × V)) | dT (kvs : List (List Key × V))
  /-- a set of ints: its members, its size -/
  | set (S : Int → Bool) (n : Nat)
  /-- an instance of the class at C, its dict at dx, its attributes -/
  | ins (C dx : Addr) (fs : List (Str × V))
  /-- the dict of the instance at x -/
  | own (x : Addr)
  /-- the dict of an exception -/
  | xd (fs : List (Str × V))
  /-- a bound method, f of x -/
  | met (f x : Addr)
  /-- a range object lo, lo + 1, .. below hi -/
  | rng (lo hi : Int)
  /-- a thing that is known to the object (the script; a dict while a loop walks it): read, never written while it is so -/
  | frz (o : Obj) (u : HO)
  /-- a code object's table -/
  | tbl (ps : Array Value)
  /-- any other thing, by what is true of its one object (a def of one's own: SetO a S n := HO.ext fun h => ..) -/
  | ext (φ : Heap → Prop)

abbrev Hp := Addr → Option HO
def upd (H : Hp) (a : Addr) (o : HO) : Hp := fun b => if b = a then some o else H b
theorem upd_same {H : Hp} {a : Addr} {o : HO} : upd H a o a = some o := by unfold upd; rw [if_pos rfl]
theorem upd_ne {H : Hp} {a b : Addr} {o : HO} (h : b ≠ a) : upd H a o b = H b := by unfold upd; rw [if_neg h]
theorem upd_upd {H : Hp} {a : Addr} {o u : HO} : upd (upd H a o) a u = upd H a u := by
  funext b; unfold upd; split <;> rfl
/-- two objects of different content stand apart -/
theorem ne_of {H : Hp} {a b : Addr} {o u : HO} (h : H a = some o) (h' : H b = some u) (d : o ≠ u) : a ≠ b := by
  intro e; subst e; rw [h] at h'; exact d (Option.some.inj h')
theorem ne_of_none {H : Hp} {a b : Addr} {o : HO} (h : H a = some o) (h' : H b = none) : a ≠ b := by
  intro e; subst e; rw [h] at h'; cases h'

/-- a tuple, with no dict -/
def TupN (h : Heap) (a : Addr) (items : Array Value) : Prop := ∃ o, h.get? a = some o ∧ o.cls = .type "tuple" ∧ ∃ n, o.data = .seq items n ∧ o.dict = none
theorem TupN.is {h : Heap} {a : Addr} {items : Array Value} (x : TupN h a items) : IsTup h a items := let ⟨o, e, c, n, d, _⟩ := x; ⟨o, e, c, n, d⟩
theorem TupN.new (h : Heap) (items : Array Value) : TupN (h.push { cls := .type "tuple", data := .seq items }) h.objs.size items := ⟨_, Heap.get?_push_size _ rfl, rfl, _, rfl, rfl⟩
section
variable (P : Program) (w : World)
def ObjOk (H : Hp) (h : Heap) (a : Addr) : HO → Prop
  | .lst xs => xs.length ≤ sizeLine ∧ ∃ (its : List Value) (n : Nat), Vals xs its ∧ h.get? a = some { cls := .type "list", data := .seq its.toArray n }
  | .tup xs => xs.length ≤ sizeLine ∧ ∃ its : List Value, Vals xs its ∧ TupN h a its.toArray
  | .dK kvs => kvs.length ≤ sizeLine ∧ (a == sysModules) = false ∧ ∃ vs, KV kvs vs ∧ h.DictOf (mixKind P w) a vs
  | .dT kvs => kvs.length ≤ sizeLine ∧ (a == sysModules) = false ∧ ∃ xs : List (List Key × Addr × Value),
      Paired (fun (p : List Key × V) (q : List Key × Addr × Value) => p.1 = q.1 ∧ H q.2.1 = some (.tup (p.1.map kV)) ∧ RelV p.2 q.2.2) kvs xs ∧
      ∃ o es ep, h.get? a = some o ∧ o.ExactDict ∧ o.data = .dict es ep ∧ es.toList = xs.map (entryOfKey (tupleKind (mixKind P w))) ∧ (xs.map (·.1)).Nodup
  | .set S n => h.SetOf (intKind P w) a S n
  | .ins C dx fs => H dx = some (.own a) ∧ fs.length ≤ 1000 ∧ dx ≠ a ∧ h.get? a = some (PySem.W.instObj C dx) ∧
      ∃ mA, h.Ns1 dx mA ∧ (∀ f, RelO (fs.lookup f) (mA f)) ∧ PySem.Within mA (fs.map (·.1))
  | .own _ => ∃ o, h.get? a = some o
  | .xd fs => ∃ mA, h.Ns1 a mA ∧ ∀ f, RelO (fs.lookup f) (mA f)
  | .rng lo hi => ∃ t u v, h.get? a = some { cls := .type "range", data := .fields #[.int lo t, .int hi u, .int 1 v] }
  | .frz o u => h.get? a = some o ∧ ObjOk H h a u
  | .tbl ps => h.get? a = some { cls := .none, data := .fields ps }
  | .met f x => h.get? a = some (PySem.W.methodObj (.ref f) (.ref x))
  | .ext φ => φ h ∧ (∃ o, h.get? a = some o) ∧ ∀ h1 h2 : Heap, φ h1 → (∀ o, h1.get? a = some o → h2.get? a = some o) → φ h2
/-- the abstract heap is held -/
def HOk (H : Hp) (h : Heap) : Prop := ∀ a o, H a = some o → ObjOk P w H h a o
end

section
variable {P : Program} {w : World} {H H' : Hp} {h h' : Heap} {a : Addr} {o : HO}
theorem ObjOk.lt (x : ObjOk P w H h a o) : a < h.objs.size := by
  cases o with
  | lst xs => obtain ⟨_, _, _, _, e⟩ := x; exact Heap.lt_size e
  | tup xs => obtain ⟨_, _, _, p⟩ := x; exact p.is.lt
  | dK kvs => obtain ⟨_, _, _, _, o, _, _, e, _⟩ := x; exact Heap.lt_size e
  | dT kvs => obtain ⟨_, _, _, _, o, _, _, e, _⟩ := x; exact Heap.lt_size e
  | set S n => obtain ⟨o, _, _, _, e, _⟩ := x; exact Heap.lt_size e
  | ins C dx fs => obtain ⟨_, _, _, e, _⟩ := x; exact Heap.lt_size e
  | own y => obtain ⟨_, e⟩ := x; exact Heap.lt_size e
  | xd fs => obtain ⟨_, ⟨_, _, _, e, _⟩, _⟩ := x; exact Heap.lt_size e
  | rng lo hi => obtain ⟨_, _, _, e⟩ := x; exact Heap.lt_size e
  | frz ob u => obtain ⟨e, _⟩ := x; exact Heap.lt_size e
  | tbl ps => exact Heap.lt_size (show h.get? a = some _ from x)
  | met f y => exact Heap.lt_size (show h.get? a = some _ from x)
  | ext φ => obtain ⟨_, ⟨_, e⟩, _⟩ := x; exact Heap.lt_size e
theorem Paired.mapP {α β : Type} {F G : α → β → Prop} : ∀ {l₁ : List α} {l₂ : List β}, Paired F l₁ l₂ → (∀ a b, F a b → G a b) → Paired G l₁ l₂
  | _, _, .nil, _ => .nil
  | _, _, .cons r t, f => .cons (f _ _ r) (Paired.mapP t f)
theorem Paired.imp' {α β : Type} {F G : α → β → Prop} (f : ∀ a b, F a b → G a b) {l₁ : List α} {l₂ : List β} (r : Paired F l₁ l₂) : Paired G l₁ l₂ := Paired.mapP r f
/-- what an object's description leans on: its own object, its own dict, the tuples -/
theorem ObjOk.stay (x : ObjOk P w H h a o) (k : ∀ b u, (b = a ∨ H b = some (.own a)) → h.get? b = some u → h'.get? b = some u)
    (ho : ∀ b, H b = some (.own a) → H' b = some (.own a)) (ht : ∀ b xs, H b = some (.tup xs) → H' b = some (.tup xs)) : ObjOk P w H' h' a o := by
  induction o with
  | lst xs => obtain ⟨z, its, n, r, e⟩ := x; exact ⟨z, its, n, r, k _ _ (.inl rfl) e⟩
  | tup xs => obtain ⟨z, its, r, ob, e, c⟩ := x; exact ⟨z, its, r, ob, k _ _ (.inl rfl) e, c⟩
  | dK kvs => obtain ⟨z, y, vs, r, ob, es, ep, e, c⟩ := x; exact ⟨z, y, vs, r, ob, es, ep, k _ _ (.inl rfl) e, c⟩
  | dT kvs =>
    obtain ⟨z, y, xs, r, ob, es, ep, e, c⟩ := x
    exact ⟨z, y, xs, Paired.mapP r fun p q z => ⟨z.1, ht _ _ z.2.1, z.2.2⟩, ob, es, ep, k _ _ (.inl rfl) e, c⟩
  | set S n => obtain ⟨ob, es, ep, t, e, c⟩ := x; exact ⟨ob, es, ep, t, k _ _ (.inl rfl) e, c⟩
  | ins C dx fs =>
    obtain ⟨d, z, ne, e, mA, ⟨od, es, ep, e2, c⟩, r⟩ := x
    exact ⟨ho _ d, z, ne, k _ _ (.inl rfl) e, mA, ⟨od, es, ep, k _ _ (.inr d) e2, c⟩, r⟩
  | own y => obtain ⟨ob, e⟩ := x; exact ⟨ob, k _ _ (.inl rfl) e⟩
  | xd fs => obtain ⟨mA, ⟨od, es, ep, e, c⟩, r⟩ := x; exact ⟨mA, ⟨od, es, ep, k _ _ (.inl rfl) e, c⟩, r⟩
  | rng lo hi => obtain ⟨t, u, v, e⟩ := x; exact ⟨t, u, v, k _ _ (.inl rfl) e⟩
  | frz ob u ih => obtain ⟨e, q⟩ := x; exact ⟨k _ _ (.inl rfl) e, ih q⟩
  | tbl ps =>
    have e : h.get? a = some { cls := .none, data := .fields ps } := x
    show h'.get? a = some { cls := .none, data := .fields ps }
    exact k a _ (.inl rfl) e
  | met f y =>
    have e : h.get? a = some (PySem.W.methodObj (.ref f) (.ref y)) := x
    show h'.get? a = some (PySem.W.methodObj (.ref f) (.ref y))
    exact k a _ (.inl rfl) e
  | ext φ => obtain ⟨p, ⟨o, e⟩, st⟩ := x; exact ⟨st _ _ p fun o q => k _ _ (.inl rfl) q, ⟨o, k _ _ (.inl rfl) e⟩, st⟩
theorem HOk.lt (x : HOk P w H h) (e : H a = some o) : a < h.objs.size := (x a o e).lt
theorem HOk.fresh (x : HOk P w H h) (e : h.objs.size ≤ a) : H a = none := by
  cases q : H a with
  | none => rfl
  | some u => exact absurd (Nat.lt_of_lt_of_le (x.lt q) e) (Nat.lt_irrefl _)
/-- every object of the heap is kept -/
theorem HOk.kept (x : HOk P w H h) (k : ∀ b u, h.get? b = some u → h'.get? b = some u) : HOk P w H h' := fun a o e =>
  (x a o e).stay (fun b u _ q => k b u q) (fun _ q => q) fun _ _ q => q
/-- a new object is laid and tracked -/
theorem HOk.laid (x : HOk P w H h) (k : ∀ b u, h.get? b = some u → h'.get? b = some u) (hp : h.objs.size ≤ a) (new : ObjOk P w (upd H a o) h' a o) : HOk P w (upd H a o) h' := fun b u e => by
  have hn := x.fresh hp
  by_cases hb : b = a
  · subst hb; rw [upd_same] at e; cases e; exact new
  · rw [upd_ne hb] at e
    exact (x b u e).stay (fun c v _ q => k c v q) (fun c q => by rw [upd_ne (ne_of_none q hn)]; exact q) fun c xs q => by rw [upd_ne (ne_of_none q hn)]; exact q
end

/-- what may be read as u: it is u, or a known u -/
def Rd (H : Hp) (a : Addr) (u : HO) : Prop := H a = some u ∨ ∃ o, H a = some (.frz o u)
theorem Rd.of {H : Hp} {a : Addr} {u : HO} (h : H a = some u) : Rd H a u := .inl h
theorem Rd.ok {P : Program} {w : World} {H : Hp} {h : Heap} {a : Addr} {u : HO} (r : Rd H a u) (x : HOk P w H h) : ObjOk P w H h a u := by
  rcases r with r | ⟨o, r⟩
  · exact x a u r
  · obtain ⟨_, q⟩ := x a _ r
    exact q
/-- what may be written -/
def Mut : Option HO → Prop
  | some (.lst _) => True
  | some (.dK _) => True
  | some (.dT _) => True
  | some (.set _ _) => True
  | some (.ins _ _ _) => True
  | some (.ext _) => True
  | _ => False
section
variable {P : Program} {w : World} {H : Hp} {h h' : Heap} {x e : Addr} {o' : HO}
/-- the object at e is changed: x itself, or the dict of the instance x -/
theorem HOk.write (ok : HOk P w H h) (mu : Mut (H x)) (he : e = x ∨ H e = some (.own x)) (k : ∀ b u, b ≠ e → h.get? b = some u → h'.get? b = some u) (heo : ∃ u, h'.get? e = some u)
    (new : ObjOk P w (upd H x o') h' x o') : HOk P w (upd H x o') h' := fun b u q => by
  have nown : ∀ c y, H c = some (.own y) → c ≠ x := fun c y r z => by subst z; rw [r] at mu; exact mu
  have ntup : ∀ c xs, H c = some (.tup xs) → c ≠ x := fun c xs r z => by subst z; rw [r] at mu; exact mu
  by_cases hb : b = x
  · subst hb; rw [upd_same] at q; cases q; exact new
  · rw [upd_ne hb] at q
    by_cases hbe : b = e
    · have q' : H b = some (.own x) := by
        rcases he with z | z
        · exact absurd (hbe.trans z) hb
        · rw [hbe]; exact z
      rw [q] at q'; cases q'
      obtain ⟨v, hv⟩ := heo
      exact ⟨v, by rw [hbe]; exact hv⟩
    · refine (ok b u q).stay (fun c v hc r => k c v ?_ r) (fun c r => by rw [upd_ne (nown c b r)]; exact r) fun c xs r => by rw [upd_ne (ntup c xs r)]; exact r
      rcases hc with rfl | hc
      · exact hbe
      · rintro rfl
        rcases he with z | z
        · exact nown c b hc z
        · rw [hc] at z; cases z; exact hb rfl
end

/-! ### kept unless tracked; of the frames at fs (the callers') the slots may change (an exception that passes writes there); of the records at ex (iterators) nothing is said -/
structure Un (fs ex : List Addr) (H H' : Hp) (h h' : Heap) : Prop where
  keep : ∀ b o, h.get? b = some o → H b = none → b ∉ fs → b ∉ ex → h'.get? b = some o
  slot : ∀ b o, h.get? b = some o → H b = none → b ∈ fs → b ∉ ex → ∃ sl, h'.get? b = some { o with slots := sl }
  free : ∀ b o, h.get? b = some o → H b = none → b ∉ ex → H' b = none
  there : ∀ b o, h.get? b = some o → b ∉ ex → ∃ o', h'.get? b = some o'
  tups : ∀ b xs, H b = some (.tup xs) → H' b = some (.tup xs)
  frzs : ∀ b o u, H b = some (.frz o u) → H' b = some (.frz o u)
  tbls : ∀ b ps, H b = some (.tbl ps) → ∃ more, H' b = some (.tbl (ps ++ more))
section
variable {fs fs' ex ex' : List Addr} {H H1 H2 : Hp} {h h1 h2 h' : Heap} {a x e : Addr} {o : HO}
theorem Un.any (u : Un fs ex H H1 h h1) {b : Addr} {ob : Obj} (q : h.get? b = some ob) (n : H b = none) (hx : b ∉ ex) : ∃ sl, h1.get? b = some { ob with slots := sl } := by
  by_cases hb : b ∈ fs
  · exact u.slot b ob q n hb hx
  · exact ⟨ob.slots, u.keep b ob q n hb hx⟩
theorem Un.trans (a : Un fs ex H H1 h h1) (b : Un fs ex H1 H2 h1 h2) : Un fs ex H H2 h h2 where
  keep := fun c ob q n hc hx => b.keep c ob (a.keep c ob q n hc hx) (a.free c ob q n hx) hc hx
  slot := fun c ob q n hc hx => by
    obtain ⟨sl, e1⟩ := a.slot c ob q n hc hx
    obtain ⟨sl', e2⟩ := b.slot c _ e1 (a.free c ob q n hx) hc hx
    exact ⟨sl', e2⟩
  free := fun c ob q n hx => by
    obtain ⟨o', e1⟩ := a.there c ob q hx
    exact b.free c o' e1 (a.free c ob q n hx) hx
  there := fun c ob q hx => by
    obtain ⟨o', e1⟩ := a.there c ob q hx
    exact b.there c o' e1 hx
  tups := fun c xs q => b.tups c xs (a.tups c xs q)
  frzs := fun c ob xs q => b.frzs c ob xs (a.frzs c ob xs q)
  tbls := fun c ps q => by
    obtain ⟨m1, e1⟩ := a.tbls c ps q
    obtain ⟨m2, e2⟩ := b.tbls c _ e1
    exact ⟨m1 ++ m2, by rw [e2, Array.append_assoc]⟩
theorem Un.kept (k : ∀ b u, h.get? b = some u → h'.get? b = some u) : Un fs ex H H h h' :=
  ⟨fun b ob q _ _ _ => k b ob q, fun b ob q _ _ _ => ⟨ob.slots, k b ob q⟩, fun _ _ _ n _ => n, fun b ob q _ => ⟨ob, k b ob q⟩, fun _ _ q => q, fun _ _ _ q => q, fun _ ps q => ⟨#[], by rw [q]; simp⟩⟩
theorem Un.refl : Un fs ex H H h h := Un.kept fun _ _ q => q
theorem Un.laid (k : ∀ b u, h.get? b = some u → h'.get? b = some u) (hp : h.objs.size ≤ a) (hn : H a = none) : Un fs ex H (upd H a o) h h' where
  keep := fun b u q _ _ _ => k b u q
  slot := fun b u q _ _ _ => ⟨u.slots, k b u q⟩
  free := fun b u q n _ => by rw [upd_ne (Nat.ne_of_lt (Nat.lt_of_lt_of_le (Heap.lt_size q) hp))]; exact n
  there := fun b u q _ => ⟨u, k b u q⟩
  tups := fun b xs q => by rw [upd_ne (ne_of_none q hn)]; exact q
  frzs := fun b u xs q => by rw [upd_ne (ne_of_none q hn)]; exact q
  tbls := fun b ps q => ⟨#[], by rw [upd_ne (ne_of_none q hn), q]; simp⟩
theorem Un.write (mu : Mut (H x)) (he : e = x ∨ H e = some (.own x)) (k : ∀ b u, b ≠ e → h.get? b = some u → h'.get? b = some u) (heo : ∃ u, h'.get? e = some u) : Un fs ex H (upd H x o) h h' := by
  have hx : ∀ b, H b = none → b ≠ x := fun b n z => by subst z; rw [n] at mu; exact mu
  have hb : ∀ b, H b = none → b ≠ e := fun b n z => by
    subst z
    rcases he with r | r
    · exact hx b n r
    · rw [n] at r; cases r
  have hm : ∀ b u, H b = some u → ¬ Mut (some u) → b ≠ x := fun b u q nm z => by subst z; rw [q] at mu; exact nm mu
  refine ⟨fun b u q n _ _ => k b u (hb b n) q, fun b u q n _ _ => ⟨u.slots, k b u (hb b n) q⟩, fun b u q n _ => by rw [upd_ne (hx b n)]; exact n, fun b u q _ => ?_,
    fun b xs q => by rw [upd_ne (hm b _ q fun z => z)]; exact q, fun b u xs q => by rw [upd_ne (hm b _ q fun z => z)]; exact q, fun b ps q => ⟨#[], by rw [upd_ne (hm b _ q fun z => z), q]; simp⟩⟩
  by_cases hbe : b = e
  · subst hbe; exact heo
  · exact ⟨u, k b u hbe q⟩
theorem Un.mono (u : Un fs ex H H1 h h1) (hs : ∀ b ∈ fs, b ∈ fs') (hx : ∀ b ∈ ex, b ∈ ex') : Un fs' ex' H H1 h h1 :=
  ⟨fun b ob q n hb he => u.keep b ob q n (fun z => hb (hs b z)) fun z => he (hx b z), fun _ _ q n _ he => u.any q n fun z => he (hx _ z), fun b ob q n he => u.free b ob q n fun z => he (hx b z), fun b ob q he => u.there b ob q fun z => he (hx b z), u.tups, u.frzs, u.tbls⟩
end

/-! ### the heap without what is tracked -/
def trk (h : Heap) (H : Hp) : List Addr := (List.range h.objs.size).filter fun a => (H a).isSome
def hidT (h : Heap) (H : Hp) : Heap := PySem.W.hideAll h (trk h H)
theorem hidT_size (h : Heap) (H : Hp) : (hidT h H).objs.size = h.objs.size := PySem.W.hideAll_size _ _
theorem hidT_get {h : Heap} {H : Hp} {b : Addr} {o : Obj} (e : h.get? b = some o) (n : H b = none) : (hidT h H).get? b = some o :=
  PySem.W.hideAll_get _ e fun hm => by
    have q : (H b).isSome = true := (List.mem_filter.mp hm).2
    rw [n] at q; simp at q
theorem of_hidT {h : Heap} {H : Hp} {b : Addr} {o : Obj} (e : (hidT h H).get? b = some o) : h.get? b = some o ∧ H b = none := by
  have e' : h.get? b = some o := PySem.W.of_hideAll (trk h H) e
  refine ⟨e', ?_⟩
  cases q : H b with
  | none => rfl
  | some x =>
    have hm : b ∈ trk h H := List.mem_filter.mpr ⟨List.mem_range.mpr (Heap.lt_size e'), by simp [q]⟩
    have z : (hidT h H).get? b = none := PySem.W.hideAll_none (trk h H) hm
    rw [z] at e; cases e

/-! ### OpenK's ledger, filled with every new object but one -/
def allNews (g h : Heap) (L : Addr) : List (Addr × Obj) := (List.range h.objs.size).filterMap fun a => if a = L ∨ (g.get? a).isSome = true then none else (h.get? a).map fun o => (a, o)
theorem mem_allNews {g h : Heap} {L a : Addr} {o : Obj} (h1 : a ≠ L) (h2 : g.get? a = none) (h3 : h.get? a = some o) : (a, o) ∈ allNews g h L :=
  List.mem_filterMap.mpr ⟨a, List.mem_range.mpr (Heap.lt_size h3), by simp [h1, h2, h3]⟩
theorem of_mem_allNews {g h : Heap} {L : Addr} {p : Addr × Obj} (hp : p ∈ allNews g h L) : p.1 ≠ L ∧ g.get? p.1 = none ∧ h.get? p.1 = some p.2 := by
  obtain ⟨b, _, e⟩ := List.mem_filterMap.mp hp
  split at e
  · cases e
  · rename_i hn
    cases q : h.get? b with
    | none => rw [q] at e; simp at e
    | some u =>
      rw [q] at e
      simp only [Option.map_some, Option.some.injEq] at e
      subst e
      refine ⟨fun z => hn (.inl z), ?_, q⟩
      show g.get? b = none
      cases r : g.get? b with
      | none => rfl
      | some v => exact (hn (.inr (by simp [r]))).elim
def rest (g h : Heap) (L d : Addr) : List (Addr × Obj) := (allNews g h L).filter fun p => decide (p.1 ≠ d)
theorem news_all {g h : Heap} {L : Addr} : News g L h (allNews g h L) := fun p hp => let ⟨a, b, c⟩ := of_mem_allNews hp; ⟨c, a, b⟩
end L2

namespace L2
open PySem PySem.Spec PyProof.Rows

/-- the module's facts, over the base: the heap at the law's entry without what is tracked there -/
structure Mod (K : PySem.W.Frag) (mg : Str → Option Value) (base : Heap) : Prop where
  kin : K.In base
  glob : base.Ns mainGlobals mg
  blt : ∃ mb, base.Ns builtinsNs mb ∧ ∀ x : Str, x ≠ "__name__" → mb x = bootBuiltins x
  nolimit : base.NoLimit

/-- the context: a def's body (or a comprehension's block) running. base: fixed through the whole law; s₀, H₀: the entry; outer: the frames whose slots others may change (a def's callers); stack: all frames that run;
   ex: iterators that were made ahead of the entry and are walked here (a comprehension's); fn: the names whose cells were made at the entry (a def: all; a comprehension's block: its own); calm: not within an except suite; pn: pins that every state bears; xe: what is wanted of an exception that leaves the code -/
structure Cx where
  prog : Program
  w : World
  K : PySem.W.Frag
  mg : Str → Option Value
  base : Heap
  A : Around
  N : List Str
  s₀ : Shared
  H₀ : Hp
  env : Env
  outer : List Env
  stack : List Env
  ex : List Addr
  fn : Str → Bool
  calm : Bool
  pn : List (Addr × Obj)
  xe : Value → Shared → Prop
/-- the callers' frames -/
def frs (l : List Env) : List Addr := l.filterMap (·.frame)
abbrev Cx.fs (X : Cx) : List Addr := frs X.outer

def Vis (sc : Scope) (x : Str) : Prop := sc.names.lookup x = some .local ∨ sc.names.lookup x = some .cell ∨ sc.names.lookup x = some .free
def Loc (sc : Scope) (x : Str) : Prop := sc.names.lookup x = some .local ∨ sc.names.lookup x = some .cell
def Look (env : Env) (h : Heap) (m : Str → Option Value) (x : Str) (u : Value) : Prop :=
  (env.kindOf x = some .local ∧ m x = some u) ∨ ((env.kindOf x = some .cell ∨ env.kindOf x = some .free) ∧ ∃ c, env.cells.lookup x = some c ∧ h.IsCell c (some u))

structure Cx.Ok (X : Cx) : Prop where
  mod : Mod X.K X.mg X.base
  kind : X.env.scope.kind = .function
  glob : X.env.globals = mainGlobals
  blt : X.env.builtins = builtinsNs
  above : X.s₀.heap.objs.size ≤ X.env.locals
  inj : ∀ x y c, X.env.cells.lookup x = some c → X.env.cells.lookup y = some c → x = y
  has : ∀ x, (X.env.kindOf x = some .cell ∨ X.env.kindOf x = some .free) → ∃ c, X.env.cells.lookup x = some c
  cab : ∀ x c, X.fn x = true → X.env.cells.lookup x = some c → X.s₀.heap.objs.size ≤ c
  hd : X.calm = true → X.A.handled = none
  frames : X.A.frames = some X.stack
  stk : X.stack = X.outer ∨ (X.stack = X.env :: X.outer ∧ X.env.frame = some X.env.locals)
  exf : ∀ b ∈ X.ex, b ≠ X.env.locals ∧ ∀ x c, X.env.cells.lookup x = some c → c ≠ b
  bs : ∀ b o, X.base.get? b = some o → X.s₀.heap.get? b = some o ∧ X.H₀ b = none
  bsz : X.base.objs.size ≤ X.s₀.heap.objs.size
  noex : ∀ b o, X.base.get? b = some o → b ∉ X.ex
  exfs : ∀ b ∈ X.ex, b ∉ X.fs
  funs : X.s₀.heap.FunFrames X.base X.outer
  frf : ∀ b ∈ X.fs, X.H₀ b = none

structure Inv (X : Cx) (pins : List (Addr × Obj)) (σ : List (Option V)) (H : Hp) (s : Shared) : Prop where
  ok : X.Ok
  os : s.os = X.s₀.os
  bare : AllBare s.gens
  base : Un X.fs X.ex X.H₀ H X.s₀.heap s.heap
  loc : ∃ m, s.heap.Ns X.env.locals m ∧ ∀ (i : Nat) (x : Str) (v : V), X.N[i]? = some x → σ[i]? = some (some v) → Vis X.env.scope x → ∃ u, RelV v u ∧ Look X.env s.heap m x u
  cell : ∀ x c, X.env.cells.lookup x = some c → ∃ v, s.heap.IsCell c v
  free : H X.env.locals = none
  freeC : ∀ x c, X.env.cells.lookup x = some c → H c = none
  pin : ∀ p ∈ X.pn ++ pins, s.heap.get? p.1 = some p.2 ∧ H p.1 = none ∧ p.1 ≠ X.env.locals ∧ p.1 ∉ X.fs ∧ ∀ v, p.2.data ≠ .cell v
  hok : HOk X.prog X.w H s.heap
  len : σ.length = X.N.length

section
variable {X : Cx} {pins : List (Addr × Obj)} {σ : List (Option V)} {H H' : Hp} {s : Shared} {h' : Heap}

theorem Cx.Ok.nofr (ok : X.Ok) {b : Addr} {o : Obj} (e : X.base.get? b = some o) : b ∉ X.fs := fun hb => by
  have := (ok.funs.mem hb).1
  rw [e] at this; cases this
theorem Inv.bs (I : Inv X pins σ H s) : ∀ b o, X.base.get? b = some o → s.heap.get? b = some o ∧ H b = none := fun b o e =>
  ⟨I.base.keep b o (I.ok.bs b o e).1 (I.ok.bs b o e).2 (I.ok.nofr e) (I.ok.noex b o e), I.base.free b o (I.ok.bs b o e).1 (I.ok.bs b o e).2 (I.ok.noex b o e)⟩
theorem Inv.bk (I : Inv X pins σ H s) : ∀ b o, X.base.get? b = some o → s.heap.get? b = some o := fun b o e => (I.bs b o e).1
theorem Inv.mod (I : Inv X pins σ H s) : Mod X.K X.mg X.base := I.ok.mod
theorem Inv.kIn (I : Inv X pins σ H s) : X.K.In s.heap := I.ok.mod.kin.keeps I.bk
theorem Inv.nolimit (I : Inv X pins σ H s) : s.heap.NoLimit := I.ok.mod.nolimit.keeps I.bk
/-- the frame over the base: for OpenK's rules (K.In X.base is I.mod.kin) -/
theorem Inv.fr (I : Inv X pins σ H s) : ∃ m, Fr X.base X.env.locals s.heap m :=
  let ⟨m, hn, _⟩ := I.loc
  ⟨m, hn, I.bk, Nat.le_trans I.ok.bsz I.ok.above⟩
theorem Inv.lt (I : Inv X pins σ H s) : X.env.locals < s.heap.objs.size := let ⟨_, hn, _⟩ := I.loc; hn.lt
theorem Inv.sz (I : Inv X pins σ H s) : X.s₀.heap.objs.size ≤ s.heap.objs.size := Nat.le_trans I.ok.above (Nat.le_of_lt I.lt)
theorem Inv.nofs (I : Inv X pins σ H s) {a : Addr} (h : s.heap.objs.size ≤ a) : a ∉ X.fs := fun hb => by
  obtain ⟨_, o, ho, _⟩ := I.ok.funs.mem hb
  exact absurd (Nat.lt_of_lt_of_le (Heap.lt_size ho) (Nat.le_trans I.sz h)) (Nat.lt_irrefl _)
theorem Inv.cne (I : Inv X pins σ H s) : ∀ x c, X.env.cells.lookup x = some c → c ≠ X.env.locals := fun x c e z => by
  obtain ⟨v, o, ho, hd⟩ := I.cell x c e
  obtain ⟨m, ⟨o', es, ep, ho', hd', _⟩, _⟩ := I.loc
  rw [z, ho'] at ho; cases ho; rw [hd'] at hd; cases hd
theorem Inv.funs (I : Inv X pins σ H s) : s.heap.FunFrames X.base X.outer := by
  have all : ∀ (l : List Env), (∀ b ∈ frs l, b ∈ X.fs) → X.s₀.heap.FunFrames X.base l → s.heap.FunFrames X.base l := by
    intro l
    induction l with
    | nil => intro _ _; trivial
    | cons env r ih =>
      intro hs hl
      obtain ⟨hk, ⟨L, o, hf, hn, ho, hd⟩, hr⟩ := hl
      have hL : L ∈ X.fs := hs L (by unfold frs; rw [List.filterMap_cons, hf]; exact List.mem_cons_self)
      obtain ⟨sl, e⟩ := I.base.slot L o ho (I.ok.frf L hL) hL fun z => I.ok.exfs L z hL
      exact ⟨hk, ⟨L, _, hf, hn, e, hd⟩, ih (fun b hb => hs b (by unfold frs; rw [List.filterMap_cons, hf]; exact List.mem_cons_of_mem _ hb)) hr⟩
  exact all X.outer (fun _ hb => hb) I.ok.funs

/-- the frames that run, for a call -/
theorem Inv.stack (I : Inv X pins σ H s) : s.heap.FunFrames X.base X.stack := by
  rcases I.ok.stk with e | ⟨e, hf⟩
  · rw [e]; exact I.funs
  · rw [e]
    obtain ⟨m, hn, _⟩ := I.loc
    refine .cons (by rw [I.ok.kind]; decide) hf hn ?_ I.funs
    exact Heap.get?_none_of_le (Nat.le_trans I.ok.bsz I.ok.above)
theorem Inv.stkSub (I : Inv X pins σ H s) : ∀ b ∈ frs X.stack, b ∈ X.env.locals :: X.fs := fun b hb => by
  rcases I.ok.stk with e | ⟨e, hf⟩
  · rw [e] at hb; exact List.mem_cons_of_mem _ hb
  · rw [e] at hb
    unfold frs at hb
    rw [List.filterMap_cons, hf] at hb
    exact hb
theorem Inv.stkFree (I : Inv X pins σ H s) : ∀ b ∈ frs X.stack, H b = none := fun b hb => by
  rcases List.mem_cons.mp (I.stkSub b hb) with e | hb
  · rw [e]; exact I.free
  · obtain ⟨_, o, ho, _⟩ := I.ok.funs.mem hb
    exact I.base.free b o ho (I.ok.frf b hb) fun z => I.ok.exfs b z hb

/-- THE STEP: the untracked objects but the frame and the records at ch are kept (the callers' frames up to slots), the frame's map is kept, the new abstract heap is held -/
theorem Inv.step {g' : Array GenState} {t' : Nat} {d' : Drawn} {ch : List Addr} (I : Inv X pins σ H s)
    (hch : ∀ b ∈ ch, (b ∈ X.ex ∨ X.s₀.heap.objs.size ≤ b) ∧ b ≠ X.env.locals ∧ (∀ x c, X.env.cells.lookup x = some c → c ≠ b) ∧ ∀ p ∈ X.pn ++ pins, p.1 ≠ b)
    (keep : ∀ b o, b ≠ X.env.locals → b ∉ X.fs → b ∉ ch → s.heap.get? b = some o → H b = none → h'.get? b = some o)
    (slot : ∀ b o, b ≠ X.env.locals → b ∈ X.fs → b ∉ ch → s.heap.get? b = some o → H b = none → ∃ sl, h'.get? b = some { o with slots := sl }) (free : ∀ b o, b ∉ ch → s.heap.get? b = some o → H b = none → H' b = none)
    (there : ∀ b o, b ∉ ch → s.heap.get? b = some o → ∃ o', h'.get? b = some o')
    (tups : ∀ b xs, H b = some (.tup xs) → H' b = some (.tup xs)) (frzs : ∀ b o u, H b = some (.frz o u) → H' b = some (.frz o u)) (tbls : ∀ b ps, H b = some (.tbl ps) → ∃ more, H' b = some (.tbl (ps ++ more)))
    (ns : ∀ m, s.heap.Ns X.env.locals m → h'.Ns X.env.locals m) (hok : HOk X.prog X.w H' h') (hg : AllBare g') :
    Inv X pins σ H' { s with heap := h', gens := g', drawn := d', toks := t' } := by
  have neL : ∀ b o, X.s₀.heap.get? b = some o → b ≠ X.env.locals := fun b o e => Nat.ne_of_lt (Nat.lt_of_lt_of_le (Heap.lt_size e) I.ok.above)
  have neC : ∀ b o, X.s₀.heap.get? b = some o → b ∉ X.ex → b ∉ ch := fun b o e hx hb => by
    rcases (hch b hb).1 with z | z
    · exact hx z
    · exact absurd (Nat.lt_of_lt_of_le (Heap.lt_size e) z) (Nat.lt_irrefl _)
  have cellK : ∀ x c, X.env.cells.lookup x = some c → ∀ v, s.heap.IsCell c v → h'.IsCell c v := fun x c e v ⟨o, ho, hd⟩ => by
    have nch : c ∉ ch := fun z => (hch c z).2.2.1 x c e rfl
    by_cases hc : c ∈ X.fs
    · obtain ⟨sl, q⟩ := slot c o (I.cne x c e) hc nch ho (I.freeC x c e)
      exact ⟨_, q, hd⟩
    · exact ⟨o, keep c o (I.cne x c e) hc nch ho (I.freeC x c e), hd⟩
  refine ⟨I.ok, I.os, hg, ⟨fun b o e n hb hx => ?_, fun b o e n hb hx => ?_, fun b o e n hx => ?_, fun b o e hx => ?_, fun b xs e => tups b xs (I.base.tups b xs e), fun b o xs e => frzs b o xs (I.base.frzs b o xs e), fun b ps e => ?_⟩, ?_, fun x c e => ?_, ?_, fun x c e => ?_, fun p hp => ?_, hok, I.len⟩
  · exact keep b o (neL b o e) hb (neC b o e hx) (I.base.keep b o e n hb hx) (I.base.free b o e n hx)
  · obtain ⟨sl, e1⟩ := I.base.slot b o e n hb hx
    obtain ⟨sl', e2⟩ := slot b _ (neL b o e) hb (neC b o e hx) e1 (I.base.free b o e n hx)
    exact ⟨sl', e2⟩
  · obtain ⟨o', e1⟩ := I.base.there b o e hx
    exact free b o' (neC b o e hx) e1 (I.base.free b o e n hx)
  · obtain ⟨o', e1⟩ := I.base.there b o e hx
    exact there b o' (neC b o e hx) e1
  · obtain ⟨m1, e1⟩ := I.base.tbls b ps e
    obtain ⟨m2, e2⟩ := tbls b _ e1
    exact ⟨m1 ++ m2, by rw [e2, Array.append_assoc]⟩
  · obtain ⟨m, hn, hl⟩ := I.loc
    refine ⟨m, ns m hn, fun i x v e1 e2 e3 => ?_⟩
    obtain ⟨u, r, l⟩ := hl i x v e1 e2 e3
    refine ⟨u, r, ?_⟩
    rcases l with l | ⟨k, c, e, z⟩
    · exact .inl l
    · exact .inr ⟨k, c, e, cellK x c e _ z⟩
  · obtain ⟨v, z⟩ := I.cell x c e
    exact ⟨v, cellK x c e v z⟩
  · obtain ⟨m, ⟨o, _, _, ho, _⟩, _⟩ := I.loc
    exact free _ o (fun z => (hch _ z).2.1 rfl) ho I.free
  · obtain ⟨v, o, ho, hd⟩ := I.cell x c e
    exact free c o (fun z => (hch c z).2.2.1 x c e rfl) ho (I.freeC x c e)
  · obtain ⟨e, n, ne, nf, d⟩ := I.pin p hp
    have nch : p.1 ∉ ch := fun z => (hch p.1 z).2.2.2 p hp rfl
    exact ⟨keep p.1 p.2 ne nf nch e n, free p.1 p.2 nch e n, ne, nf, d⟩
/-- .. where the frame's own object is kept too -/
theorem Inv.un {t' : Nat} (I : Inv X pins σ H s) (u : Un X.fs [] H H' s.heap h') (hok : HOk X.prog X.w H' h') : Inv X pins σ H' { s with heap := h', toks := t' } := by
  obtain ⟨m, ⟨o, es, ep, ho, r⟩, _⟩ := id I.loc
  obtain ⟨sl, hL⟩ := u.any ho I.free (by simp)
  exact I.step (g' := s.gens) (d' := s.drawn) (ch := []) (fun _ z => nomatch z) (fun b o _ hb _ e n => u.keep b o e n hb (by simp)) (fun b o _ hb _ e n => u.slot b o e n hb (by simp)) (fun b o _ e n => u.free b o e n (by simp)) (fun b o _ e => u.there b o e (by simp)) u.tups u.frzs u.tbls (fun m' hm => by
    obtain ⟨o', es', ep', ho', r'⟩ := hm
    rw [ho] at ho'; cases ho'
    exact ⟨_, es', ep', hL, r'⟩) hok I.bare
/-- behind a call (or a comprehension's block): the slots of this frame may have changed too, the records at ch may have turned -/
theorem Inv.call {g' : Array GenState} {t' : Nat} {d' : Drawn} {ch : List Addr} (I : Inv X pins σ H s) (u : Un (frs X.stack) ch H H' s.heap h') (hok : HOk X.prog X.w H' h') (hg : AllBare g')
    (hch : ∀ b ∈ ch, (b ∈ X.ex ∨ X.s₀.heap.objs.size ≤ b) ∧ b ≠ X.env.locals ∧ (∀ x c, X.env.cells.lookup x = some c → c ≠ b) ∧ ∀ p ∈ X.pn ++ pins, p.1 ≠ b) :
    Inv X pins σ H' { s with heap := h', gens := g', drawn := d', toks := t' } := by
  obtain ⟨m, ⟨o, es, ep, ho, r⟩, _⟩ := id I.loc
  obtain ⟨sl, hL⟩ := u.any ho I.free fun z => (hch _ z).2.1 rfl
  exact I.step (ch := ch) hch (fun b o hL hb hc e n => u.keep b o e n (fun z => (List.mem_cons.mp (I.stkSub b z)).elim hL hb) hc) (fun b o _ _ hc e n => u.any e n hc) (fun b o hc e n => u.free b o e n hc) (fun b o hc e => u.there b o e hc) u.tups u.frzs u.tbls (fun m' hm => by
    obtain ⟨o', es', ep', ho', r'⟩ := hm
    rw [ho] at ho'; cases ho'
    exact ⟨_, es', ep', hL, r'⟩) hok hg
/-- an untracked record of ours (an iterator) has turned -/
theorem Inv.turned {t' : Nat} {it : Addr} (I : Inv X pins σ H s) (k : ∀ b o, b ≠ it → s.heap.get? b = some o → h'.get? b = some o) (hn : H it = none) (hL : it ≠ X.env.locals)
    (h1 : it ∈ X.ex ∨ X.s₀.heap.objs.size ≤ it) (h2 : ∀ x c, X.env.cells.lookup x = some c → c ≠ it) (h3 : ∀ p ∈ X.pn ++ pins, p.1 ≠ it) : Inv X pins σ H { s with heap := h', toks := t' } := by
  have nit : ∀ b u, H b = some u → b ≠ it := fun b u e z => by rw [z, hn] at e; cases e
  refine I.step (g' := s.gens) (d' := s.drawn) (ch := [it]) (fun b hb => ?_) (fun b o _ _ hc e _ => k b o (fun z => hc (by simp [z])) e) (fun b o _ _ hc e _ => ⟨o.slots, k b o (fun z => hc (by simp [z])) e⟩) (fun _ _ _ _ n => n)
    (fun b o hc e => ⟨o, k b o (fun z => hc (by simp [z])) e⟩) (fun _ _ e => e) (fun _ _ _ e => e) (fun b ps e => ⟨#[], by rw [e]; simp⟩) (fun m hm => ?_) (fun b u e => ?_) I.bare
  · have e : b = it := by simpa using hb
    subst e
    exact ⟨h1, hL, h2, h3⟩
  · obtain ⟨o, es, ep, ho, r⟩ := hm
    exact ⟨o, es, ep, k _ o (Ne.symm hL) ho, r⟩
  · refine (I.hok b u e).stay (fun c v hc q => k c v ?_ q) (fun _ q => q) fun _ _ q => q
    rcases hc with z | z
    · rw [z]; exact nit b u e
    · exact nit c _ z
theorem Inv.tok (I : Inv X pins σ H s) (t : Nat) : Inv X pins σ H { s with toks := t } := I.un (h' := s.heap) (t' := t) Un.refl I.hok
/-- all objects kept -/
theorem Inv.kept {t' : Nat} (I : Inv X pins σ H s) (k : ∀ b u, s.heap.get? b = some u → h'.get? b = some u) : Inv X pins σ H { s with heap := h', toks := t' } := I.un (Un.kept k) (I.hok.kept k)
/-- a new object laid and tracked -/
theorem Inv.laid {a : Addr} {o : HO} {t' : Nat} (I : Inv X pins σ H s) (k : ∀ b u, s.heap.get? b = some u → h'.get? b = some u) (hp : s.heap.objs.size ≤ a) (new : ObjOk X.prog X.w (upd H a o) h' a o) :
    Inv X pins σ (upd H a o) { s with heap := h', toks := t' } := I.un (Un.laid k hp (I.hok.fresh hp)) (I.hok.laid k hp new)
/-- an object written -/
theorem Inv.write {x e : Addr} {o : HO} {t' : Nat} (I : Inv X pins σ H s) (mu : Mut (H x)) (he : e = x ∨ H e = some (.own x)) (k : ∀ b u, b ≠ e → s.heap.get? b = some u → h'.get? b = some u) (heo : ∃ u, h'.get? e = some u)
    (new : ObjOk X.prog X.w (upd H x o) h' x o) : Inv X pins σ (upd H x o) { s with heap := h', toks := t' } := I.un (Un.write mu he k heo) (I.hok.write mu he k heo new)
/-- forgetting slots, pins -/
theorem Inv.weak {σ' : List (Option V)} (I : Inv X pins σ H s) (hl : σ'.length = σ.length) (w : ∀ (i : Nat) v, σ'[i]? = some (some v) → σ[i]? = some (some v)) : Inv X pins σ' H s :=
  ⟨I.ok, I.os, I.bare, I.base, let ⟨m, hn, hl'⟩ := I.loc; ⟨m, hn, fun i x v e1 e2 e3 => hl' i x v e1 (w i v e2) e3⟩, I.cell, I.free, I.freeC, I.pin, I.hok, hl.trans I.len⟩
theorem Inv.pins_of {pins' : List (Addr × Obj)} (I : Inv X pins σ H s) (h : ∀ p ∈ pins', s.heap.get? p.1 = some p.2 ∧ H p.1 = none ∧ p.1 ≠ X.env.locals ∧ p.1 ∉ X.fs ∧ ∀ v, p.2.data ≠ .cell v) : Inv X pins' σ H s :=
  ⟨I.ok, I.os, I.bare, I.base, I.loc, I.cell, I.free, I.freeC, fun p hp => (List.mem_append.mp hp).elim (fun z => I.pin p (List.mem_append_left _ z)) (h p), I.hok, I.len⟩

theorem nodup_ix {N : List Str} (hN : N.Nodup) {i j : Nat} {x : Str} (a : N[i]? = some x) (b : N[j]? = some x) : i = j := by
  obtain ⟨h1, e1⟩ := List.getElem?_eq_some_iff.mp a
  obtain ⟨h2, e2⟩ := List.getElem?_eq_some_iff.mp b
  exact (List.getElem_inj hN).mp (e1.trans e2.symm)

/-- a name is stored; what changed -/
theorem store_ok2 {M : Model} {A : Around} {E : Value → Shared → Prop} {i : Nat} {x : Str} {v : V} {u : Value} {Q : Unit → Shared → Prop} (I : Inv X pins σ H s) (hN : X.N.Nodup) (hi : X.N[i]? = some x) (hx : Loc X.env.scope x) (r : RelV v u)
    (h : ∀ s', Inv X pins (σ.set i (some v)) H s' → (∃ a, Heap.SameBut a s.heap s'.heap ∧ (a = X.env.locals ∨ X.env.cells.lookup x = some a)) → Q () s') (hf : X.fn x = true ∨ X.env.scope.names.lookup x = some .local := by first | exact .inl rfl | exact .inr rfl | assumption) : wpAny M A (storeName X.env x u) Q E s := by
  obtain ⟨m, hn, hl⟩ := id I.loc
  have hcls : (X.env.scope.kind == .class || (X.env.scope.kind == .module && X.env.locals != X.env.globals)) = false := by rw [I.ok.kind]; rfl
  have hiσ : i < σ.length := by rw [I.len]; exact (List.getElem?_eq_some_iff.mp hi).1
  have cne := I.cne
  have tracked : ∀ {a : Addr} {h' : Heap}, (∃ o, s.heap.get? a = some o ∧ H a = none) → Heap.SameBut a s.heap h' → HOk X.prog X.w H h' := fun {a h'} ha hs b ob e => by
    obtain ⟨_, _, hfree⟩ := ha
    refine (I.hok b ob e).stay (fun c w' hc q => (hs.2 c ?_).trans q) (fun _ q => q) fun _ _ q => q
    rintro rfl
    rcases hc with rfl | hc
    · rw [hfree] at e; cases e
    · rw [hfree] at hc; cases hc
  rcases hx with hk | hk
  · refine wpAny_storeName_local hk hn (fun h' hn' hs => ?_) hcls
    obtain ⟨oL, _, _, hoL, _⟩ := id hn
    refine h _ ⟨I.ok, I.os, I.bare, ⟨fun b o e n hb hx => ?_, fun b o e n hb hx => ?_, I.base.free, fun b o e hx => ?_, I.base.tups, I.base.frzs, I.base.tbls⟩, ⟨_, hn', fun j y v' e1 e2 e3 => ?_⟩, fun y c e => ?_, I.free, I.freeC, fun p hp => ?_, tracked ⟨oL, hoL, I.free⟩ hs, by simpa using I.len⟩ ⟨_, hs, .inl rfl⟩
    · exact (hs.2 b (Nat.ne_of_lt (Nat.lt_of_lt_of_le (Heap.lt_size e) I.ok.above))).trans (I.base.keep b o e n hb hx)
    · obtain ⟨sl, e1⟩ := I.base.slot b o e n hb hx
      exact ⟨sl, (hs.2 b (Nat.ne_of_lt (Nat.lt_of_lt_of_le (Heap.lt_size e) I.ok.above))).trans e1⟩
    · obtain ⟨o', e1⟩ := I.base.there b o e hx
      exact ⟨o', (hs.2 b (Nat.ne_of_lt (Nat.lt_of_lt_of_le (Heap.lt_size e) I.ok.above))).trans e1⟩
    · by_cases hj : j = i
      · subst hj
        rw [hi] at e1; cases e1
        rw [List.getElem?_set_self hiσ] at e2
        cases e2
        exact ⟨u, r, .inl ⟨hk, by simp⟩⟩
      · rw [List.getElem?_set_ne (Ne.symm hj)] at e2
        obtain ⟨u', r', q⟩ := hl j y v' e1 e2 e3
        refine ⟨u', r', ?_⟩
        rcases q with ⟨k, e⟩ | ⟨k, c, e, z⟩
        · refine .inl ⟨k, ?_⟩
          have : y ≠ x := fun e => hj (nodup_ix hN e1 (e ▸ hi))
          simp [this, e]
        · exact .inr ⟨k, c, e, z.sameBut hs (cne y c e)⟩
    · obtain ⟨w', z⟩ := I.cell y c e
      exact ⟨w', z.sameBut hs (cne y c e)⟩
    · obtain ⟨e, n, ne, nf, d⟩ := I.pin p hp
      exact ⟨(hs.2 p.1 ne).trans e, n, ne, nf, d⟩
  · have hfn : X.fn x = true := by
      rcases hf with z | z
      · exact z
      · rw [z] at hk; cases hk
    obtain ⟨c, hc⟩ := I.ok.has x (.inl hk)
    obtain ⟨w', z⟩ := I.cell x c hc
    refine wpAny_storeName_cell I.ok.kind hk hc z (fun h' hc' hs => ?_)
    obtain ⟨oc, hoc, hocd⟩ := id z
    refine h { s with heap := h' } ⟨I.ok, I.os, I.bare, ⟨fun b o e n hb hx => ?_, fun b o e n hb hx => ?_, I.base.free, fun b o e hx => ?_, I.base.tups, I.base.frzs, I.base.tbls⟩, ⟨m, hn.sameBut hs (Ne.symm (cne x c hc)), fun j y v' e1 e2 e3 => ?_⟩, fun y c' e => ?_, I.free, I.freeC, fun p hp => ?_, tracked ⟨oc, hoc, I.freeC x c hc⟩ hs, by simpa using I.len⟩ ⟨c, hs, .inr hc⟩
    · exact (hs.2 b (Nat.ne_of_lt (Nat.lt_of_lt_of_le (Heap.lt_size e) (I.ok.cab x c hfn hc)))).trans (I.base.keep b o e n hb hx)
    · obtain ⟨sl, e1⟩ := I.base.slot b o e n hb hx
      exact ⟨sl, (hs.2 b (Nat.ne_of_lt (Nat.lt_of_lt_of_le (Heap.lt_size e) (I.ok.cab x c hfn hc)))).trans e1⟩
    · obtain ⟨o', e1⟩ := I.base.there b o e hx
      exact ⟨o', (hs.2 b (Nat.ne_of_lt (Nat.lt_of_lt_of_le (Heap.lt_size e) (I.ok.cab x c hfn hc)))).trans e1⟩
    · by_cases hj : j = i
      · subst hj
        rw [hi] at e1; cases e1
        rw [List.getElem?_set_self hiσ] at e2
        cases e2
        exact ⟨u, r, .inr ⟨.inl hk, c, hc, hc'⟩⟩
      · rw [List.getElem?_set_ne (Ne.symm hj)] at e2
        obtain ⟨u', r', q⟩ := hl j y v' e1 e2 e3
        refine ⟨u', r', ?_⟩
        rcases q with q | ⟨k, c', e, z'⟩
        · exact .inl q
        · refine .inr ⟨k, c', e, z'.sameBut hs ?_⟩
          rintro rfl
          exact hj (nodup_ix hN e1 (I.ok.inj _ _ _ e hc ▸ hi))
    · by_cases hcc : c' = c
      · subst hcc; exact ⟨_, hc'⟩
      · obtain ⟨w2, z2⟩ := I.cell y c' e
        exact ⟨w2, z2.sameBut hs hcc⟩
    · obtain ⟨e, n, ne, nf, d⟩ := I.pin p hp
      refine ⟨(hs.2 p.1 ?_).trans e, n, ne, nf, d⟩
      intro q
      rw [q, hoc] at e
      have q' : oc = p.2 := Option.some.inj e
      exact d w' (by rw [← q']; exact hocd)
theorem store_ok {M : Model} {A : Around} {E : Value → Shared → Prop} {i : Nat} {x : Str} {v : V} {u : Value} {Q : Unit → Shared → Prop} (I : Inv X pins σ H s) (hN : X.N.Nodup) (hi : X.N[i]? = some x) (hx : Loc X.env.scope x) (r : RelV v u)
    (h : ∀ s', Inv X pins (σ.set i (some v)) H s' → Q () s') (hf : X.fn x = true ∨ X.env.scope.names.lookup x = some .local := by first | exact .inl rfl | exact .inr rfl | assumption) : wpAny M A (storeName X.env x u) Q E s :=
  store_ok2 I hN hi hx r (fun s' I' _ => h s' I') hf
/-- behind a call or a block, the state as it is -/
theorem Inv.call' {s' : Shared} {ch : List Addr} (I : Inv X pins σ H s) (ho : s'.os = s.os) (u : Un (frs X.stack) ch H H' s.heap s'.heap) (hok : HOk X.prog X.w H' s'.heap) (hg : AllBare s'.gens)
    (hch : ∀ b ∈ ch, (b ∈ X.ex ∨ X.s₀.heap.objs.size ≤ b) ∧ b ≠ X.env.locals ∧ (∀ x c, X.env.cells.lookup x = some c → c ≠ b) ∧ ∀ p ∈ X.pn ++ pins, p.1 ≠ b) : Inv X pins σ H' s' := by
  obtain ⟨h', g', d', t', o'⟩ := s'
  have e : o' = s.os := ho
  subst e
  exact I.call (g' := g') (t' := t') (d' := d') u hok hg hch
end

/-! ### the judgements -/
/-- an exception: its class, its own dict's address (where it has one), the abstract heap behind it -/
abbrev XK := Value → Option Addr → Hp → Prop
abbrev St := List (Option V)
abbrev VK := V → Hp → Prop
/-- an expression's reading; a test's; an argument list's -/
abbrev TE := St → Hp → VK → Prop
abbrev TT := St → Hp → (Bool → Hp → Prop) → Prop
abbrev TA := St → Hp → (List V → Hp → Prop) → Prop
/-- what is wanted behind a statement -/
structure Ends where
  nx : St → Hp → Prop
  rt : VK
  bk : St → Hp → Prop := fun _ _ => False
  ct : St → Hp → Prop := fun _ _ => False
abbrev TS := Ends → St → Hp → Prop

def EP (X : Cx) (pins : List (Addr × Obj)) (σ : St) (Q : VK) (u : Value) (s' : Shared) : Prop := ∃ v H', Inv X pins σ H' s' ∧ RelV v u ∧ Q v H'
def TP (X : Cx) (pins : List (Addr × Obj)) (σ : St) (Q : Bool → Hp → Prop) (b : Bool) (s' : Shared) : Prop := ∃ H', Inv X pins σ H' s' ∧ Q b H'
def AP (X : Cx) (pins : List (Addr × Obj)) (σ : St) (Q : List V → Hp → Prop) (us : List Value) (s' : Shared) : Prop := ∃ vs H', Inv X pins σ H' s' ∧ Vals vs us ∧ Q vs H'
def SP (X : Cx) (pins : List (Addr × Obj)) (D : Ends) (f : Flow) (s' : Shared) : Prop :=
  match f with
  | .next => ∃ σ' H', Inv X pins σ' H' s' ∧ D.nx σ' H'
  | .brk => ∃ σ' H', Inv X pins σ' H' s' ∧ D.bk σ' H'
  | .cont => ∃ σ' H', Inv X pins σ' H' s' ∧ D.ct σ' H'
  | .ret u => ∃ v σ' H', Inv X pins σ' H' s' ∧ RelV v u ∧ D.rt v H'

def PE (X : Cx) (e : Expr) (t : TE) : Prop :=
  ∀ (pins : List (Addr × Obj)) (s : Shared) (σ : St) (H : Hp) (Q : VK), Inv X pins σ H s → t σ H Q → wpAny (model X.prog X.w) X.A (eval e X.env) (EP X pins σ Q) X.xe s
def PT (X : Cx) (e : Expr) (t : TT) : Prop :=
  ∀ (pins : List (Addr × Obj)) (s : Shared) (σ : St) (H : Hp) (Q : Bool → Hp → Prop), Inv X pins σ H s → t σ H Q → wpAny (model X.prog X.w) X.A (isTrue e X.env (eval e X.env)) (TP X pins σ Q) X.xe s
/-- a test whatever its 'whole' is (and, or) -/
def PW (X : Cx) (e : Expr) (t : TT) : Prop :=
  ∀ (whole : Sem Value) (pins : List (Addr × Obj)) (s : Shared) (σ : St) (H : Hp) (Q : Bool → Hp → Prop), Inv X pins σ H s → t σ H Q → wpAny (model X.prog X.w) X.A (isTrue e X.env whole) (TP X pins σ Q) X.xe s
theorem PW.pt {X : Cx} {e : Expr} {t : TT} (h : PW X e t) : PT X e t := h _
/-- an argument list (no star), from the left -/
def PA (X : Cx) (es : List Expr) (t : TA) : Prop :=
  ∀ (pos : Pos) (pins : List (Addr × Obj)) (s : Shared) (σ : St) (H : Hp) (Q : List V → Hp → Prop), Inv X pins σ H s → t σ H Q → wpAny (model X.prog X.w) X.A (spliced (backTo pos (starEach es X.env))) (AP X pins σ Q) X.xe s
def PS (X : Cx) (st : Stmt) (t : TS) : Prop :=
  ∀ (pins : List (Addr × Obj)) (s : Shared) (σ : St) (H : Hp) (D : Ends), Inv X pins σ H s → t D σ H → wpAny (model X.prog X.w) X.A (exec st X.env) (SP X pins D) X.xe s
def PSs (X : Cx) (st : List Stmt) (t : TS) : Prop :=
  ∀ (pins : List (Addr × Obj)) (s : Shared) (σ : St) (H : Hp) (D : Ends), Inv X pins σ H s → t D σ H → wpAny (model X.prog X.w) X.A (execs st X.env) (SP X pins D) X.xe s
/-- weaken the end -/
theorem thn {α : Type} {t : Sem α} {Q Q' : α → Shared → Prop} {M : Model} {A : Around} {E : Value → Shared → Prop} {s : Shared} (h : wpAny M A t Q E s) (hQ : ∀ a s, Q a s → Q' a s) : wpAny M A t Q' E s := wpAny_mono h hQ fun _ _ x => x
end L2

namespace L2
open PySem PySem.Spec PyProof.Rows
section
variable {X : Cx}

/-- two expressions in a row -/
theorem bin {a b : Expr} {ta tb : TE} (ha : PE X a ta) (hb : PE X b tb) {pins : List (Addr × Obj)} {s : Shared} {σ : St} {H : Hp} {R : V → V → Hp → Prop} (I : Inv X pins σ H s) (h : ta σ H fun x H1 => tb σ H1 fun y H2 => R x y H2)
    {α : Type} {Q : α → Shared → Prop} {f : Value → Value → Sem α}
    (hf : ∀ v u s2 x y H2, Inv X pins σ H2 s2 → RelV x v → RelV y u → R x y H2 → wpAny (model X.prog X.w) X.A (f v u) Q X.xe s2) :
    wpAny (model X.prog X.w) X.A (eval a X.env) (fun v s₁ => wpAny (model X.prog X.w) X.A (eval b X.env) (fun u s₂ => wpAny (model X.prog X.w) X.A (f v u) Q X.xe s₂) X.xe s₁) X.xe s := by
  refine thn (ha pins s σ H _ I h) fun v s1 ⟨x, H1, I1, r1, q1⟩ => ?_
  refine thn (hb pins s1 σ H1 _ I1 q1) fun u s2 ⟨y, H2, I2, r2, q2⟩ => ?_
  exact hf v u s2 x y H2 I2 r1 r2 q2

/-! ### names and constants -/
def tVar (i : Nat) : TE := fun σ H Q => ∃ v, σ[i]? = some (some v) ∧ Q v H
def tC (v : V) : TE := fun _ H Q => Q v H
theorem pe_var {i : Nat} {x : Str} {pos : Pos} (hN : X.N[i]? = some x) (hv : Vis X.env.scope x) (hd : (x == ("__debug__" : Str)) = false := by decide) (hcd : (x == ("__classdict__" : Str)) = false := by decide) : PE X (.Name x pos) (tVar i) := by
  intro pins s σ H Q I h
  obtain ⟨v, e, h⟩ := h
  obtain ⟨m, hn, hl⟩ := I.loc
  obtain ⟨u, r, l⟩ := hl i x v hN e hv
  have fin : EP X pins σ Q u s := ⟨v, H, I, r, h⟩
  rcases l with ⟨hk, hm⟩ | ⟨hk, c, hc, hcell⟩
  · exact wpAny_Name (wpAny_loadName_local I.ok.kind hk hn hm fin) hd
  · rcases hk with hk | hk
    · exact wpAny_Name (wpAny_loadName_cell I.ok.kind hk hc hcell fin) hd
    · exact wpAny_Name (wpAny_loadName_free I.ok.kind hk hc hcell fin hcd) hd
theorem pe_int {i j pos} : PE X (.Constant (.int i) j pos) (tC (.int i)) := fun _ _ _ H _ I h => wpAny_Constant_int ⟨.int i, H, I.tok _, ⟨_, rfl⟩, h⟩
theorem pe_bl {b j pos} : PE X (.Constant (.bool b) j pos) (tC (.bl b)) := fun _ _ _ H _ I h => Constant_bool ⟨.bl b, H, I, rfl, h⟩
theorem pe_non {j pos} : PE X (.Constant .none j pos) (tC .non) := fun _ _ _ H _ I h => Constant_none ⟨.non, H, I, rfl, h⟩
theorem pe_str {x j pos} : PE X (.Constant (.str x) j pos) (tC (.str x)) := fun _ _ _ H _ I h => Calls.Constant_str ⟨.str x, H, I.tok _, ⟨_, rfl⟩, h⟩

/-- a global name of the def -/
def Gl (X : Cx) (x : Str) : Prop := X.env.kindOf x = some .globalImplicit
theorem ld_glob {E : Value → Shared → Prop} {pins : List (Addr × Obj)} {s : Shared} {σ : St} {H : Hp} {x : Str} {u : Value} {pos : Pos} {Q : Value → Shared → Prop} (I : Inv X pins σ H s) (hg : Gl X x) (hm : X.mg x = some u) (h : Q u s)
    (hd : (x == ("__debug__" : Str)) = false := by decide) : wpAny (model X.prog X.w) X.A (eval (.Name x pos) X.env) Q E s :=
  Calls.Name_function_global I.ok.kind hg (Calls.loadGlobal_global (by rw [I.ok.glob]; exact I.mod.glob.keeps I.bk) hm h) hd
theorem ld_blt {E : Value → Shared → Prop} {pins : List (Addr × Obj)} {s : Shared} {σ : St} {H : Hp} {x : Str} {u : Value} {pos : Pos} {Q : Value → Shared → Prop} (I : Inv X pins σ H s) (hg : Gl X x) (hm : X.mg x = none) (hv : bootBuiltins x = some u) (h : Q u s)
    (hn : x ≠ "__name__" := by decide) (hd : (x == ("__debug__" : Str)) = false := by decide) : wpAny (model X.prog X.w) X.A (eval (.Name x pos) X.env) Q E s := by
  obtain ⟨mb, h1, h2⟩ := I.mod.blt
  exact Calls.Name_function_global I.ok.kind hg (Calls.loadGlobal_builtin (by rw [I.ok.glob]; exact I.mod.glob.keeps I.bk) hm (by rw [I.ok.blt]; exact h1.keeps I.bk) ((h2 x hn).trans hv) h) hd
theorem pe_bltn {x : Str} {v : V} {u : Value} {pos : Pos} (hg : Gl X x) (hm : X.mg x = none) (hv : bootBuiltins x = some u) (r : RelV v u) (hn : x ≠ "__name__" := by decide) (hd : (x == ("__debug__" : Str)) = false := by decide) : PE X (.Name x pos) (tC v) :=
  fun _ _ _ H _ I h => ld_blt I hg hm hv ⟨v, H, I, r, h⟩ hn hd

/-! ### arithmetic -/
/-- two ints -/
def t2I (ta tb : TE) (k : Int → Int → Hp → Prop) : St → Hp → Prop := fun σ H => ta σ H fun x H1 => tb σ H1 fun y H2 => ∃ i j, x = .int i ∧ y = .int j ∧ k i j H2
def tAdd (ta tb : TE) : TE := fun σ H Q => t2I ta tb (fun i j H2 => Q (.int (i + j)) H2) σ H
def tSub (ta tb : TE) : TE := fun σ H Q => t2I ta tb (fun i j H2 => Q (.int (i - j)) H2) σ H
/-- the left factor below 2^64 -/
def tMul (ta tb : TE) : TE := fun σ H Q => t2I ta tb (fun i j H2 => (-(2 ^ 64) < i ∧ i < 2 ^ 64) ∧ Q (.int (i * j)) H2) σ H
variable {a b : Expr} {ta tb : TE} {pos : Pos}
/-! ### comparisons -/
def PC (X : Cx) (op : CmpOp) (a b : Expr) (t : TE) : Prop :=
  ∀ (pins : List (Addr × Obj)) (s : Shared) (σ : St) (H : Hp) (Q : VK), Inv X pins σ H s → t σ H Q →
    wpAny (model X.prog X.w) X.A (eval a X.env) (fun v s₁ => wpAny (model X.prog X.w) X.A (eval b X.env) (fun u s₂ => wpAny (model X.prog X.w) X.A (compareOp op v u) (EP X pins σ Q) X.xe s₂) X.xe s₁) X.xe s
theorem nobehind (b : Expr) {op : CmpOp} (h : op ≠ .In) (h2 : op ≠ .NotIn) : behindInMarks op b = false := by
  have e1 : (op == CmpOp.In) = false := by cases op <;> first | rfl | exact absurd rfl h
  have e2 : (op == CmpOp.NotIn) = false := by cases op <;> first | rfl | exact absurd rfl h2
  cases b <;> simp [behindInMarks, e1, e2]
def tCmp (p : Int → Int → Bool) (ta tb : TE) : TE := fun σ H Q => t2I ta tb (fun i j H2 => Q (.bl (p i j)) H2) σ H
abbrev tLt : TE → TE → TE := tCmp fun i j => decide (i < j)
abbrev tLe : TE → TE → TE := tCmp fun i j => decide (i ≤ j)
abbrev tGt : TE → TE → TE := tCmp fun i j => decide (j < i)
abbrev tGe : TE → TE → TE := tCmp fun i j => decide (j ≤ i)
abbrev tEqI : TE → TE → TE := tCmp fun i j => decide (i = j)
abbrev tNeI : TE → TE → TE := tCmp fun i j => !decide (i = j)
/-- is None -/
def tIsN (ta : TE) : TE := fun σ H Q => ta σ H fun x H1 => Q (.bl (decide (x = .non))) H1
def tNotN (ta : TE) : TE := fun σ H Q => ta σ H fun x H1 => Q (.bl (!decide (x = .non))) H1
/-- a comparison as a value, as a test -/
def tB (t : TE) : TT := fun σ H Q => t σ H fun x H1 => ∃ c, x = .bl c ∧ Q c H1
theorem pt_cmp {op : CmpOp} {t : TE} (h : PC X op a b t) (h1 : behindInMarks op b = false := by first | exact nobehind _ (by decide) (by decide) | rfl) : PT X (.Compare a [op] [b] pos) (tB t) := by
  intro pins s σ H Q I hw
  refine wpAny_isTrue_Compare1 (thn (h pins s σ H _ I hw) fun v s1 h1 => thn h1 fun u s2 h2 => thn h2 fun c s3 ⟨x, H1, I1, r1, q1⟩ => ?_) h1
  obtain ⟨d, rfl, q⟩ := q1
  cases r1
  exact wpAny_truthy_bool ⟨H1, I1, q⟩
/-- an expression whose value is a bool, as a test -/
theorem pt_val {e : Expr} {t : TE} (h : PE X e t) (he : ∀ whole, isTrue e X.env whole = (do let v ← whole; standAt e.pos; holding [v] (truthy v)) := by intro _; rfl) : PT X e (tB t) := by
  intro pins s σ H Q I hw
  refine isTrue_plain (thn (h pins s σ H _ I hw) fun v s1 ⟨x, H1, I1, r1, q1⟩ => ?_) (he _)
  obtain ⟨d, rfl, q⟩ := q1
  cases r1
  exact wpAny_truthy_bool ⟨H1, I1, q⟩

/-! ### and, or, not -/
variable {tA tB' : TT} {rest : List Expr}
def tAnd (t u : TT) : TT := fun σ H Q => t σ H fun c H1 => if c = true then u σ H1 Q else Q false H1
def tOr (t u : TT) : TT := fun σ H Q => t σ H fun c H1 => if c = true then Q true H1 else u σ H1 Q
def tNot (t : TT) : TT := fun σ H Q => t σ H fun c H1 => Q (!c) H1
theorem pw_and1 (ha : PT X a tA) : PW X (.BoolOp .And [a] pos) tA := by
  intro wh pins s σ H Q I h
  refine isTrue_and (thn (ha pins s σ H Q I h) fun c s1 e => ?_)
  cases c with
  | true => exact isTrue_and_nil e
  | false => exact e
theorem pw_or1 (ha : PT X a tA) : PW X (.BoolOp .Or [a] pos) tA := by
  intro wh pins s σ H Q I h
  refine isTrue_or (thn (ha pins s σ H Q I h) fun c s1 e => ?_)
  cases c with
  | false => exact isTrue_or_nil e
  | true => exact e
theorem pw_and (ha : PT X a tA) (hb : PW X (.BoolOp .And (b :: rest) pos) tB') : PW X (.BoolOp .And (a :: b :: rest) pos) (tAnd tA tB') := by
  intro wh pins s σ H Q I h
  refine isTrue_and (thn (ha pins s σ H _ I h) fun c s1 ⟨H1, I1, q1⟩ => ?_)
  cases c with
  | true => exact hb wh pins s1 σ H1 Q I1 q1
  | false => exact ⟨H1, I1, q1⟩
theorem pw_or (ha : PT X a tA) (hb : PW X (.BoolOp .Or (b :: rest) pos) tB') : PW X (.BoolOp .Or (a :: b :: rest) pos) (tOr tA tB') := by
  intro wh pins s σ H Q I h
  refine isTrue_or (thn (ha pins s σ H _ I h) fun c s1 ⟨H1, I1, q1⟩ => ?_)
  cases c with
  | true => exact ⟨H1, I1, q1⟩
  | false => exact hb wh pins s1 σ H1 Q I1 q1
theorem pt_not (ha : PT X a tA) : PT X (.UnaryOp .Not a pos) (tNot tA) := by
  intro pins s σ H Q I h
  exact isTrue_not (ha pins s σ H (fun c H1 => Q (!c) H1) I h)
/-- .. as values (bools) -/
def tAndV (ta tb : TE) : TE := fun σ H Q => ta σ H fun x H1 => ∃ c, x = .bl c ∧ if c = true then tb σ H1 Q else Q (.bl false) H1
def tOrV (ta tb : TE) : TE := fun σ H Q => ta σ H fun x H1 => ∃ c, x = .bl c ∧ if c = true then Q (.bl true) H1 else tb σ H1 Q
def tNotV (ta : TE) : TE := fun σ H Q => ta σ H fun x H1 => ∃ c, x = .bl c ∧ Q (.bl (!c)) H1
theorem pe_one {op} {t : TE} (h : PE X a t) : PE X (.BoolOp op [a] pos) t := fun pins s σ H Q I hw => BoolOp_one (h pins s σ H Q I hw)
theorem pe_and (ha : PE X a ta) (hb : PE X (.BoolOp .And (b :: rest) pos) tb) : PE X (.BoolOp .And (a :: b :: rest) pos) (tAndV ta tb) := by
  intro pins s σ H Q I h
  refine BoolOp_and (thn (ha pins s σ H _ I h) fun v s1 ⟨x, H1, I1, r1, q1⟩ => ?_)
  obtain ⟨c, rfl, q1⟩ := q1
  cases r1
  refine wpAny_truthy_bool ?_
  cases c with
  | true => exact hb pins s1 σ H1 Q I1 q1
  | false => exact ⟨.bl false, H1, I1, rfl, q1⟩
theorem pe_not (ha : PE X a ta) : PE X (.UnaryOp .Not a pos) (tNotV ta) := by
  intro pins s σ H Q I h
  refine UnaryOp_ (thn (ha pins s σ H _ I h) fun v s1 ⟨x, H1, I1, r1, q1⟩ => ?_)
  obtain ⟨c, rfl, q1⟩ := q1
  cases r1
  exact not_of (wpAny_truthy_bool ⟨.bl (!c), H1, I1, rfl, q1⟩)
/-- a if t else b -/
def tIf (t : TT) (ta tb : TE) : TE := fun σ H Q => t σ H fun c H1 => if c = true then ta σ H1 Q else tb σ H1 Q
end
end L2

namespace L2
open PySem PySem.Spec PyProof.Rows

/-! ### a list, a tuple that is read: tracked, frozen, or an object of the module -/
def SqL (K : PySem.W.Frag) (H : Hp) (a : Addr) (xs : List V) : Prop :=
  Rd H a (.lst xs) ∨
    ∃ (o : Obj) (its : Array Value) (n : Nat), K.lookup a = some o ∧ o.cls = .type "list" ∧ o.dict = none ∧ o.data = .seq its n ∧ its.size ≤ sizeLine ∧ Vals xs its.toList
def SqT (K : PySem.W.Frag) (H : Hp) (a : Addr) (xs : List V) : Prop :=
  Rd H a (.tup xs) ∨
    ∃ (o : Obj) (its : Array Value) (n : Nat), K.lookup a = some o ∧ o.cls = .type "tuple" ∧ o.data = .seq its n ∧ its.size ≤ sizeLine ∧ Vals xs its.toList
def absV : Value → Option V
  | .none => some .non
  | .bool b => some (.bl b)
  | .int i _ => some (.int i)
  | .str x _ => some (.str x)
  | .bytes b _ => some (.byt b)
  | .float b _ => some (.flt b)
  | .ref a => some (.ref a)
  | .type n => some (.ty n)
  | _ => none
theorem RelV.abs {x : V} {u : Value} (r : RelV x u) : absV u = some x := by
  cases x with
  | non => cases r; rfl
  | bl _ => cases r; rfl
  | int _ => obtain ⟨t, rfl⟩ := r; rfl
  | str _ => obtain ⟨t, rfl⟩ := r; rfl
  | byt _ => obtain ⟨t, rfl⟩ := r; rfl
  | flt _ => obtain ⟨t, rfl⟩ := r; rfl
  | ref _ => cases r; rfl
  | ty _ => cases r; rfl
theorem RelV.inj {x y : V} {u : Value} (r : RelV x u) (q : RelV y u) : x = y := Option.some.inj (r.abs.symm.trans q.abs)
theorem Vals.inj : ∀ {xs ys : List V} {us : List Value}, Vals xs us → Vals ys us → xs = ys
  | _, _, _, .nil, .nil => rfl
  | _, _, _, .cons r t, .cons r' t' => by rw [r.inj r', Vals.inj t t']
section
variable {X : Cx} {pins : List (Addr × Obj)} {σ : St} {H : Hp} {s : Shared} {a : Addr} {xs ys : List V}
theorem SqL.of {K : PySem.W.Frag} (h : H a = some (.lst xs)) : SqL K H a xs := .inl (.inl h)
theorem SqT.of {K : PySem.W.Frag} (h : H a = some (.tup xs)) : SqT K H a xs := .inl (.inl h)
theorem Inv.list (I : Inv X pins σ H s) (h : SqL X.K H a xs) : ∃ its : List Value, Vals xs its ∧ PlainL s.heap a its.toArray ∧ xs.length ≤ sizeLine := by
  rcases h with h | ⟨o, its, n, hk, hc, hd, hs, hz, r⟩
  · obtain ⟨z, its, n, r, e⟩ := h.ok I.hok
    exact ⟨its, r, ⟨_, n, e, rfl, rfl, rfl⟩, z⟩
  · refine ⟨its.toList, r, ⟨o, n, I.kIn a o hk, hc, hd, by simpa using hs⟩, ?_⟩
    have e := r.length
    simp only [Array.length_toList] at e
    omega
theorem Inv.tuple (I : Inv X pins σ H s) (h : SqT X.K H a xs) : ∃ its : List Value, Vals xs its ∧ IsTup s.heap a its.toArray ∧ xs.length ≤ sizeLine := by
  rcases h with h | ⟨o, its, n, hk, hc, hs, hz, r⟩
  · obtain ⟨z, its, r, p⟩ := h.ok I.hok
    exact ⟨its, r, p.is, z⟩
  · refine ⟨its.toList, r, ⟨o, I.kIn a o hk, hc, n, by simpa using hs⟩, ?_⟩
    have e := r.length
    simp only [Array.length_toList] at e
    omega
theorem Inv.list_inj (I : Inv X pins σ H s) (h : SqL X.K H a xs) (h' : SqL X.K H a ys) : xs = ys := by
  obtain ⟨its, r, ⟨o, n, e, _, _, d⟩, _⟩ := I.list h
  obtain ⟨its', r', ⟨o', n', e', _, _, d'⟩, _⟩ := I.list h'
  rw [e] at e'; cases e'
  rw [d] at d'
  injection d' with d1 _
  have : its = its' := by simpa using congrArg Array.toList d1
  subst this
  exact r.inj r'
theorem Inv.tuple_inj (I : Inv X pins σ H s) (h : SqT X.K H a xs) (h' : SqT X.K H a ys) : xs = ys := by
  obtain ⟨its, r, ⟨o, e, _, n, d⟩, _⟩ := I.tuple h
  obtain ⟨its', r', ⟨o', e', _, n', d'⟩, _⟩ := I.tuple h'
  rw [e] at e'; cases e'
  rw [d] at d'
  injection d' with d1 _
  have : its = its' := by simpa using congrArg Array.toList d1
  subst this
  exact r.inj r'
end

/-! ### another wish about exceptions -/
abbrev Cx.wish (X : Cx) (E : Value → Shared → Prop) : Cx := { X with xe := E }
/-- no exception leaves -/
abbrev Cx.nox (X : Cx) : Cx := X.wish fun _ _ => False
theorem Cx.Ok.wish {X : Cx} (ok : X.Ok) (E : Value → Shared → Prop) : (X.wish E).Ok :=
  ⟨ok.mod, ok.kind, ok.glob, ok.blt, ok.above, ok.inj, ok.has, ok.cab, ok.hd, ok.frames, ok.stk, ok.exf, ok.bs, ok.bsz, ok.noex, ok.exfs, ok.funs, ok.frf⟩
theorem Cx.Ok.unwish {X : Cx} {E : Value → Shared → Prop} (ok : (X.wish E).Ok) : X.Ok :=
  ⟨ok.mod, ok.kind, ok.glob, ok.blt, ok.above, ok.inj, ok.has, ok.cab, ok.hd, ok.frames, ok.stk, ok.exf, ok.bs, ok.bsz, ok.noex, ok.exfs, ok.funs, ok.frf⟩
section
variable {X : Cx} {pins : List (Addr × Obj)} {σ : St} {H : Hp} {s : Shared} {E : Value → Shared → Prop}
theorem Inv.wish (I : Inv X pins σ H s) (E : Value → Shared → Prop) : Inv (X.wish E) pins σ H s := ⟨I.ok.wish E, I.os, I.bare, I.base, I.loc, I.cell, I.free, I.freeC, I.pin, I.hok, I.len⟩
theorem Inv.unwish (I : Inv (X.wish E) pins σ H s) : Inv X pins σ H s := ⟨I.ok.unwish, I.os, I.bare, I.base, I.loc, I.cell, I.free, I.freeC, I.pin, I.hok, I.len⟩
theorem SP.unwish {D : Ends} {f : Flow} {s' : Shared} (h : SP (X.wish E) pins D f s') : SP X pins D f s' := by
  cases f with
  | next => obtain ⟨σ', H', I, q⟩ := h; exact ⟨σ', H', I.unwish, q⟩
  | brk => obtain ⟨σ', H', I, q⟩ := h; exact ⟨σ', H', I.unwish, q⟩
  | cont => obtain ⟨σ', H', I, q⟩ := h; exact ⟨σ', H', I.unwish, q⟩
  | ret u => obtain ⟨v, σ', H', I, r, q⟩ := h; exact ⟨v, σ', H', I.unwish, r, q⟩
theorem PE.nox {e : Expr} {t : TE} (h : PE X.nox e t) : PE X e t := fun pins s σ H Q I hw =>
  wpAny_mono (h pins s σ H Q (I.wish _) hw) (fun _ _ ⟨v, H', I', r, q⟩ => ⟨v, H', I'.unwish, r, q⟩) fun _ _ z => False.elim z
theorem PT.nox {e : Expr} {t : TT} (h : PT X.nox e t) : PT X e t := fun pins s σ H Q I hw =>
  wpAny_mono (h pins s σ H Q (I.wish _) hw) (fun _ _ ⟨H', I', q⟩ => ⟨H', I'.unwish, q⟩) fun _ _ z => False.elim z
theorem PSs.nox {st : List Stmt} {t : TS} (h : PSs X.nox st t) : PSs X st t := fun pins s σ H D I hw =>
  wpAny_mono (h pins s σ H D (I.wish _) hw) (fun _ _ q => q.unwish) fun _ _ z => False.elim z
end

/-! ### blocks and small statements -/
section
variable {X : Cx} {st : Stmt} {rest : List Stmt} {t u : TS} {e : Expr} {te : TE} {pos : Pos}
def tNext : TS := fun D σ H => D.nx σ H
def tSeq (t u : TS) : TS := fun D σ H => t { D with nx := u D } σ H
theorem pss_nil : PSs X [] tNext := fun _ _ σ H _ I h => wpAny_execs_nil ⟨σ, H, I, h⟩
theorem pss_cons (h1 : PS X st t) (h2 : PSs X rest u) : PSs X (st :: rest) (tSeq t u) := by
  intro pins s σ H D I h
  refine wpAny_execs_cons (thn (h1 pins s σ H { D with nx := u D } I h) fun f s1 q => ?_)
  cases f with
  | next =>
    obtain ⟨σ', H', I', q⟩ := q
    exact h2 pins s1 σ' H' D I' q
  | ret v => exact q
  | brk => exact q
  | cont => exact q
theorem pss_one (h1 : PS X st t) : PSs X [st] t := by
  intro pins s σ H D I h
  refine wpAny_execs_cons (thn (h1 pins s σ H D I h) fun f s1 q => ?_)
  cases f with
  | next => exact wpAny_execs_nil q
  | ret v => exact q
  | brk => exact q
  | cont => exact q
def tBreak : TS := fun D σ H => D.bk σ H
def tCont : TS := fun D σ H => D.ct σ H
/-- in a def's body nothing is shown -/
theorem Inv.quiet {pins : List (Addr × Obj)} {σ : St} {H : Hp} {s : Shared} (I : Inv X pins σ H s) : interactive X.env = false := by simp [interactive, I.ok.kind]
/-- an expression whose value is dropped -/
def tDrop (te : TE) : TS := fun D σ H => te σ H fun _ H1 => D.nx σ H1
theorem ps_expr (he : PE X e te) (hs : swapsWith e none pos.line X.env = pure false := by rfl) : PS X (.Expr e pos) (tDrop te) := by
  intro pins s σ H D I h
  exact wpAny_Expr_any (thn (he pins s σ H _ I h) fun v s1 ⟨x, H1, I1, r1, q1⟩ => ⟨σ, H1, I1, q1⟩) I.quiet hs
def tRet (te : TE) : TS := fun D σ H => te σ H D.rt
theorem ps_ret (he : PE X e te) : PS X (.Return (some e) pos) (tRet te) := by
  intro pins s σ H D I h
  exact wpAny_Return_some (thn (he pins s σ H _ I h) fun v s1 ⟨x, H1, I1, r1, q1⟩ => ⟨x, σ, H1, I1, r1, q1⟩)
def tRetN : TS := fun D _ H => D.rt .non H
def tIfS (c : TT) (t u : TS) : TS := fun D σ H => c σ H fun b H1 => if b = true then t D σ H1 else u D σ H1
theorem ps_if {c : Expr} {a b : List Stmt} {tc : TT} (hc : PT X c tc) (ha : PSs X a t) (hb : PSs X b u) : PS X (.If c a b pos) (tIfS tc t u) := by
  intro pins s σ H D I h
  refine wpAny_If (thn (hc pins s σ H _ I h) fun d s1 ⟨H1, I1, q1⟩ => ?_)
  cases d with
  | true => exact ha pins s1 σ H1 D I1 q1
  | false => exact hb pins s1 σ H1 D I1 q1
/-- code that the proof never comes to -/
def tNever : TS := fun _ _ _ => False
end

/-! ### targets -/
abbrev TG := V → St → Hp → (St → Hp → Prop) → Prop
abbrev TGs := List V → St → Hp → (St → Hp → Prop) → Prop
def PG (X : Cx) (target : Expr) (t : TG) : Prop :=
  ∀ (pins : List (Addr × Obj)) (s : Shared) (σ : St) (H : Hp) (v : V) (u : Value) (Q : St → Hp → Prop), Inv X pins σ H s → RelV v u → t v σ H Q →
    wpAny (model X.prog X.w) X.A (assign target X.env u) (fun _ s' => ∃ σ' H', Inv X pins σ' H' s' ∧ Q σ' H') X.xe s
/-- several targets, one after another -/
def PGs (X : Cx) (ts : List Expr) (t : TGs) : Prop :=
  ∀ (pins : List (Addr × Obj)) (s : Shared) (σ : St) (H : Hp) (vs : List V) (us : List Value) (Q : St → Hp → Prop), Inv X pins σ H s → Vals vs us → t vs σ H Q →
    wpAny (model X.prog X.w) X.A (assignInOrder ((assignEach ts X.env).map (·.2)) us) (fun _ s' => ∃ σ' H', Inv X pins σ' H' s' ∧ Q σ' H') X.xe s
/-- o[i] = v, by values -/
abbrev TSet := V → V → V → Hp → (Hp → Prop) → Prop
def PSet (X : Cx) (t : TSet) : Prop :=
  ∀ (pins : List (Addr × Obj)) (s : Shared) (σ : St) (H : Hp) (o i v : V) (ov iv u : Value) (Q : Hp → Prop), Inv X pins σ H s → RelV o ov → RelV i iv → RelV v u → t o i v H Q →
    wpAny (model X.prog X.w) X.A (setItem ov iv u) (fun _ s' => ∃ H', Inv X pins σ H' s' ∧ Q H') X.xe s
/-- a op= b, by values -/
abbrev TIp := V → V → Hp → VK → Prop
def PIp (X : Cx) (op : Operator) (t : TIp) : Prop :=
  ∀ (pins : List (Addr × Obj)) (s : Shared) (σ : St) (H : Hp) (x y : V) (v u : Value) (Q : VK), Inv X pins σ H s → RelV x v → RelV y u → t x y H Q →
    wpAny (model X.prog X.w) X.A (inplaceOp op v u) (EP X pins σ Q) X.xe s
section
variable {X : Cx} {pos : Pos}
def gName (i : Nat) : TG := fun v σ H Q => Q (σ.set i (some v)) H
theorem pg_name {i : Nat} {x : Str} (hN : X.N.Nodup) (hi : X.N[i]? = some x) (hx : Loc X.env.scope x) (hf : X.fn x = true ∨ X.env.scope.names.lookup x = some .local := by first | exact .inl rfl | exact .inr rfl | assumption) : PG X (.Name x pos) (gName i) := by
  intro pins s σ H v u Q I r h
  exact wpAny_assign_Name (store_ok I hN hi hx r (fun s' I' => ⟨_, H, I', h⟩) hf)
def gNil : TGs := fun vs σ H Q => vs = [] ∧ Q σ H
def gCons (t : TG) (u : TGs) : TGs := fun vs σ H Q => ∃ v r, vs = v :: r ∧ t v σ H fun σ' H' => u r σ' H' Q
theorem pgs_nil : PGs X [] gNil := by
  intro pins s σ H vs us Q I r h
  obtain ⟨e, h⟩ := h
  subst e
  cases r
  exact assignInOrder_nil ⟨σ, H, I, h⟩
theorem pgs_cons {e : Expr} {es : List Expr} {t : TG} {u : TGs} (h1 : PG X e t) (h2 : PGs X es u)
    (hs : (assignEach (e :: es) X.env).map (·.2) = assign e X.env :: (assignEach es X.env).map (·.2) := by rfl) : PGs X (e :: es) (gCons t u) := by
  intro pins s σ H vs us Q I r h
  obtain ⟨v, vr, e1, h⟩ := h
  subst e1
  cases r with
  | cons r rr =>
    rw [hs]
    refine assignInOrder_cons (thn (h1 pins s σ H _ _ _ I r h) fun _ s1 ⟨σ1, H1, I1, q1⟩ => ?_)
    exact h2 pins s1 σ1 H1 _ _ Q I1 rr q1
/-- (a, b, ..) = a tuple of that length -/
def gTup (K : PySem.W.Frag) (n : Nat) (t : TGs) : TG := fun v σ H Q => ∃ a xs, v = .ref a ∧ SqT K H a xs ∧ xs.length = n ∧ t xs σ H Q
theorem pg_tup {es : List Expr} {k : Nat} {t : TGs} {n : Nat} (hc : X.calm = true) (h : PGs X es t)
    (hn : (assignEach es X.env).length = n := by rfl) (hst : (assignEach es X.env).findIdx? (·.1) = none := by rfl) : PG X (.Tuple es k pos) (gTup X.K n t) := by
  intro pins s σ H v u Q I r hw
  obtain ⟨a, xs, e1, hq, hl, hw⟩ := hw
  subst e1
  cases r
  obtain ⟨its, rv, ht, hz⟩ := I.tuple hq
  refine assign_Tuple_tuple (I.ok.hd hc) ht (by simp [hn, ← hl, rv.length]) hst fun h' hx => ?_
  have I1 : Inv X pins σ H { s with heap := h' } := I.kept (t' := s.toks) fun b o e => hx b o (Nat.ne_of_lt (Heap.lt_size e)) e
  exact h pins _ σ H xs _ Q I1 (by simpa using rv) hw
/-- o[i] = .. -/
def gSub (to ti : TE) (t : TSet) : TG := fun v σ H Q => to σ H fun o H1 => ti σ H1 fun i H2 => t o i v H2 fun H3 => Q σ H3
theorem pg_sub {o i : Expr} {to ti : TE} {t : TSet} (ho : PE X o to) (hi : PE X i ti) (hs : PSet X t)
    (ha : ∀ v, assign (.Subscript o i pos) X.env v = (do
      let ov ← holding [v] (eval o X.env)
      let iv ← holding [v, ov] (eval i X.env)
      standAt pos
      holding [v, ov, iv] (setItem ov iv v)
      release [v, ov, iv] []) := by intro _; rfl) : PG X (.Subscript o i pos) (gSub to ti t) := by
  intro pins s σ H v u Q I r h
  rw [ha]
  refine wpAny_bind (wpAny_holding (thn (ho pins s σ H _ I h) fun ov s1 ⟨x, H1, I1, r1, q1⟩ => ?_))
  refine wpAny_bind (wpAny_holding (thn (hi pins s1 σ H1 _ I1 q1) fun iv s2 ⟨y, H2, I2, r2, q2⟩ => ?_))
  refine wpAny_bind (wpAny_standAt (wpAny_bind (wpAny_holding (thn (hs pins s2 σ H2 x y v ov iv u _ I2 r1 r2 r q2) fun _ s3 ⟨H3, I3, q3⟩ => ?_))))
  exact wpAny_release ⟨σ, H3, I3, q3⟩
/-- target = value -/
def tAsg (te : TE) (g : TG) : TS := fun D σ H => te σ H fun x H1 => g x σ H1 D.nx
theorem ps_asg {tg e : Expr} {te : TE} {g : TG} (he : PE X e te) (hg : PG X tg g) (hs : swapsWithSole [tg] e pos.line X.env = pure false := by rfl) (hw : swappedStores [tg] e X.env = pure none := by rfl)
    (h1 : (assignEach [tg] X.env).map (·.2) = [assign tg X.env] := by rfl) : PS X (.Assign [tg] e pos) (tAsg te g) := by
  intro pins s σ H D I h
  refine wpAny_Assign_stores (thn (he pins s σ H _ I h) fun v s1 ⟨x, H1, I1, r1, q1⟩ => ?_) hs hw
  rw [h1]
  exact thn (hg pins s1 σ H1 x v _ I1 r1 q1) fun _ s2 q => q
/-- name = value -/
theorem ps_set {i : Nat} {x : Str} {e : Expr} {te : TE} {pos' : Pos} (hN : X.N.Nodup) (hi : X.N[i]? = some x) (hx : Loc X.env.scope x) (he : PE X e te) (hs : swapsWith e (some (.Name x pos')) pos.line X.env = pure false := by rfl) (hf : X.fn x = true ∨ X.env.scope.names.lookup x = some .local := by first | exact .inl rfl | exact .inr rfl | assumption) :
    PS X (.Assign [.Name x pos'] e pos) (tAsg te (gName i)) := by
  intro pins s σ H D I h
  refine wpAny_Assign_Name (thn (he pins s σ H _ I h) fun v s1 ⟨y, H1, I1, r1, q1⟩ => ?_) hs
  exact store_ok I1 hN hi hx r1 (fun s2 I2 => ⟨_, H1, I2, q1⟩) hf
/-- a, b = x, y with plain local names: stored from the right; the pair itself is not tracked (the opening rows as in PyProof/Rows/TupAssign.lean:23) -/
def tPar (i j : Nat) (ta : TA) : TS := fun D σ H => ta σ H fun vs H1 => ∃ v w, vs = [v, w] ∧ D.nx ((σ.set i (some v)).set j (some w)) H1
theorem ps_par {i j : Nat} {x y : Str} {a b : Expr} {ta : TA} {px py pt : Pos} {kt k2 pt2} (hc : X.calm = true) (hN : X.N.Nodup) (hi : X.N[i]? = some x) (hj : X.N[j]? = some y) (hij : i ≠ j)
    (hx : X.env.scope.names.lookup x = some .local) (hy : X.env.scope.names.lookup y = some .local) (ha : PA X [a, b] ta)
    (hw : swappedStores [.Tuple [.Name x px, .Name y py] kt pt] (.Tuple [a, b] k2 pt2) X.env = pure (some [x, y]))
    (hs : swapsWithSole [.Tuple [.Name x px, .Name y py] kt pt] (.Tuple [a, b] k2 pt2) pos.line X.env = pure false := by rfl) :
    PS X (.Assign [.Tuple [.Name x px, .Name y py] kt pt] (.Tuple [a, b] k2 pt2) pos) (tPar i j ta) := by
  intro pins s σ H D I h
  rw [exec_Assign_arm]
  refine wpAny_bind (wpAny_standAt ?_)
  rw [hs]
  refine wpAny_bind (wpAny_pure ?_)
  rw [if_neg (by decide)]
  refine wpAny_bind (Tuple_ (thn (ha _ pins s σ H _ I h) fun us s1 ⟨vs, H1, I1, r1, q1⟩ => ?_))
  obtain ⟨v, w, e1, q1⟩ := q1
  subst e1
  obtain ⟨u1, u2, rfl, rv, rw'⟩ : ∃ u1 u2, us = [u1, u2] ∧ RelV v u1 ∧ RelV w u2 := by
    cases r1 with
    | cons p q =>
      cases q with
      | cons p' q' =>
        cases q'
        exact ⟨_, _, rfl, p, p'⟩
  refine wpAny_newObj_type ?_ (by show 2 ≤ sizeLine; decide)
  have I2 : Inv X pins σ H1 { s1 with heap := s1.heap.push { cls := .type "tuple", data := .seq [u1, u2].toArray } } := I1.kept (t' := s1.toks) fun b o e => Heap.get?_push_of_some _ e
  rw [hw]
  refine wpAny_bind (wpAny_pure ?_)
  show wpAny (model X.prog X.w) X.A (do rule "assign.swapped-stores"; let items ← unpackItems (.ref s1.heap.objs.size) 2 none; assignInOrder [fun v => bindName X.env y v, fun v => bindName X.env x v] items.reverse; pure Flow.next) _ _ _
  refine wpAny_bind (wpAny_rule (wpAny_bind (unpackItems_tuple (items := #[u1, u2]) (I.ok.hd hc) (IsTup.new s1.heap _) fun h' hx' => ?_)))
  have I3 := I2.kept (h' := h') (t' := s1.toks) fun b o e => hx' b o (Nat.ne_of_lt (Heap.lt_size e)) e
  show wpAny _ _ (assignInOrder [fun v => bindName X.env y v, fun v => bindName X.env x v] [u2, u1] >>= fun _ => pure Flow.next) _ _ _
  refine wpAny_bind (assignInOrder_cons (wpAny_bindName (store_ok I3 hN hj (.inl hy) rw' (fun s2 I4 => ?_) (.inr hy))))
  refine assignInOrder_cons (wpAny_bindName (store_ok I4 hN hi (.inl hx) rv (fun s3 I5 => assignInOrder_nil (wpAny_pure ?_)) (.inr hx)))
  rw [List.set_comm _ _ (Ne.symm hij)] at I5
  exact ⟨_, H1, I5, q1⟩
/-- name op= e -/
def tAug (i : Nat) (te : TE) (ti : TIp) : TS := fun D σ H => ∃ x, σ[i]? = some (some x) ∧ te σ H fun y H1 => ti x y H1 fun z H2 => D.nx (σ.set i (some z)) H2
/-- o[i] op= e -/
def tAugS (to ti te : TE) (tget : V → V → Hp → VK → Prop) (tip : TIp) (tset : TSet) : TS := fun D σ H => to σ H fun o H1 => ti σ H1 fun i H2 => tget o i H2 fun x H3 => te σ H3 fun y H4 => tip x y H4 fun z H5 => tset o i z H5 fun H6 => D.nx σ H6
/-- o[i], by values -/
def PGet (X : Cx) (t : V → V → Hp → VK → Prop) : Prop :=
  ∀ (pins : List (Addr × Obj)) (s : Shared) (σ : St) (H : Hp) (o i : V) (ov iv : Value) (Q : VK), Inv X pins σ H s → RelV o ov → RelV i iv → t o i H Q →
    wpAny (model X.prog X.w) X.A (getItem ov iv) (EP X pins σ Q) X.xe s
/-- ints -/
def ipI (f : Int → Int → Int) : TIp := fun x y H Q => ∃ i j, x = .int i ∧ y = .int j ∧ Q (.int (f i j)) H
end

/-! ### while -/
section
variable {X : Cx} {pos : Pos}
/-- the invariant W with its measure -/
def tWhile (c : TT) (tb : TS) : TS := fun D σ H => ∃ W : Nat → St → Hp → Prop, (∃ m, W m σ H) ∧ ∀ m σ H, W m σ H →
  c σ H fun b H1 => if b = true then ∃ N : St → Hp → Prop, (∀ σ' H', N σ' H' → ∃ m', m' < m ∧ W m' σ' H') ∧ tb { D with nx := N, ct := N, bk := D.nx } σ H1 else D.nx σ H1
theorem ps_while {c : Expr} {body : List Stmt} {tc : TT} {tb : TS} (hp : PassesOwn (model X.prog X.w) X.A X.env X.xe) (hc : PT X c tc) (hb : PSs X body tb) : PS X (.While c body [] pos) (tWhile tc tb) := by
  intro pins s σ H D I h
  obtain ⟨W, ⟨m0, w0⟩, turn⟩ := h
  refine wpAny_While (codeAny_whileLoop (fun n s' => ∃ σ' H', Inv X pins σ' H' s' ∧ W n σ' H') ?_ m0 ⟨σ, H, I, w0⟩)
  rintro n s1 ⟨σ1, H1, I1, w1⟩
  refine wpAny_passesOwn hp (thn (hc pins s1 σ1 H1 _ I1 (turn n σ1 H1 w1)) fun b s2 ⟨H2, I2, q2⟩ => ?_)
  cases b with
  | true =>
    obtain ⟨N, hN, q2⟩ := q2
    rw [if_pos rfl]
    refine wpAny_passesOwn hp (thn (hb pins s2 σ1 H2 _ I2 q2) fun f s3 q3 => ?_)
    cases f with
    | next =>
      obtain ⟨σ3, H3, I3, n3⟩ := q3
      obtain ⟨m', hm, w3⟩ := hN σ3 H3 n3
      exact ⟨m', hm, σ3, H3, I3, w3⟩
    | cont =>
      obtain ⟨σ3, H3, I3, n3⟩ := q3
      obtain ⟨m', hm, w3⟩ := hN σ3 H3 n3
      exact ⟨m', hm, σ3, H3, I3, w3⟩
    | brk => exact q3
    | ret v => exact q3
  | false =>
    rw [if_neg Bool.false_ne_true]
    exact wpAny_execs_nil ⟨σ1, H2, I2, q2⟩
end

/-! ### what a loop or a comprehension walks -/
/-- at turn i: it yields x (the heap may grow), or it stops -/
structure It where
  go : Nat → Hp → Prop
  yld : Nat → Hp → V → Hp → Prop
  stop : Nat → Hp → Prop
/-- the iterator's own objects may turn: they are not the frame's, not pinned, younger than the entry (or a comprehension's own) -/
def FpOk (X : Cx) (pins : List (Addr × Obj)) (H : Hp) (b : Addr) : Prop :=
  H b = none ∧ b ≠ X.env.locals ∧ b ∉ X.fs ∧ (b ∈ X.ex ∨ X.s₀.heap.objs.size ≤ b) ∧ (∀ x c, X.env.cells.lookup x = some c → c ≠ b) ∧ ∀ p ∈ X.pn ++ pins, p.1 ≠ b
theorem Inv.fpOk {X : Cx} {pins : List (Addr × Obj)} {σ : St} {H H' : Hp} {s : Shared} {b : Addr} (I : Inv X pins σ H s) (hb : s.heap.objs.size ≤ b) (hn : H' b = none) : FpOk X pins H' b := by
  refine ⟨hn, Nat.ne_of_gt (Nat.lt_of_lt_of_le I.lt hb), I.nofs hb, .inr (Nat.le_trans I.sz hb), fun x c e z => ?_, fun p hp z => ?_⟩
  · obtain ⟨v, q⟩ := I.cell x c e
    exact absurd (Nat.lt_of_lt_of_le q.lt (by rw [z]; exact hb)) (Nat.lt_irrefl _)
  · exact absurd (Nat.lt_of_lt_of_le (Heap.lt_size (I.pin p hp).1) (by rw [z]; exact hb)) (Nat.lt_irrefl _)
structure Turn (P : Program) (w : World) (K : PySem.W.Frag) (tg : Expr) (J : It) (fp : List Addr) (it : Addr) (tn : Nat → Heap → Prop) : Prop where
  mem : it ∈ fp
  obj : ∀ i h, tn i h → ∀ b ∈ fp, ∃ o, h.get? b = some o ∧ ∀ v, o.data ≠ .cell v
  keep : ∀ i h h', tn i h → (∀ b ∈ fp, ∀ o, h.get? b = some o → h'.get? b = some o) → tn i h'
  item : ∀ (X : Cx), X.prog = P → X.w = w → X.K = K → X.calm = true → ∀ (i : Nat) (pins : List (Addr × Obj)) (s : Shared) (σ : St) (H : Hp) (E : Value → Shared → Prop), Inv X pins σ H s → (∀ b ∈ fp, FpOk X pins H b) → tn i s.heap → J.go i H →
    wpAny (model P w) X.A (pyNext (.ref it)) (fun r s1 => ∃ u, r = some u ∧
      wpAny (model P w) X.A (letOwnedTupleGo tg (.ref it) u) (fun _ s2 => ∃ x H', Inv X pins σ H' s2 ∧ RelV x u ∧ J.yld i H x H' ∧ tn (i + 1) s2.heap ∧ ∀ b ∈ fp, H' b = none) E s1) E s
  done : ∀ (X : Cx), X.prog = P → X.w = w → X.K = K → X.calm = true → ∀ (i : Nat) (pins : List (Addr × Obj)) (s : Shared) (σ : St) (H : Hp) (E : Value → Shared → Prop), Inv X pins σ H s → (∀ b ∈ fp, FpOk X pins H b) → tn i s.heap → J.stop i H →
    wpAny (model P w) X.A (pyNext (.ref it)) (fun r s1 => r = none ∧ Inv X pins σ H s1) E s
  self : ∀ (A : Around) (i : Nat) (s : Shared) (Q : Value → Shared → Prop) (E : Value → Shared → Prop), tn i s.heap → Q (.ref it) s → wpAny (model P w) A (pyIter (.ref it)) Q E s
abbrev TI := St → Hp → (It → Hp → Prop) → Prop
/-- an iterator has come -/
def PIE (X : Cx) (pins : List (Addr × Obj)) (σ : St) (tg : Expr) (R : It → Hp → Prop) (itv : Value) (s2 : Shared) : Prop :=
  ∃ (it : Addr) (fp : List Addr) (tn : Nat → Heap → Prop) (J : It) (H' : Hp), itv = .ref it ∧ Inv X pins σ H' s2 ∧ Turn X.prog X.w X.K tg J fp it tn ∧ tn 0 s2.heap ∧ (∀ b ∈ fp, FpOk X pins H' b) ∧ R J H'
def PI (X : Cx) (tg iter : Expr) (wi : TI) : Prop :=
  ∀ (pins : List (Addr × Obj)) (s : Shared) (σ : St) (H : Hp) (R : It → Hp → Prop), Inv X pins σ H s → wi σ H R →
    wpAny (model X.prog X.w) X.A (eval iter X.env) (fun v s1 => wpAny (model X.prog X.w) X.A (pyIter v) (PIE X pins σ tg R) X.xe s1) X.xe s

/-- the step ahead of the store is nothing for an iterator that keeps no tuple -/
theorem go_of {M : Model} {A : Around} {E : Value → Shared → Prop} {s : Shared} {tg : Expr} {it : Addr} {u : Value} {o : Obj} {n : String} {vs : Array Value} {Q : Unit → Shared → Prop} (ho : s.heap.get? it = some o) (hc : o.cls = .type n) (hd : o.data = .fields vs)
    (hn : ["enumerate", "zip", "dict_itemiterator", "dict_reverseitemiterator", "odict_iterator", "itertools.zip_longest", "itertools.pairwise"].contains n = false) (hQ : Q () s) : wpAny M A (letOwnedTupleGo tg (.ref it) u) Q E s := by
  unfold letOwnedTupleGo
  cases tg <;> first
    | exact wpAny_pure hQ
    | (cases u <;> first
        | exact wpAny_pure hQ
        | (refine wpAny_bind (wpAny_load ho ?_)
           rw [hc, hd]
           show wpAny M A (if (["enumerate", "zip", "dict_itemiterator", "dict_reverseitemiterator", "odict_iterator", "itertools.zip_longest", "itertools.pairwise"].contains n && vs[0]? == some (rawInt _)) = true then _ else _) Q E s
           rw [if_neg (by intro h; rw [hn, Bool.false_and] at h; cases h)]
           exact wpAny_pure hQ))

/-- the list at a, as it stands at each turn (a loop may append to it) -/
def Itl (K : PySem.W.Frag) (a : Addr) : It :=
  ⟨fun i H => ∃ xs x, SqL K H a xs ∧ xs[i]? = some x, fun i H x H' => H' = H ∧ ∀ xs, SqL K H a xs → xs[i]? = some x, fun i H => ∃ xs, SqL K H a xs ∧ xs.length ≤ i⟩
def Itt (K : PySem.W.Frag) (a : Addr) : It :=
  ⟨fun i H => ∃ xs x, SqT K H a xs ∧ xs[i]? = some x, fun i H x H' => H' = H ∧ ∀ xs, SqT K H a xs → xs[i]? = some x, fun i H => ∃ xs, SqT K H a xs ∧ xs.length ≤ i⟩
/-- lo, lo + 1, .. (n of them) -/
def Itr (lo : Int) (n : Nat) : It := ⟨fun i _ => i < n, fun i H x H' => H' = H ∧ x = .int (lo + i), fun i _ => n ≤ i⟩
theorem turn_list {P : Program} {w : World} {K : PySem.W.Frag} {tg : Expr} (a it : Addr) : Turn P w K tg (Itl K a) [it] it (fun i h => h.IsListIter it a i) where
  mem := by simp
  obj := fun i h st b hb => by
    have e : b = it := by simpa using hb
    subst e
    obtain ⟨o, e, c, d⟩ := st
    exact ⟨o, e, fun v z => by rw [d] at z; cases z⟩
  keep := fun i h h' st k => st.at fun o e => k it (by simp) o e
  item := by
    intro X hP hw hK hc i pins s σ H E I hf st hg
    subst hP hw hK
    obtain ⟨xs, x, hq, hx⟩ := hg
    obtain ⟨its, rv, p, hz⟩ := I.list hq
    obtain ⟨u, hu, ru⟩ := rv.get hx
    obtain ⟨f0, f1, f2, f3, f4, f5⟩ := hf it (by simp)
    refine wpAny_pyNext_list_item st p.isList (x := u) (by simpa using hu) fun h' st' sb => ?_
    have I1 : Inv X pins σ H { s with heap := h' } := I.turned (t' := s.toks) (fun b o hb e => (sb.2 b hb).trans e) f0 f1 f3 f4 f5
    obtain ⟨o, e, c, d⟩ := id st'
    exact ⟨u, rfl, go_of (s := { s with heap := h' }) e c d (by decide) ⟨x, H, I1, ru, ⟨rfl, fun ys hy => by rw [I.list_inj hy hq]; exact hx⟩, st', fun b hb => (hf b hb).1⟩⟩
  done := by
    intro X hP hw hK hc i pins s σ H E I hf st hg
    subst hP hw hK
    obtain ⟨xs, hq, hx⟩ := hg
    obtain ⟨its, rv, p, hz⟩ := I.list hq
    obtain ⟨f0, f1, f2, f3, f4, f5⟩ := hf it (by simp)
    have hl := rv.length
    exact wpAny_pyNext_list_end (I.ok.hd hc) st p.isList (by simp; omega) fun h' eb => ⟨rfl, I.turned (t' := s.toks) (fun b o hb e => eb b o hb e) f0 f1 f3 f4 f5⟩
  self := fun _ _ _ _ _ st h => wpAny_pyIter_listiter st h
theorem turn_tuple {P : Program} {w : World} {K : PySem.W.Frag} {tg : Expr} (a it : Addr) : Turn P w K tg (Itt K a) [it] it (fun i h => h.IsTupleIter it a i) where
  mem := by simp
  obj := fun i h st b hb => by
    have e : b = it := by simpa using hb
    subst e
    obtain ⟨o, e, c, d⟩ := st
    exact ⟨o, e, fun v z => by rw [d] at z; cases z⟩
  keep := fun i h h' st k => st.at fun o e => k it (by simp) o e
  item := by
    intro X hP hw hK hc i pins s σ H E I hf st hg
    subst hP hw hK
    obtain ⟨xs, x, hq, hx⟩ := hg
    obtain ⟨its, rv, p, hz⟩ := I.tuple hq
    obtain ⟨u, hu, ru⟩ := rv.get hx
    obtain ⟨f0, f1, f2, f3, f4, f5⟩ := hf it (by simp)
    refine wpAny_pyNext_tuple_item st (show s.heap.IsTuple a its.toArray from p) (x := u) (by simpa using hu) fun h' st' sb => ?_
    have I1 : Inv X pins σ H { s with heap := h' } := I.turned (t' := s.toks) (fun b o hb e => (sb.2 b hb).trans e) f0 f1 f3 f4 f5
    obtain ⟨o, e, c, d⟩ := id st'
    exact ⟨u, rfl, go_of (s := { s with heap := h' }) e c d (by decide) ⟨x, H, I1, ru, ⟨rfl, fun ys hy => by rw [I.tuple_inj hy hq]; exact hx⟩, st', fun b hb => (hf b hb).1⟩⟩
  done := by
    intro X hP hw hK hc i pins s σ H E I hf st hg
    subst hP hw hK
    obtain ⟨xs, hq, hx⟩ := hg
    obtain ⟨its, rv, p, hz⟩ := I.tuple hq
    obtain ⟨f0, f1, f2, f3, f4, f5⟩ := hf it (by simp)
    have hl := rv.length
    exact wpAny_pyNext_tuple_end (I.ok.hd hc) st (show s.heap.IsTuple a its.toArray from p) (by simp; omega) fun h' eb => ⟨rfl, I.turned (t' := s.toks) (fun b o hb e => eb b o hb e) f0 f1 f3 f4 f5⟩
  self := fun _ _ _ _ _ st h => wpAny_pyIter_tupleiter st h
theorem turn_range {P : Program} {w : World} {K : PySem.W.Frag} {tg : Expr} (it : Addr) (lo : Int) (n : Nat) : Turn P w K tg (Itr lo n) [it] it (fun i h => IsRangeIter h it (lo + (i : Nat) * 1) ((n : Int) - (i : Nat)) 1) where
  mem := by simp
  obj := fun i h st b hb => by
    have e : b = it := by simpa using hb
    subst e
    exact ⟨_, st, fun v z => by
      have z' : Data.fields _ = Data.cell v := z
      cases z'⟩
  keep := fun i h h' st k => k it (by simp) _ st
  item := by
    intro X hP hw hK hc i pins s σ H E I hf st hg
    subst hP hw hK
    obtain ⟨f0, f1, f2, f3, f4, f5⟩ := hf it (by simp)
    have W := Walks.range (prog := X.prog) (w := X.w) (I.ok.hd hc) it lo 1 n
    refine W.item i s _ _ hg st fun v h' tk hv st' kk => ?_
    obtain ⟨t, rfl⟩ := hv
    have I1 : Inv X pins σ H { s with heap := h', toks := tk } := I.turned (fun b o hb e => kk b o (by simpa using hb) e) f0 f1 f3 f4 f5
    refine ⟨_, rfl, go_of (s := { s with heap := h', toks := tk }) (n := "range_iterator") st' rfl rfl (by decide) ⟨.int (lo + i), H, I1, ⟨t, ?_⟩, ⟨rfl, rfl⟩, st', fun b hb => (hf b hb).1⟩⟩
    rw [Int.mul_one]
  done := by
    intro X hP hw hK hc i pins s σ H E I hf st hg
    subst hP hw hK
    obtain ⟨f0, f1, f2, f3, f4, f5⟩ := hf it (by simp)
    exact wpAny_pyNext_range_end (I.ok.hd hc) st (by have : n ≤ i := hg; omega) fun h' eb => ⟨rfl, I.turned (t' := s.toks) (fun b o hb e => eb b o hb e) f0 f1 f3 f4 f5⟩
  self := fun _ _ _ _ _ st h => wpAny_pyIter_rangeiter st h
end L2

namespace L2
open PySem PySem.Spec PyProof.Rows
section
variable {X : Cx} {tg : Expr}
def iList (K : PySem.W.Frag) (tl : TE) : TI := fun σ H R => tl σ H fun x H1 => ∃ a, x = .ref a ∧ (∃ xs, SqL K H1 a xs) ∧ R (Itl K a) H1
def iTup (K : PySem.W.Frag) (tl : TE) : TI := fun σ H R => tl σ H fun x H1 => ∃ a, x = .ref a ∧ (∃ xs, SqT K H1 a xs) ∧ R (Itt K a) H1
theorem pi_list {l : Expr} {tl : TE} (hl : PE X l tl) : PI X tg l (iList X.K tl) := by
  intro pins s σ H R I h
  refine thn (hl pins s σ H _ I h) fun v s1 ⟨x, H1, I1, r1, q1⟩ => ?_
  obtain ⟨a, e, ⟨xs, hq⟩, q⟩ := q1
  subst e
  cases r1
  obtain ⟨its, rv, p, hz⟩ := I1.list hq
  refine wpAny_pyIter_list p.isList ?_
  refine ⟨s1.heap.objs.size, [s1.heap.objs.size], _, _, H1, rfl, I1.kept (t' := s1.toks) fun b o e => Heap.get?_push_of_some _ e, turn_list a _, ⟨_, Heap.get?_push_size _ rfl, rfl, rfl⟩, fun b hb => ?_, q⟩
  have e : b = s1.heap.objs.size := by simpa using hb
  subst e
  exact I1.fpOk (Nat.le_refl _) (I1.hok.fresh (Nat.le_refl _))
theorem pi_tup {l : Expr} {tl : TE} (hl : PE X l tl) : PI X tg l (iTup X.K tl) := by
  intro pins s σ H R I h
  refine thn (hl pins s σ H _ I h) fun v s1 ⟨x, H1, I1, r1, q1⟩ => ?_
  obtain ⟨a, e, ⟨xs, hq⟩, q⟩ := q1
  subst e
  cases r1
  obtain ⟨its, rv, p, hz⟩ := I1.tuple hq
  refine wpAny_pyIter_tuple (show s1.heap.IsTuple a its.toArray from p) ?_
  refine ⟨s1.heap.objs.size, [s1.heap.objs.size], _, _, H1, rfl, I1.kept (t' := s1.toks) fun b o e => Heap.get?_push_of_some _ e, turn_tuple a _, ⟨_, Heap.get?_push_size _ rfl, rfl, rfl⟩, fun b hb => ?_, q⟩
  have e : b = s1.heap.objs.size := by simpa using hb
  subst e
  exact I1.fpOk (Nat.le_refl _) (I1.hok.fresh (Nat.le_refl _))
/-- a range object just made, walked -/
theorem range_it {pins : List (Addr × Obj)} {σ : St} {H : Hp} {s : Shared} {R : It → Hp → Prop} {E : Value → Shared → Prop} {lo hi : Int} {t u v : Tok} {tk : Nat} (I : Inv X pins σ H s) (h1 : -(2 ^ 62) ≤ lo) (h2 : lo < 2 ^ 62) (h3 : -(2 ^ 62) ≤ hi) (h4 : hi < 2 ^ 62)
    (q : R (Itr lo (hi - lo).toNat) H) : wpAny (model X.prog X.w) X.A (pyIter (.ref s.heap.objs.size)) (PIE X pins σ tg R) E { s with heap := s.heap.push { cls := .type "range", data := .fields #[.int lo t, .int hi u, .int 1 v] }, toks := tk } := by
  refine wpAny_pyIter_range (IsRange.new ..) (small_one h1 h2 h3 h4) ?_
  have I1 : Inv X pins σ H { s with heap := s.heap.push { cls := .type "range", data := .fields #[.int lo t, .int hi u, .int 1 v] }, toks := tk } := I.kept fun b o e => Heap.get?_push_of_some _ e
  refine ⟨(s.heap.push { cls := .type "range", data := .fields #[.int lo t, .int hi u, .int 1 v] }).objs.size, [(s.heap.push { cls := .type "range", data := .fields #[.int lo t, .int hi u, .int 1 v] }).objs.size], _, _, H, rfl,
    I1.kept (t' := tk) fun b o e => Heap.get?_push_of_some _ e, turn_range _ lo (hi - lo).toNat, ?_, fun b hb => ?_, q⟩
  · have e1 : lo + ((0 : Nat) : Int) * 1 = lo := by simp
    have e2 : (((hi - lo).toNat : Nat) : Int) - ((0 : Nat) : Int) = Builtin.Range.rangeSize lo hi 1 := by rw [rangeSize_one]; split <;> omega
    show IsRangeIter _ _ (lo + ((0 : Nat) : Int) * 1) ((((hi - lo).toNat : Nat) : Int) - ((0 : Nat) : Int)) 1
    rw [e1, e2]
    exact Heap.get?_push_size _ rfl
  · have e : b = (s.heap.push { cls := .type "range", data := .fields #[.int lo t, .int hi u, .int 1 v] }).objs.size := by simpa using hb
    subst e
    exact I1.fpOk (Nat.le_refl _) (I1.hok.fresh (Nat.le_refl _))
def iRng1 (ta : TA) : TI := fun σ H R => ta σ H fun vs H1 => ∃ j : Int, vs = [.int j] ∧ -(2 ^ 62) ≤ j ∧ j < 2 ^ 62 ∧ R (Itr 0 j.toNat) H1
def iRng2 (ta : TA) : TI := fun σ H R => ta σ H fun vs H1 => ∃ i j : Int, vs = [.int i, .int j] ∧ (-(2 ^ 62) ≤ i ∧ i < 2 ^ 62 ∧ -(2 ^ 62) ≤ j ∧ j < 2 ^ 62) ∧ R (Itr i (j - i).toNat) H1
theorem pi_range1 {a : Expr} {ta : TA} {p pos : Pos} (hg : Gl X "range") (hm : X.mg "range" = none) (ha : PA X [a] ta) (hs : starEach [a] X.env = [(false, eval a X.env)] := by rfl) : PI X tg (.Call (.Name "range" p) [a] [] pos) (iRng1 ta) := by
  intro pins s σ H R I h
  refine Call_ (ld_blt I hg hm boot_range (PyProof.Rows.callWith_type1 (thn (ha pos pins s σ H _ I h) fun us s1 ⟨vs, H1, I1, r1, q1⟩ => ?_) hs rfl))
  obtain ⟨j, e, q1, q2, q⟩ := q1
  subst e
  cases r1 with
  | cons r rr =>
    cases rr
    obtain ⟨t, rfl⟩ := r
    exact call_range_1 (range_it I1 (by omega) (by omega) q1 q2 (by simpa using q))
/-! ### for -/
/-- W: the invariant by the turn and a measure; N: what the body is to reach -/
def tFor (wi : TI) (g : TG) (tb : TS) : TS := fun D σ H => wi σ H fun J H1 => ∃ W : Nat → Nat → St → Hp → Prop, (∃ m, W 0 m σ H1) ∧ ∀ i m σ H, W i m σ H →
  (J.stop i H ∧ D.nx σ H) ∨ (J.go i H ∧ ∃ N : St → Hp → Prop, (∀ σ' H', N σ' H' → ∃ m', m' < m ∧ W (i + 1) m' σ' H') ∧ ∀ x H', J.yld i H x H' → g x σ H' fun σ2 H2 => tb { D with nx := N, ct := N, bk := D.nx } σ2 H2)
/-- the records at fp as they stand -/
def pinsAt (fp : List Addr) (h : Heap) : List (Addr × Obj) := fp.filterMap fun b => (h.get? b).map fun o => (b, o)
theorem mem_pinsAt {fp : List Addr} {h : Heap} {b : Addr} {o : Obj} (hb : b ∈ fp) (e : h.get? b = some o) : (b, o) ∈ pinsAt fp h := List.mem_filterMap.mpr ⟨b, hb, by rw [e]; rfl⟩
theorem of_pinsAt {fp : List Addr} {h : Heap} {p : Addr × Obj} (hp : p ∈ pinsAt fp h) : p.1 ∈ fp ∧ h.get? p.1 = some p.2 := by
  obtain ⟨b, hb, e⟩ := List.mem_filterMap.mp hp
  cases q : h.get? b with
  | none => rw [q] at e; cases e
  | some o =>
    rw [q] at e
    have e' : (b, o) = p := Option.some.inj e
    subst e'
    exact ⟨hb, q⟩
theorem Inv.pinned {pins : List (Addr × Obj)} {σ : St} {H : Hp} {s : Shared} {fp : List Addr} (I : Inv X pins σ H s) (hf : ∀ b ∈ fp, FpOk X pins H b) (ho : ∀ b ∈ fp, ∃ o, s.heap.get? b = some o ∧ ∀ v, o.data ≠ .cell v) : Inv X (pins ++ pinsAt fp s.heap) σ H s :=
  I.pins_of fun p hp => (List.mem_append.mp hp).elim (fun z => I.pin p (List.mem_append_right _ z)) fun z => by
    obtain ⟨hb, e⟩ := of_pinsAt z
    obtain ⟨f0, f1, f2, _⟩ := hf p.1 hb
    obtain ⟨o, e', d⟩ := ho p.1 hb
    rw [e] at e'; cases e'
    exact ⟨e, f0, f1, f2, d⟩
theorem Inv.unpinned {pins pl : List (Addr × Obj)} {σ : St} {H : Hp} {s : Shared} (I : Inv X (pins ++ pl) σ H s) : Inv X pins σ H s := I.pins_of fun p hp => I.pin p (List.mem_append_right _ (List.mem_append_left _ hp))
theorem ps_for {iter : Expr} {body : List Stmt} {wi : TI} {g : TG} {tb : TS} {pos : Pos} (hp : PassesOwn (model X.prog X.w) X.A X.env X.xe) (hc : X.calm = true) (hi : PI X tg iter wi) (hg : PG X tg g) (hb : PSs X body tb)
    (hs : ∀ x, foldedSetIterable iter X.env x = pure x := by intro _; rfl) : PS X (.For tg iter body [] pos) (tFor wi g tb) := by
  intro pins s σ H D I h
  refine wpAny_For (thn (hi pins s σ H _ I h) fun v s1 h1 => thn h1 fun itv s2 h2 => ?_) hs
  obtain ⟨it, fp, tn, J, H2, e, I2, T, st2, f2, W, ⟨m0, w0⟩, turn⟩ := h2
  subst e
  -- what stays true of the iterator's objects through the loop
  have stat : ∀ {H' : Hp}, (∀ b ∈ fp, H' b = none) → ∀ b ∈ fp, FpOk X pins H' b := fun hn b hb => ⟨hn b hb, (f2 b hb).2⟩
  refine codeAny_forLoop_any (fun n s' => ∃ i σ' H', Inv X pins σ' H' s' ∧ tn i s'.heap ∧ (∀ b ∈ fp, H' b = none) ∧ W i n σ' H') ?_ m0 ⟨0, σ, H2, I2, st2, fun b hb => (f2 b hb).1, w0⟩
  rintro n s3 ⟨i, σ3, H3, I3, st3, fr3, w3⟩
  rcases turn i n σ3 H3 w3 with ⟨stop, qn⟩ | ⟨go, N, hN, step⟩
  · refine wpAny_passesOwn hp (thn (T.done X rfl rfl rfl hc i pins s3 σ3 H3 X.xe I3 (stat fr3) st3 stop) fun r s4 ⟨hr, I4⟩ => ?_)
    subst hr
    exact wpAny_execs_nil ⟨σ3, H3, I4, qn⟩
  · refine wpAny_passesOwn hp (thn (T.item X rfl rfl rfl hc i pins s3 σ3 H3 X.xe I3 (stat fr3) st3 go) fun r s4 ⟨u, hr, h4⟩ => ?_)
    subst hr
    refine wpAny_passesOwn hp (thn h4 fun _ s5 ⟨x, H5, I5, r5, y5, st5, fr5⟩ => ?_)
    have I5' := I5.pinned (stat fr5) (T.obj _ _ st5)
    refine wpAny_passesOwn hp (thn (hg _ s5 σ3 H5 x u _ I5' r5 (step x H5 y5)) fun _ s6 ⟨σ6, H6, I6, q6⟩ => ?_)
    refine wpAny_passesOwn hp (thn (hb _ s6 σ6 H6 _ I6 q6) fun f s7 q7 => ?_)
    have again : ∀ {σ7 : St} {H7 : Hp}, Inv X (pins ++ pinsAt fp s5.heap) σ7 H7 s7 → N σ7 H7 → ∃ m, m < n ∧ ∃ i σ' H', Inv X pins σ' H' s7 ∧ tn i s7.heap ∧ (∀ b ∈ fp, H' b = none) ∧ W i m σ' H' := fun {σ7 H7} I7 n7 => by
      obtain ⟨m', hm, w7⟩ := hN σ7 H7 n7
      refine ⟨m', hm, i + 1, σ7, H7, I7.unpinned, T.keep _ _ _ st5 fun b hb o e => (I7.pin (b, o) (List.mem_append_right _ (List.mem_append_right _ (mem_pinsAt hb e)))).1, fun b hb => ?_, w7⟩
      obtain ⟨o, e, d⟩ := T.obj _ _ st5 b hb
      exact (I7.pin (b, o) (List.mem_append_right _ (List.mem_append_right _ (mem_pinsAt hb e)))).2.1
    cases f with
    | next => obtain ⟨σ7, H7, I7, n7⟩ := q7; exact again I7 n7
    | cont => obtain ⟨σ7, H7, I7, n7⟩ := q7; exact again I7 n7
    | brk => obtain ⟨σ7, H7, I7, q7⟩ := q7; exact ⟨σ7, H7, I7.unpinned, q7⟩
    | ret v => obtain ⟨x7, σ7, H7, I7, r7, q7⟩ := q7; exact ⟨x7, σ7, H7, I7.unpinned, r7, q7⟩
end

/-! ### the forms one uses -/
/-- over a list that the body leaves as it is -/
theorem for_list {K : PySem.W.Frag} {a : Addr} {xs : List V} {g : TG} {tb : TS} {D : Ends} {σ : St} {H : Hp} (Pv : Nat → St → Hp → Prop) (h0 : Pv 0 σ H) (hl : ∀ i σ H, i ≤ xs.length → Pv i σ H → SqL K H a xs)
    (hs : ∀ i x σ H, xs[i]? = some x → Pv i σ H → g x σ H fun σ2 H2 => tb { D with nx := Pv (i + 1), ct := Pv (i + 1), bk := D.nx } σ2 H2) (hd : ∀ σ H, Pv xs.length σ H → D.nx σ H) :
    ∃ W : Nat → Nat → St → Hp → Prop, (∃ m, W 0 m σ H) ∧ ∀ i m σ H, W i m σ H →
      ((Itl K a).stop i H ∧ D.nx σ H) ∨ ((Itl K a).go i H ∧ ∃ N : St → Hp → Prop, (∀ σ' H', N σ' H' → ∃ m', m' < m ∧ W (i + 1) m' σ' H') ∧ ∀ x H', (Itl K a).yld i H x H' → g x σ H' fun σ2 H2 => tb { D with nx := N, ct := N, bk := D.nx } σ2 H2) := by
  refine ⟨fun i m σ H => m = xs.length - i ∧ i ≤ xs.length ∧ Pv i σ H, ⟨xs.length, by simp, Nat.zero_le _, h0⟩, ?_⟩
  rintro i m σ H ⟨rfl, hi, p⟩
  have q := hl i σ H hi p
  by_cases hlt : i < xs.length
  · refine .inr ⟨⟨xs, xs[i], q, by simp [hlt]⟩, Pv (i + 1), fun σ' H' p' => ⟨xs.length - (i + 1), by omega, rfl, hlt, p'⟩, fun x H' y => ?_⟩
    obtain ⟨e, y⟩ := y
    subst e
    exact hs i x σ _ (y xs q) p
  · have e : i = xs.length := by omega
    subst e
    exact .inl ⟨⟨xs, q, Nat.le_refl _⟩, hd σ H p⟩
theorem for_tup {K : PySem.W.Frag} {a : Addr} {xs : List V} {g : TG} {tb : TS} {D : Ends} {σ : St} {H : Hp} (Pv : Nat → St → Hp → Prop) (h0 : Pv 0 σ H) (hl : ∀ i σ H, i ≤ xs.length → Pv i σ H → SqT K H a xs)
    (hs : ∀ i x σ H, xs[i]? = some x → Pv i σ H → g x σ H fun σ2 H2 => tb { D with nx := Pv (i + 1), ct := Pv (i + 1), bk := D.nx } σ2 H2) (hd : ∀ σ H, Pv xs.length σ H → D.nx σ H) :
    ∃ W : Nat → Nat → St → Hp → Prop, (∃ m, W 0 m σ H) ∧ ∀ i m σ H, W i m σ H →
      ((Itt K a).stop i H ∧ D.nx σ H) ∨ ((Itt K a).go i H ∧ ∃ N : St → Hp → Prop, (∀ σ' H', N σ' H' → ∃ m', m' < m ∧ W (i + 1) m' σ' H') ∧ ∀ x H', (Itt K a).yld i H x H' → g x σ H' fun σ2 H2 => tb { D with nx := N, ct := N, bk := D.nx } σ2 H2) := by
  refine ⟨fun i m σ H => m = xs.length - i ∧ i ≤ xs.length ∧ Pv i σ H, ⟨xs.length, by simp, Nat.zero_le _, h0⟩, ?_⟩
  rintro i m σ H ⟨rfl, hi, p⟩
  have q := hl i σ H hi p
  by_cases hlt : i < xs.length
  · refine .inr ⟨⟨xs, xs[i], q, by simp [hlt]⟩, Pv (i + 1), fun σ' H' p' => ⟨xs.length - (i + 1), by omega, rfl, hlt, p'⟩, fun x H' y => ?_⟩
    obtain ⟨e, y⟩ := y
    subst e
    exact hs i x σ _ (y xs q) p
  · have e : i = xs.length := by omega
    subst e
    exact .inl ⟨⟨xs, q, Nat.le_refl _⟩, hd σ H p⟩
theorem for_range {lo : Int} {n : Nat} {g : TG} {tb : TS} {D : Ends} {σ : St} {H : Hp} (Pv : Nat → St → Hp → Prop) (h0 : Pv 0 σ H)
    (hs : ∀ i σ H, i < n → Pv i σ H → g (.int (lo + i)) σ H fun σ2 H2 => tb { D with nx := Pv (i + 1), ct := Pv (i + 1), bk := D.nx } σ2 H2) (hd : ∀ σ H, Pv n σ H → D.nx σ H) :
    ∃ W : Nat → Nat → St → Hp → Prop, (∃ m, W 0 m σ H) ∧ ∀ i m σ H, W i m σ H →
      ((Itr lo n).stop i H ∧ D.nx σ H) ∨ ((Itr lo n).go i H ∧ ∃ N : St → Hp → Prop, (∀ σ' H', N σ' H' → ∃ m', m' < m ∧ W (i + 1) m' σ' H') ∧ ∀ x H', (Itr lo n).yld i H x H' → g x σ H' fun σ2 H2 => tb { D with nx := N, ct := N, bk := D.nx } σ2 H2) := by
  refine ⟨fun i m σ H => m = n - i ∧ i ≤ n ∧ Pv i σ H, ⟨n, by simp, Nat.zero_le _, h0⟩, ?_⟩
  rintro i m σ H ⟨rfl, hi, p⟩
  by_cases hlt : i < n
  · refine .inr ⟨hlt, Pv (i + 1), fun σ' H' p' => ⟨n - (i + 1), by omega, rfl, hlt, p'⟩, fun x H' y => ?_⟩
    obtain ⟨e, y⟩ := y
    subst e y
    exact hs i σ _ hlt p
  · have e : i = n := by omega
    subst e
    exact .inl ⟨Nat.le_refl _, hd σ H p⟩
end L2

namespace L2
open PySem PySem.Spec PyProof.Rows

abbrev R2 := V → V → Hp → VK → Prop
/-- a two-place operation on values: f is binaryOp op, inplaceOp op or compareOp op -/
def OpR (X : Cx) (f : Value → Value → Sem Value) (r : R2) : Prop :=
  ∀ (pins : List (Addr × Obj)) (s : Shared) (σ : St) (H : Hp) (x y : V) (v u : Value) (Q : VK), Inv X pins σ H s → RelV x v → RelV y u → r x y H Q →
    wpAny (model X.prog X.w) X.A (f v u) (EP X pins σ Q) X.xe s
/-- a one-place operation -/
def UnR (X : Cx) (f : Value → Sem Value) (r : V → Hp → VK → Prop) : Prop :=
  ∀ (pins : List (Addr × Obj)) (s : Shared) (σ : St) (H : Hp) (x : V) (v : Value) (Q : VK), Inv X pins σ H s → RelV x v → r x H Q →
    wpAny (model X.prog X.w) X.A (f v) (EP X pins σ Q) X.xe s
/-- a call of a value that is known (a builtin, a type) with values -/
def CallR (X : Cx) (f : Value) (r : List V → Hp → VK → Prop) : Prop :=
  ∀ (pins : List (Addr × Obj)) (s : Shared) (σ : St) (H : Hp) (xs : List V) (us : List Value) (Q : VK), Inv X pins σ H s → Vals xs us → r xs H Q →
    wpAny (model X.prog X.w) X.A (call f us) (EP X pins σ Q) X.xe s
/-- a value's truth -/
def TruR (X : Cx) (r : V → Hp → (Bool → Hp → Prop) → Prop) : Prop :=
  ∀ (pins : List (Addr × Obj)) (s : Shared) (σ : St) (H : Hp) (x : V) (v : Value) (Q : Bool → Hp → Prop), Inv X pins σ H s → RelV x v → r x H Q →
    wpAny (model X.prog X.w) X.A (truthy v) (TP X pins σ Q) X.xe s

def tOp (r : R2) (ta tb : TE) : TE := fun σ H Q => ta σ H fun x H1 => tb σ H1 fun y H2 => r x y H2 Q
def tUn (r : V → Hp → VK → Prop) (ta : TE) : TE := fun σ H Q => ta σ H fun x H1 => r x H1 Q
/-- ints in, under C, and a value out -/
def rI (C : Int → Int → Prop) (g : Int → Int → V) : R2 := fun x y H Q => ∃ i j, x = .int i ∧ y = .int j ∧ C i j ∧ Q (g i j) H
def rI0 (g : Int → Int → V) : R2 := fun x y H Q => ∃ i j, x = .int i ∧ y = .int j ∧ Q (g i j) H
def rU (g : Int → V) : V → Hp → VK → Prop := fun x H Q => ∃ i, x = .int i ∧ Q (g i) H

section
variable {X : Cx} {a b c : Expr} {ta tb tc : TE} {pos : Pos}

theorem binT (ha : PE X a ta) (hb : PE X b tb) {pins : List (Addr × Obj)} {s : Shared} {σ : St} {H : Hp} {R : V → V → Hp → Prop} (I : Inv X pins σ H s)
    (h : ta σ H fun x H1 => tb σ H1 fun y H2 => R x y H2) {Q : Value → Shared → Prop} {f : Value → Value → Sem Value}
    (hf : ∀ v u s2 x y H2, Inv X pins σ H2 s2 → RelV x v → RelV y u → R x y H2 → wpAny (model X.prog X.w) X.A (f v u) Q X.xe s2) :
    wpAny (model X.prog X.w) X.A (eval a X.env) (fun v s₁ => wpAny (model X.prog X.w) X.A (eval b X.env) (fun u s₂ => wpAny (model X.prog X.w) X.A (f v u) Q X.xe s₂) X.xe s₁) X.xe s := by
  refine thn (ha pins s σ H _ I h) fun v s1 ⟨x, H1, I1, r1, q1⟩ => ?_
  refine thn (hb pins s1 σ H1 _ I1 q1) fun u s2 ⟨y, H2, I2, r2, q2⟩ => ?_
  exact hf v u s2 x y H2 I2 r1 r2 q2

theorem pe_op {op : Operator} {r : R2} (ho : OpR X (binaryOp op) r) (ha : PE X a ta) (hb : PE X b tb) : PE X (.BinOp a op b pos) (tOp r ta tb) := by
  intro pins s σ H Q I h
  exact wpAny_BinOp (binT ha hb I h fun v u s2 x y H2 I2 rx ry q => ho pins s2 σ H2 x y v u Q I2 rx ry q)
theorem pe_un {op : UnaryOp} {r : V → Hp → VK → Prop} (ho : UnR X (unaryOp op) r) (ha : PE X a ta) : PE X (.UnaryOp op a pos) (tUn r ta) := by
  intro pins s σ H Q I h
  exact UnaryOp_ (thn (ha pins s σ H _ I h) fun v s1 ⟨x, H1, I1, r1, q1⟩ => ho pins s1 σ H1 x v Q I1 r1 q1)
/-! ### ints -/
theorem opI {f : Value → Value → Sem Value} {C : Int → Int → Prop} {g : Int → Int → Int}
    (rule : ∀ (i j : Int) (t u : Tok) (s : Shared) (Q : Value → Shared → Prop) (E : Value → Shared → Prop), C i j → Q (.int (g i j) s.toks) { s with toks := s.toks + 1 } → wpAny (model X.prog X.w) X.A (f (.int i t) (.int j u)) Q E s) :
    OpR X f (rI C fun i j => .int (g i j)) := by
  intro pins s σ H x y v u Q I rx ry h
  obtain ⟨i, j, rfl, rfl, hc, q⟩ := h
  obtain ⟨t, rfl⟩ := rx
  obtain ⟨t', rfl⟩ := ry
  exact rule i j t t' s _ _ hc ⟨.int (g i j), H, I.tok _, ⟨_, rfl⟩, q⟩
theorem opI0 {f : Value → Value → Sem Value} {g : Int → Int → Int}
    (rule : ∀ (i j : Int) (t u : Tok) (s : Shared) (Q : Value → Shared → Prop) (E : Value → Shared → Prop), Q (.int (g i j) s.toks) { s with toks := s.toks + 1 } → wpAny (model X.prog X.w) X.A (f (.int i t) (.int j u)) Q E s) :
    OpR X f (rI0 fun i j => .int (g i j)) := by
  intro pins s σ H x y v u Q I rx ry h
  obtain ⟨i, j, rfl, rfl, q⟩ := h
  obtain ⟨t, rfl⟩ := rx
  obtain ⟨t', rfl⟩ := ry
  exact rule i j t t' s _ _ ⟨.int (g i j), H, I.tok _, ⟨_, rfl⟩, q⟩
theorem opB0 {f : Value → Value → Sem Value} {g : Int → Int → Bool}
    (rule : ∀ (i j : Int) (t u : Tok) (s : Shared) (Q : Value → Shared → Prop) (E : Value → Shared → Prop), Q (.bool (g i j)) s → wpAny (model X.prog X.w) X.A (f (.int i t) (.int j u)) Q E s) :
    OpR X f (rI0 fun i j => .bl (g i j)) := by
  intro pins s σ H x y v u Q I rx ry h
  obtain ⟨i, j, rfl, rfl, q⟩ := h
  obtain ⟨t, rfl⟩ := rx
  obtain ⟨t', rfl⟩ := ry
  exact rule i j t t' s _ _ ⟨.bl (g i j), H, I, rfl, q⟩

def CDiv (i j : Int) : Prop := 0 < j ∧ j < 1073741824
def CDivN (i j : Int) : Prop := j ≠ 0 ∧ j.natAbs < 1073741824
def CPow (i j : Int) : Prop := 0 ≤ j ∧ j ≤ 1000000 ∧ i.natAbs < 2 ^ 64
def CMul (i j : Int) : Prop := (-(2 ^ 64) < i ∧ i < 2 ^ 64) ∨ (-(2 ^ 64) < j ∧ j < 2 ^ 64)
theorem CMul.ok {i j : Int} (h : CMul i j) : IntMulOk i j := by
  rcases h with ⟨h1, h2⟩ | ⟨h1, h2⟩
  · exact .of_left (intBits_le_64 h1 h2)
  · exact .of_right (intBits_le_64 h1 h2)
theorem op_add : OpR X (binaryOp .Add) (rI0 fun i j => .int (i + j)) := opI0 fun _ _ _ _ _ _ _ q => add_int q
theorem op_sub : OpR X (binaryOp .Sub) (rI0 fun i j => .int (i - j)) := opI0 fun _ _ _ _ _ _ _ q => sub_int q
theorem op_mul : OpR X (binaryOp .Mult) (rI CMul fun i j => .int (i * j)) := opI fun _ _ _ _ _ _ _ hc q => mul_int q hc.ok
/-- // by a positive divisor -/
theorem op_fdiv : OpR X (binaryOp .FloorDiv) (rI CDiv fun i j => .int (i / j)) := opI fun i j _ _ _ _ _ hc q => by
  have h1 : (0 : Int) < j := hc.1
  have h2 : j < 1073741824 := hc.2
  exact floordiv_int (by omega) (by rw [Int.fdiv_eq_ediv_of_nonneg i (by omega)]; exact q) (.inl (PyProof.noPylong_small (by omega)))
/-- % by a positive divisor of any size -/
theorem op_mod : OpR X (binaryOp .Mod) (rI (fun _ j => 0 < j) fun i j => .int (i % j)) := opI fun i j _ _ _ _ _ hc q => by
  have h1 : (0 : Int) < j := hc
  exact mod_int' (by omega) (by rw [Int.fmod_eq_emod_of_nonneg i (by omega)]; exact q)
theorem op_pow : OpR X (binaryOp .Pow) (rI CPow fun i j => .int (i ^ j.toNat)) := opI fun _ _ _ _ _ _ _ hc q => pow_int_small hc.1 hc.2.1 hc.2.2 q
theorem unI {f : Value → Sem Value} {g : Int → Int}
    (rule : ∀ (i : Int) (t : Tok) (s : Shared) (Q : Value → Shared → Prop) (E : Value → Shared → Prop), Q (.int (g i) s.toks) { s with toks := s.toks + 1 } → wpAny (model X.prog X.w) X.A (f (.int i t)) Q E s) :
    UnR X f (rU fun i => .int (g i)) := by
  intro pins s σ H x v Q I rx h
  obtain ⟨i, rfl, q⟩ := h
  obtain ⟨t, rfl⟩ := rx
  exact rule i t s _ _ ⟨.int (g i), H, I.tok _, ⟨_, rfl⟩, q⟩
theorem un_neg : UnR X (unaryOp .USub) (rU fun i => .int (-i)) := unI fun _ _ _ _ _ q => neg_int q
/-! ### bools among ints: n += (a < b) -/
end

/-! ### comparisons -/
/-- the scalars that == tells apart as data does -/
def scal : V → V → Bool
  | .non, .non => true | .non, .int _ => true | .int _, .non => true | .non, .bl _ => true | .bl _, .non => true | .non, .str _ => true | .str _, .non => true
  | .int _, .int _ => true | .bl _, .bl _ => true | .str _, .str _ => true | .byt _, .byt _ => true
  | .int _, .str _ => true | .str _, .int _ => true | .bl _, .str _ => true | .str _, .bl _ => true
  | _, _ => false
def rEq : R2 := fun x y H Q => scal x y = true ∧ Q (.bl (decide (x = y))) H
def rNe : R2 := fun x y H Q => scal x y = true ∧ Q (.bl (!decide (x = y))) H

theorem dec_int {i j : Int} : decide (V.int i = V.int j) = (i == j) := by
  rw [Bool.eq_iff_iff]
  simp
theorem dec_bl {i j : Bool} : decide (V.bl i = V.bl j) = (i == j) := by
  rw [Bool.eq_iff_iff]
  simp
theorem dec_str {i j : Str} : decide (V.str i = V.str j) = (i == j) := by
  rw [Bool.eq_iff_iff]
  simp
theorem dec_byt {i j : Array UInt8} : decide (V.byt i = V.byt j) = (i.toList == j.toList) := by
  rw [Bool.eq_iff_iff]
  cases i
  cases j
  simp

section
variable {X : Cx} {a b c : Expr} {ta tb tc : TE} {pos : Pos}
theorem fin_bl {pins : List (Addr × Obj)} {σ : St} {H : Hp} {s : Shared} {Q : VK} {k k' : Bool} (I : Inv X pins σ H s) (q : Q (.bl k) H) (e : k = k') : EP X pins σ Q (.bool k') s := by
  subst e
  exact ⟨.bl k, H, I, rfl, q⟩
theorem op_eq : OpR X (compareOp .Eq) rEq := by
  intro pins s σ H x y v u Q I rx ry h
  obtain ⟨hs, q⟩ := h
  cases x with
  | non =>
    cases rx
    cases y with
    | non => cases ry; exact PySem.EqNone.eq_none_none (fin_bl I q (by simp))
    | bl j => cases ry; exact PySem.EqNone.eq_none_bool (fin_bl I q (by simp))
    | int j => obtain ⟨t', rfl⟩ := ry; exact PySem.EqNone.eq_none_int (fin_bl I q (by simp))
    | str j => obtain ⟨t', rfl⟩ := ry; exact PySem.EqNone.eq_none_str (fin_bl I q (by simp))
    | _ => exact absurd (show false = true from hs) Bool.false_ne_true
  | bl i =>
    cases rx
    cases y with
    | non => cases ry; exact PySem.EqNone.eq_bool_none (fin_bl I q (by simp))
    | bl j => cases ry; exact eq_bool (fin_bl I q dec_bl)
    | str j => obtain ⟨t', rfl⟩ := ry; exact PySem.EqMixed.eq_bool_str (fin_bl I q (by simp))
    | _ => exact absurd (show false = true from hs) Bool.false_ne_true
  | int i =>
    obtain ⟨t, rfl⟩ := rx
    cases y with
    | non => cases ry; exact PySem.EqNone.eq_int_none (fin_bl I q (by simp))
    | int j => obtain ⟨t', rfl⟩ := ry; exact eq_int (fin_bl I q dec_int)
    | str j => obtain ⟨t', rfl⟩ := ry; exact PySem.EqMixed.eq_int_str (fin_bl I q (by simp))
    | _ => exact absurd (show false = true from hs) Bool.false_ne_true
  | str i =>
    obtain ⟨t, rfl⟩ := rx
    cases y with
    | non => cases ry; exact PySem.EqNone.eq_str_none (fin_bl I q (by simp))
    | bl j => cases ry; exact PySem.EqMixed.eq_str_bool (fin_bl I q (by simp))
    | int j => obtain ⟨t', rfl⟩ := ry; exact PySem.EqMixed.eq_str_int (fin_bl I q (by simp))
    | str j => obtain ⟨t', rfl⟩ := ry; exact eq_str (fin_bl I q dec_str)
    | _ => exact absurd (show false = true from hs) Bool.false_ne_true
  | byt i =>
    obtain ⟨t, rfl⟩ := rx
    cases y with
    | byt j => obtain ⟨t', rfl⟩ := ry; exact PySem.W.eq_bytes (fin_bl I q dec_byt)
    | _ => exact absurd (show false = true from hs) Bool.false_ne_true
  | _ => cases y <;> exact absurd (show false = true from hs) Bool.false_ne_true
theorem op_ne : OpR X (compareOp .NotEq) rNe := by
  intro pins s σ H x y v u Q I rx ry h
  obtain ⟨hs, q⟩ := h
  cases x with
  | non =>
    cases rx
    cases y with
    | non => cases ry; exact PySem.EqNone.ne_none_none (fin_bl I q (by simp))
    | bl j => cases ry; exact PySem.EqNone.ne_none_bool (fin_bl I q (by simp))
    | int j => obtain ⟨t', rfl⟩ := ry; exact PySem.EqNone.ne_none_int (fin_bl I q (by simp))
    | str j => obtain ⟨t', rfl⟩ := ry; exact PySem.EqNone.ne_none_str (fin_bl I q (by simp))
    | _ => exact absurd (show false = true from hs) Bool.false_ne_true
  | bl i =>
    cases rx
    cases y with
    | non => cases ry; exact PySem.EqNone.ne_bool_none (fin_bl I q (by simp))
    | bl j => cases ry; exact ne_bool (fin_bl I q (congrArg not dec_bl))
    | str j => obtain ⟨t', rfl⟩ := ry; exact PySem.EqMixed.ne_bool_str (fin_bl I q (by simp))
    | _ => exact absurd (show false = true from hs) Bool.false_ne_true
  | int i =>
    obtain ⟨t, rfl⟩ := rx
    cases y with
    | non => cases ry; exact PySem.EqNone.ne_int_none (fin_bl I q (by simp))
    | int j => obtain ⟨t', rfl⟩ := ry; exact ne_int (fin_bl I q (congrArg not dec_int))
    | str j => obtain ⟨t', rfl⟩ := ry; exact PySem.EqMixed.ne_int_str (fin_bl I q (by simp))
    | _ => exact absurd (show false = true from hs) Bool.false_ne_true
  | str i =>
    obtain ⟨t, rfl⟩ := rx
    cases y with
    | non => cases ry; exact PySem.EqNone.ne_str_none (fin_bl I q (by simp))
    | bl j => cases ry; exact PySem.EqMixed.ne_str_bool (fin_bl I q (by simp))
    | int j => obtain ⟨t', rfl⟩ := ry; exact PySem.EqMixed.ne_str_int (fin_bl I q (by simp))
    | str j => obtain ⟨t', rfl⟩ := ry; exact ne_str (fin_bl I q (congrArg not dec_str))
    | _ => exact absurd (show false = true from hs) Bool.false_ne_true
  | byt i =>
    obtain ⟨t, rfl⟩ := rx
    cases y with
    | byt j => obtain ⟨t', rfl⟩ := ry; exact PySem.W.ne_bytes (fin_bl I q (congrArg not dec_byt))
    | _ => exact absurd (show false = true from hs) Bool.false_ne_true
  | _ => cases y <;> exact absurd (show false = true from hs) Bool.false_ne_true

theorem op_lt : OpR X (compareOp .Lt) (rI0 fun i j => .bl (decide (i < j))) := opB0 fun _ _ _ _ _ _ _ q => lt_int q
theorem op_le : OpR X (compareOp .LtE) (rI0 fun i j => .bl (decide (i ≤ j))) := opB0 fun _ _ _ _ _ _ _ q => le_int q
theorem op_gt : OpR X (compareOp .Gt) (rI0 fun i j => .bl (decide (j < i))) := opB0 fun _ _ _ _ _ _ _ q => gt_int q
theorem op_ge : OpR X (compareOp .GtE) (rI0 fun i j => .bl (decide (j ≤ i))) := opB0 fun _ _ _ _ _ _ _ q => ge_int q
/-- is None, is not None: the right side a value none -/
theorem op_isN : OpR X (compareOp .Is) (fun x y H Q => y = .non ∧ Q (.bl (decide (x = .non))) H) := by
  intro pins s σ H x y v u Q I rx ry h
  obtain ⟨rfl, q⟩ := h
  cases ry
  refine is_none_gen (fin_bl I q ?_)
  cases x <;> first
    | (cases rx; rfl)
    | (obtain ⟨t, rfl⟩ := rx; rfl)
theorem op_notN : OpR X (compareOp .IsNot) (fun x y H Q => y = .non ∧ Q (.bl (!decide (x = .non))) H) := by
  intro pins s σ H x y v u Q I rx ry h
  obtain ⟨rfl, q⟩ := h
  cases ry
  refine isnot_none_gen (fin_bl I q ?_)
  cases x <;> first
    | (cases rx; rfl)
    | (obtain ⟨t, rfl⟩ := rx; rfl)

/-- is, is not of two objects that are tracked lists or instances -/
def isObj : HO → Bool
  | .lst _ => true
  | .ins _ _ _ => true
  | _ => false
/-- two rules for one operation: by cases -/
theorem OpR.or {f : Value → Value → Sem Value} {r r' : R2} (h : OpR X f r) (h' : OpR X f r') : OpR X f (fun x y H Q => r x y H Q ∨ r' x y H Q) := by
  intro pins s σ H x y v u Q I rx ry q
  rcases q with q | q
  · exact h pins s σ H x y v u Q I rx ry q
  · exact h' pins s σ H x y v u Q I rx ry q

theorem nomark (b : Expr) {op : CmpOp} (h : op ≠ .In := by decide) (h2 : op ≠ .NotIn := by decide) : behindInMarks op b = false := by
  have e1 : (op == CmpOp.In) = false := by cases op <;> first | rfl | exact absurd rfl h
  have e2 : (op == CmpOp.NotIn) = false := by cases op <;> first | rfl | exact absurd rfl h2
  cases b <;> simp [behindInMarks, e1, e2]
/-- a comparison as a value; hm: nomark b, or (for in, not in) by with_unfolding_all rfl -/
theorem pe_cmpR {op : CmpOp} {r : R2} (ho : OpR X (compareOp op) r) (ha : PE X a ta) (hb : PE X b tb) (hm : behindInMarks op b = false) : PE X (.Compare a [op] [b] pos) (tOp r ta tb) := by
  intro pins s σ H Q I h
  exact wpAny_Compare1 (binT ha hb I h fun v u s2 x y H2 I2 rx ry q => ho pins s2 σ H2 x y v u Q I2 rx ry q) hm
/-- a reading of a value as a test -/
def tTest (t : TE) : TT := fun σ H Q => t σ H fun x H' => ∃ k, x = .bl k ∧ Q k H'
theorem pt_cmpR {op : CmpOp} {r : R2} (ho : OpR X (compareOp op) r) (ha : PE X a ta) (hb : PE X b tb) (hm : behindInMarks op b = false) : PT X (.Compare a [op] [b] pos) (tTest (tOp r ta tb)) := by
  intro pins s σ H Q I h
  refine wpAny_isTrue_Compare1 (thn (ha pins s σ H _ I h) fun v s1 ⟨x, H1, I1, r1, q1⟩ => thn (hb pins s1 σ H1 _ I1 q1) fun u s2 ⟨y, H2, I2, r2, q2⟩ =>
    thn (ho pins s2 σ H2 x y v u _ I2 r1 r2 q2) fun c s3 ⟨z, H3, I3, r3, k, e, q3⟩ => ?_) hm
  subst e
  cases r3
  exact wpAny_truthy_bool ⟨H3, I3, q3⟩
/-- a op1 b op2 c -/
def tChain (r r' : R2) (ta tb tc : TE) : TE := fun σ H Q => ta σ H fun x H1 => tb σ H1 fun y H2 => r x y H2 fun z H3 => ∃ k, z = .bl k ∧
  (if k = true then tc σ H3 fun w' H4 => r' y w' H4 Q else Q (.bl false) H3)
theorem pe_chain {op op' : CmpOp} {r r' : R2} (ho : OpR X (compareOp op) r) (ho' : OpR X (compareOp op') r') (ha : PE X a ta) (hb : PE X b tb) (hc : PE X c tc)
    (hm : lastMarks [op, op'] [b, c] = false := by with_unfolding_all rfl) : PE X (.Compare a [op, op'] [b, c] pos) (tChain r r' ta tb tc) := by
  intro pins s σ H Q I h
  refine Compare_chain (thn (ha pins s σ H _ I h) fun v s1 ⟨x, H1, I1, r1, q1⟩ => chain_link (thn (hb pins s1 σ H1 _ I1 q1) fun u s2 ⟨y, H2, I2, r2, q2⟩ =>
    thn (ho pins s2 σ H2 x y v u _ I2 r1 r2 q2) fun d s3 ⟨z, H3, I3, r3, k, e, q3⟩ => ?_)) hm
  subst e
  cases r3
  refine wpAny_truthy_bool ?_
  cases k with
  | false => exact ite_ff ⟨.bl false, H3, I3, rfl, q3⟩
  | true => exact ite_tt (chain_last (thn (hc pins s3 σ H3 _ I3 q3) fun w' s4 ⟨z', H4, I4, r4, q4⟩ => ho' pins s4 σ H4 y z' u w' Q I4 r2 r4 q4))
theorem pt_chain {op op' : CmpOp} {r r' : R2} (ho : OpR X (compareOp op) r) (ho' : OpR X (compareOp op') r') (ha : PE X a ta) (hb : PE X b tb) (hc : PE X c tc)
    (hm : lastMarks [op, op'] [b, c] = false := by with_unfolding_all rfl) : PT X (.Compare a [op, op'] [b, c] pos) (tTest (tChain r r' ta tb tc)) := by
  intro pins s σ H Q I h
  refine isTrue_chain (thn (ha pins s σ H _ I h) fun v s1 ⟨x, H1, I1, r1, q1⟩ => test_link (thn (hb pins s1 σ H1 _ I1 q1) fun u s2 ⟨y, H2, I2, r2, q2⟩ =>
    thn (ho pins s2 σ H2 x y v u _ I2 r1 r2 q2) fun d s3 ⟨z, H3, I3, r3, k, e, q3⟩ => ?_)) hm
  subst e
  cases r3
  refine wpAny_truthy_bool ?_
  cases k with
  | false =>
    obtain ⟨k', e', q'⟩ := q3
    cases e'
    exact ite_ff ⟨H3, I3, q'⟩
  | true =>
    refine ite_tt (test_last (thn (hc pins s3 σ H3 _ I3 q3) fun w' s4 ⟨z', H4, I4, r4, q4⟩ => thn (ho' pins s4 σ H4 y z' u w' _ I4 r2 r4 q4) fun d' s5 ⟨z2, H5, I5, r5, k2, e2, q5⟩ => ?_))
    subst e2
    cases r5
    exact wpAny_truthy_bool ⟨H5, I5, q5⟩

/-! ### truth -/
/-- a value's truth by the abstract heap -/
def TruV (K : PySem.W.Frag) (x : V) (H : Hp) (k : Bool) : Prop :=
  match x with
  | .non => k = false
  | .bl b => k = b
  | .int i => k = (i != 0)
  | .str y => y.length ≤ sizeLine ∧ k = ((y.length : Int) != 0)
  | .byt y => y.size ≤ sizeLine ∧ k = ((y.size : Int) != 0)
  | .ref p => (∃ xs, SqL K H p xs ∧ k = !xs.isEmpty) ∨ (∃ xs, SqT K H p xs ∧ k = !xs.isEmpty) ∨ ∃ kvs, H p = some (.dK kvs) ∧ k = !kvs.isEmpty
  | _ => False
theorem isEmpty_kv {κ : Type} {kvs : List (κ × V)} {vs : List (κ × Value)} (r : KV kvs vs) : (!vs.isEmpty) = !kvs.isEmpty := by
  cases r <;> rfl
theorem isEmpty_of {xs : List V} {its : List Value} (r : Vals xs its) : (!its.toArray.isEmpty) = !xs.isEmpty := by
  cases r <;> simp
theorem line63 : (sizeLine : Nat) < 2 ^ 63 := by rw [sizeLine_eq]; decide
theorem tru_ok : TruR X (fun x H Q => ∃ k, TruV X.K x H k ∧ Q k H) := by
  intro pins s σ H x v Q I rx h
  obtain ⟨k, e, q⟩ := h
  have hl := line63
  have hs : sizeLine = 16777216 := sizeLine_eq
  cases x with
  | non =>
    cases rx
    have e' : k = false := e
    subst e'
    exact truthy_none ⟨H, I, q⟩
  | bl b =>
    cases rx
    have e' : k = b := e
    subst e'
    exact wpAny_truthy_bool ⟨H, I, q⟩
  | int i =>
    obtain ⟨t, rfl⟩ := rx
    have e' : k = (i != 0) := e
    subst e'
    exact PySem.P.truthy_int ⟨H, I, q⟩
  | str y =>
    obtain ⟨t, rfl⟩ := rx
    obtain ⟨hy, e'⟩ : y.length ≤ sizeLine ∧ k = ((y.length : Int) != 0) := e
    subst e'
    exact PySem.P.truthy_str (by omega) ⟨H, I.tok _, q⟩
  | byt y =>
    obtain ⟨t, rfl⟩ := rx
    obtain ⟨hy, e'⟩ : y.size ≤ sizeLine ∧ k = ((y.size : Int) != 0) := e
    subst e'
    exact PySem.W.truthy_bytes (by omega) ⟨H, I.tok _, q⟩
  | ref p =>
    cases rx
    have e' : (∃ xs, SqL X.K H p xs ∧ k = !xs.isEmpty) ∨ (∃ xs, SqT X.K H p xs ∧ k = !xs.isEmpty) ∨ ∃ kvs, H p = some (.dK kvs) ∧ k = !kvs.isEmpty := e
    rcases e' with ⟨xs, hx, e'⟩ | ⟨xs, hx, e'⟩ | ⟨kvs, hx, e'⟩
    · subst e'
      obtain ⟨its, r, pl, hz⟩ := I.list hx
      have hlen := r.length
      exact wpAny_truthy_list pl.isList (by simp only [List.size_toArray]; omega) ⟨H, I.tok _, by rw [isEmpty_of r]; exact q⟩
    · subst e'
      obtain ⟨its, r, pl, hz⟩ := I.tuple hx
      have hlen := r.length
      exact truthy_tuple pl (by simp only [List.size_toArray]; omega) ⟨H, I.tok _, by rw [isEmpty_of r]; exact q⟩
    · subst e'
      obtain ⟨hz, hS, vs, r, m⟩ : kvs.length ≤ sizeLine ∧ (p == sysModules) = false ∧ ∃ vs, KV kvs vs ∧ s.heap.DictOf (mixKind X.prog X.w) p vs := I.hok p _ hx
      have hlen : kvs.length = vs.length := Paired.length r
      exact wpAny_truthy_dict hS m (by omega) ⟨H, I.tok _, by rw [isEmpty_kv r]; exact q⟩
  | _ => exact (show False from e).elim
/-- any expression whose test is its value's truth (a name, a call, a subscript, a field ..: he by fun _ => rfl) -/
theorem pt_truth (ha : PE X a ta) (he : ∀ whole, isTrue a X.env whole = (do let v ← whole; standAt a.pos; holding [v] (truthy v))) :
    PT X a (fun σ H Q => ta σ H fun x H' => ∃ k, TruV X.K x H' k ∧ Q k H') := by
  intro pins s σ H Q I h
  exact isTrue_plain (thn (ha pins s σ H _ I h) fun v s1 ⟨x, H1, I1, r1, q1⟩ => tru_ok pins s1 σ H1 x v Q I1 r1 q1) (he _)

/-! ### strs and bytes -/
theorem op_add_str : OpR X (binaryOp .Add) (fun x y H Q => ∃ i j, x = .str i ∧ y = .str j ∧ i.length + j.length ≤ sizeLine ∧ Q (.str (i ++ j)) H) := by
  intro pins s σ H x y v u Q I rx ry h
  obtain ⟨i, j, rfl, rfl, hz, q⟩ := h
  obtain ⟨t, rfl⟩ := rx
  obtain ⟨t', rfl⟩ := ry
  exact add_str (fun t' tk => ⟨.str (i ++ j), H, I.tok _, ⟨_, rfl⟩, q⟩) hz
def PlainIxT (b : Expr) : Prop := ∀ o i, subscripted b false o i = operate [o, i] (getItem o i)
/-! ### scalar builtins, by CallR -/
theorem vals1 {x : V} {us : List Value} (r : Vals [x] us) : ∃ u, us = [u] ∧ RelV x u := by
  cases r with
  | cons r1 r2 => cases r2; exact ⟨_, rfl, r1⟩
theorem vals2 {x y : V} {us : List Value} (r : Vals [x, y] us) : ∃ u w', us = [u, w'] ∧ RelV x u ∧ RelV y w' := by
  cases r with
  | cons r1 r2 =>
    cases r2 with
    | cons r3 r4 => cases r4; exact ⟨_, _, rfl, r1, r3⟩
theorem call_abs : CallR X (.builtin "abs") (fun xs H Q => ∃ i, xs = [.int i] ∧ Q (.int (if i < 0 then -i else i)) H) := by
  intro pins s σ H xs us Q I r h
  obtain ⟨i, rfl, q⟩ := h
  obtain ⟨u, rfl, t, rfl⟩ := vals1 r
  exact call_abs_int fun u tk => ⟨.int (if i < 0 then -i else i), H, I.tok _, ⟨_, rfl⟩, q⟩
theorem call_max2 (hc : X.calm = true) : CallR X (.builtin "max") (fun xs H Q => ∃ i j, xs = [.int i, .int j] ∧ Q (.int (if j > i then j else i)) H) := by
  intro pins s σ H xs us Q I r h
  obtain ⟨i, j, rfl, q⟩ := h
  obtain ⟨u, w', rfl, ⟨t, rfl⟩, ⟨t', rfl⟩⟩ := vals2 r
  refine max_two_ints (I.ok.hd hc) fun h' tk k => ⟨_, H, I.kept k, ?_, q⟩
  by_cases hj : j > i
  · rw [if_pos hj, if_pos hj]; exact ⟨_, rfl⟩
  · rw [if_neg hj, if_neg hj]; exact ⟨_, rfl⟩
theorem call_min2 (hc : X.calm = true) : CallR X (.builtin "min") (fun xs H Q => ∃ i j, xs = [.int i, .int j] ∧ Q (.int (if j < i then j else i)) H) := by
  intro pins s σ H xs us Q I r h
  obtain ⟨i, j, rfl, q⟩ := h
  obtain ⟨u, w', rfl, ⟨t, rfl⟩, ⟨t', rfl⟩⟩ := vals2 r
  refine min_two_ints (I.ok.hd hc) fun h' tk k => ⟨_, H, I.kept k, ?_, q⟩
  by_cases hj : j < i
  · rw [if_pos hj, if_pos hj]; exact ⟨_, rfl⟩
  · rw [if_neg hj, if_neg hj]; exact ⟨_, rfl⟩
/-- len of a str, a bytes, a list, a tuple -/
def LenV (K : PySem.W.Frag) (x : V) (H : Hp) (n : Nat) : Prop :=
  match x with
  | .str y => y.length ≤ sizeLine ∧ n = y.length
  | .byt y => y.size ≤ sizeLine ∧ n = y.size
  | .ref p => (∃ xs, SqL K H p xs ∧ n = xs.length) ∨ ∃ xs, SqT K H p xs ∧ n = xs.length
  | _ => False
end
end L2

namespace L2
open PySem PySem.Spec PyProof.Rows

/-! ### an instance, its attributes a map -/
structure ObjM (h : Heap) (x dx C : Addr) (mA : Str → Option Value) : Prop where
  obj : h.get? x = some (PySem.W.instObj C dx)
  ns : h.Ns1 dx mA
  ne : dx ≠ x

theorem lookIn_ns {h : Heap} {dx : Addr} {mA : Str → Option Value} (n : h.Ns1 dx mA) : ∃ od, h.get? dx = some od ∧ ∀ name, PySem.W.lookIn name od = some (mA name) := by
  obtain ⟨o, es, ep, ho, hd, hk, _, hm⟩ := n
  refine ⟨o, ho, fun name => ?_⟩
  have e := hm name
  unfold nsFind findBy at e
  rw [← Array.find?_toList] at e
  unfold PySem.W.lookIn
  rw [hd]
  dsimp only
  split
  · rename_i y q
    rw [q] at e
    exact congrArg some e
  · rename_i q
    rw [q] at e
    have a : es.toList.any (·.refKey) = false := by
      rw [List.any_eq_false]
      intro y hy
      obtain ⟨z, t, hkey⟩ := hk y (Array.mem_toList_iff.mp hy)
      simp [DictEntry.refKey, hkey]
    have a' : ¬ es.toList.any (·.refKey) = true := by rw [a]; exact Bool.false_ne_true
    rw [if_neg a']
    exact congrArg some e

theorem ObjM.look {h : Heap} {x dx C : Addr} {mA : Str → Option Value} (I : ObjM h x dx C mA) : ∃ od, PySem.W.InstAt h x (PySem.W.instObj C dx) C (some od) ∧ ∀ name, PySem.W.lookIn name od = some (mA name) :=
  let ⟨od, ho, hl⟩ := lookIn_ns I.ns
  ⟨od, ⟨I.obj, rfl, rfl, ho⟩, hl⟩

section
variable {prog : Program} {w : World} {A : Around} {E : Value → Shared → Prop} {s : Shared} {K : PySem.W.Frag} {x dx C f : Addr} {mA : Str → Option Value} {name : Str} {v : Value}

end

/-! ### the attributes as a list of pairs -/
def putF (f : Str) (v : V) : List (Str × V) → List (Str × V)
  | [] => [(f, v)]
  | (g, x) :: r => if g = f then (g, v) :: r else (g, x) :: putF f v r
theorem lookup_putF (f g : Str) (v : V) : ∀ fs : List (Str × V), (putF f v fs).lookup g = if g = f then some v else fs.lookup g
  | [] => by
    show List.lookup g [(f, v)] = _
    by_cases h : g = f
    · have hb : (g == f) = true := beq_iff_eq.mpr h
      simp only [List.lookup, hb, if_pos h]
    · have hb : (g == f) = false := beq_eq_false_iff_ne.mpr h
      simp only [List.lookup, hb, if_neg h]
  | (k, x) :: r => by
    have ih := lookup_putF f g v r
    rw [show putF f v ((k, x) :: r) = (if k = f then (k, v) :: r else (k, x) :: putF f v r) from rfl]
    by_cases hk : k = f
    · rw [if_pos hk]
      by_cases h : g = k
      · have hb : (g == k) = true := beq_iff_eq.mpr h
        simp only [List.lookup, hb, if_pos (h.trans hk)]
      · have hb : (g == k) = false := beq_eq_false_iff_ne.mpr h
        simp only [List.lookup, hb, if_neg (fun e : g = f => h (e.trans hk.symm))]
    · rw [if_neg hk]
      by_cases h : g = k
      · have hb : (g == k) = true := beq_iff_eq.mpr h
        simp only [List.lookup, hb, if_neg (fun e : g = f => hk (h.symm.trans e))]
      · have hb : (g == k) = false := beq_eq_false_iff_ne.mpr h
        simp only [List.lookup, hb]
        exact ih
theorem keys_putF (f : Str) (v : V) : ∀ fs : List (Str × V), f ∈ (putF f v fs).map (·.1) ∧ ∀ g, g ∈ fs.map (·.1) → g ∈ (putF f v fs).map (·.1)
  | [] => ⟨by simp [putF], fun g h => by simp at h⟩
  | (k, x) :: r => by
    obtain ⟨i1, i2⟩ := keys_putF f v r
    rw [show putF f v ((k, x) :: r) = (if k = f then (k, v) :: r else (k, x) :: putF f v r) from rfl]
    by_cases hk : k = f
    · rw [if_pos hk]
      subst hk
      exact ⟨by simp, fun g h => by simpa using h⟩
    · rw [if_neg hk]
      refine ⟨?_, fun g h => ?_⟩
      · rw [List.map_cons]
        exact List.mem_cons_of_mem _ i1
      · rw [List.map_cons] at h ⊢
        rcases List.mem_cons.mp h with e | e
        · exact List.mem_cons.mpr (.inl e)
        · exact List.mem_cons_of_mem _ (i2 g e)
theorem length_putF (f : Str) (v : V) : ∀ fs : List (Str × V), (putF f v fs).length ≤ fs.length + 1
  | [] => by simp [putF]
  | (k, x) :: r => by
    have ih := length_putF f v r
    rw [show putF f v ((k, x) :: r) = (if k = f then (k, v) :: r else (k, x) :: putF f v r) from rfl]
    by_cases hk : k = f
    · rw [if_pos hk, List.length_cons, List.length_cons]; omega
    · rw [if_neg hk, List.length_cons, List.length_cons]; omega

theorem RelO.some_of {v : V} {o : Option Value} (r : RelO (some v) o) : ∃ u, o = some u ∧ RelV v u := by
  cases o with
  | none => exact (show False from r).elim
  | some u => exact ⟨u, rfl, r⟩
theorem handed_of {v : V} {u : Value} (r : RelV v u) : PySem.W.handedIn u = true := by
  cases v with
  | non => cases (show u = Value.none from r); rfl
  | bl b => cases (show u = Value.bool b from r); rfl
  | int i => obtain ⟨t, e⟩ := (show ∃ t, u = Value.int i t from r); cases e; rfl
  | str x => obtain ⟨t, e⟩ := (show ∃ t, u = Value.str x t from r); cases e; rfl
  | byt b => obtain ⟨t, e⟩ := (show ∃ t, u = Value.bytes b t from r); cases e; rfl
  | flt b => obtain ⟨t, e⟩ := (show ∃ t, u = Value.float b t from r); cases e; rfl
  | ref a => cases (show u = Value.ref a from r); rfl
  | ty n => cases (show u = Value.type n from r); rfl

section
variable {P : Program} {w : World} {H H' : Hp} {h h' : Heap} {a C dx : Addr} {fs fs' : List (Str × V)}
theorem ins_get (hok : HOk P w H h) (e : H a = some (.ins C dx fs)) : ∃ mA, ObjM h a dx C mA ∧ (∀ f, RelO (fs.lookup f) (mA f)) ∧ PySem.Within mA (fs.map (·.1)) ∧ fs.length ≤ 1000 ∧ H dx = some (.own a) := by
  obtain ⟨d, z, ne, ob, mA, n, r, q⟩ := (show ObjOk P w H h a (.ins C dx fs) from hok a _ e)
  exact ⟨mA, ⟨ob, n, ne⟩, r, q, z, d⟩
end

/-! ### what of the text a class must have -/
structure Cls (K : PySem.W.Frag) (C : Addr) : Prop where
  pg : PySem.W.plainGet K C Str.empty = true
  hd : PySem.W.hasDictIn K C = true
  po : PySem.W.plainOver K C = true
  sa : PySem.W.findIn K (.ref C) "__setattr__" = some (some (.builtin "object.__setattr__"))
theorem Cls.get {K : PySem.W.Frag} {C : Addr} (c : Cls K C) (f : Str) : PySem.W.plainGet K C f = true := c.pg
/-- no class of it has the name -/
def NoAttr (K : PySem.W.Frag) (C : Addr) (f : Str) : Prop := PySem.W.findIn K (.ref C) f = some none
/-- a constant of the class -/
structure Con (K : PySem.W.Frag) (C : Addr) (f : Str) (v : V) (u : Value) : Prop where
  at_ : PySem.W.findIn K (.ref C) f = some (some u)
  rel : RelV v u
  get : PySem.W.specialIn K u "__get__" = some none
  cp : PySem.W.copiedNames.contains f = false
/-- a method: a plain def of the class or of one above it -/
structure Meth (K : PySem.W.Frag) (C : Addr) (m : Str) (f : Addr) : Prop where
  at_ : PySem.W.findIn K (.ref C) m = some (some (.ref f))
  fn : PySem.W.isFn K (.ref f) = true
  kp : PySem.W.keepIn K (.ref f) = true

section
variable {X : Cx} {pins : List (Addr × Obj)} {σ : St} {H : Hp} {s : Shared} {a C dx : Addr} {fs : List (Str × V)} {f : Str} {v : V} {A : Around} {E : Value → Shared → Prop}

/-- a new instance, tracked, without attributes -/
theorem Inv.made (I : Inv X pins σ H s) : Inv X pins σ (upd (upd H s.heap.objs.size (.own (s.heap.objs.size + 1))) (s.heap.objs.size + 1) (.ins C s.heap.objs.size []))
    { s with heap := (s.heap.push PySem.W.emptyDict).push (PySem.W.instObj C s.heap.objs.size) } := by
  have e1 : (s.heap.push PySem.W.emptyDict).get? s.heap.objs.size = some PySem.W.emptyDict := Heap.get?_push_size s.heap rfl
  have e2 : ((s.heap.push PySem.W.emptyDict).push (PySem.W.instObj C s.heap.objs.size)).get? (s.heap.objs.size + 1) = some (PySem.W.instObj C s.heap.objs.size) := by
    have := Heap.get?_push_size (s.heap.push PySem.W.emptyDict) (o := PySem.W.instObj C s.heap.objs.size) rfl
    rwa [Heap.size_push] at this
  have e3 : (s.heap.push PySem.W.emptyDict).Ns s.heap.objs.size (fun _ => none) := ⟨PySem.W.emptyDict, #[], _, e1, rfl, (fun e he => absurd he (by simp)), fun _ => rfl⟩
  have I1 := I.laid (a := s.heap.objs.size) (o := .own (s.heap.objs.size + 1)) (h' := s.heap.push PySem.W.emptyDict) (t' := s.toks) (fun b u q => Heap.get?_push_of_some _ q) (Nat.le_refl _) ⟨_, e1⟩
  refine I1.laid (a := s.heap.objs.size + 1) (o := .ins C s.heap.objs.size []) (t' := s.toks) (fun b u q => Heap.get?_push_of_some _ q) (Nat.le_of_eq (Heap.size_push _ _)) ?_
  have ne : s.heap.objs.size ≠ s.heap.objs.size + 1 := Nat.ne_of_lt (Nat.lt_succ_self _)
  refine ⟨by rw [upd_ne ne, upd_same], Nat.zero_le _, ne, e2, fun _ => none, (Heap.Ns1.of_empty e3).at fun o q => Heap.get?_push_of_some _ q, fun _ => True.intro, fun y hy => absurd rfl hy⟩

/-- e.f where nothing but the object is asked: through attributeBase (super) and the last hold -/
theorem attr_of {prog : Program} {w : World} {env : Env} {e : Expr} {f : Str} {pos : Pos} {s : Shared} {Q : Value → Shared → Prop} (hb : attributeBase e f env (eval e env) = eval e env)
    (h : wpAny (model prog w) A (eval e env) (fun o s₁ => wpAny (model prog w) A (getAttr o f true) Q E s₁) E s) : wpAny (model prog w) A (eval (.Attribute e f pos) env) Q E s :=
  Attribute_any_ h (by rw [arm_eval_Attribute, hb])
end

/-! ### readings and rules -/
/-- e.f, an attribute of the instance -/
def tFld (K : PySem.W.Frag) (ta : TE) (f : Str) : TE := fun σ H Q => ta σ H fun x H1 => ∃ a C dx fs v, x = .ref a ∧ H1 a = some (.ins C dx fs) ∧ Cls K C ∧ NoAttr K C f ∧ fs.lookup f = some v ∧ Q v H1
/-- e.f, a constant of the class -/
def tCon (K : PySem.W.Frag) (ta : TE) (f : Str) : TE := fun σ H Q => ta σ H fun x H1 => ∃ a C dx fs v u, x = .ref a ∧ H1 a = some (.ins C dx fs) ∧ Cls K C ∧ Con K C f v u ∧ fs.lookup f = none ∧ Q v H1
/-- e.f = value -/
def sFld (K : PySem.W.Frag) (ta tv : TE) (f : Str) : TS := fun D σ H => tv σ H fun y H1 => ta σ H1 fun x H2 => ∃ a C dx fs, x = .ref a ∧ H2 a = some (.ins C dx fs) ∧ Cls K C ∧ NoAttr K C f ∧ fs.length < 1000 ∧
  D.nx σ (upd H2 a (.ins C dx (putF f y fs)))
/-- an augmented operator on two values -/
def InOp (X : Cx) (op : Operator) (rd : V → V → Hp → VK → Prop) : Prop :=
  ∀ (pins : List (Addr × Obj)) (s : Shared) (σ : St) (H : Hp) (x y : V) (u v : Value) (Q : VK), Inv X pins σ H s → RelV x u → RelV y v → rd x y H Q → wpAny (model X.prog X.w) X.A (inplaceOp op u v) (EP X pins σ Q) X.xe s
/-- e.f op= value -/
def sFldAug (K : PySem.W.Frag) (ta tv : TE) (rd : V → V → Hp → VK → Prop) (f : Str) : TS := fun D σ H => ta σ H fun x H1 => ∃ a C dx fs v, x = .ref a ∧ H1 a = some (.ins C dx fs) ∧ Cls K C ∧ NoAttr K C f ∧ fs.lookup f = some v ∧
  tv σ H1 fun y H2 => rd v y H2 fun z H3 => ∃ dx' fs', H3 a = some (.ins C dx' fs') ∧ fs'.length < 1000 ∧ D.nx σ (upd H3 a (.ins C dx' (putF f z fs')))

section
variable {X : Cx} {o e value : Expr} {f : Str} {pos pos' tpos : Pos} {ta tv : TE}
def rAdd : V → V → Hp → VK → Prop := fun x y H Q => ∃ i j, x = .int i ∧ y = .int j ∧ Q (.int (i + j)) H
def rSub : V → V → Hp → VK → Prop := fun x y H Q => ∃ i j, x = .int i ∧ y = .int j ∧ Q (.int (i - j)) H
end

/-! ### isinstance -/
section
variable {X : Cx} {pins : List (Addr × Obj)} {σ : St} {H : Hp} {s : Shared} {A : Around} {E : Value → Shared → Prop} {Q : Value → Shared → Prop} {c : Value} {b : Bool}
/-- the type of a value, as the fragment's deciders take it; for an instance its class -/
inductive TyOf (K : PySem.W.Frag) (H : Hp) : V → Value → Prop where
  | non : TyOf K H .non (.type "NoneType")
  | bl (x : Bool) : TyOf K H (.bl x) (.type "bool")
  | int (i : Int) : TyOf K H (.int i) (.type "int")
  | str (x : Str) : TyOf K H (.str x) (.type "str")
  | flt (x : UInt64) : TyOf K H (.flt x) (.type "float")
  | lst {a : Addr} {xs : List V} (e : H a = some (.lst xs)) : TyOf K H (.ref a) (.type "list")
  | frz {a : Addr} {o : Obj} {xs : List V} (e : H a = some (.frz o (.lst xs))) : TyOf K H (.ref a) (.type "list")
  | tup {a : Addr} {xs : List V} (e : H a = some (.tup xs)) : TyOf K H (.ref a) (.type "tuple")
  | dK {a : Addr} {kvs : List (Key × V)} (e : H a = some (.dK kvs)) : TyOf K H (.ref a) (.type "dict")
  | dT {a : Addr} {kvs : List (List Key × V)} (e : H a = some (.dT kvs)) : TyOf K H (.ref a) (.type "dict")
  | ins {a C dx : Addr} {fs : List (Str × V)} (e : H a = some (.ins C dx fs)) (cl : Cls K C) (ha : PySem.W.findIn K (.ref C) "__class__" = some (some (.builtin "object.__class__")))
      (hn : PySem.W.specialIn K (.builtin "object.__class__") "__get__" = some (some (.builtin "getset_descriptor.__get__"))) (htk : PySem.W.takesIn K (.builtin "object.__class__") = some true)
      (hm : PySem.W.mroIn K C (.type "object") = some true) : TyOf K H (.ref a) (.ref C)
/-- isinstance(x, c) for one class c, a built-in or an own one: kitOne's answer -/
theorem isinst_ok {x : V} {u t : Value} (I : Inv X pins σ H s) (rx : RelV x u) (ty : TyOf X.K H x t) (e : PySem.W.kitOne X.K t c = some b) (h : ∀ tk, Q (.bool b) { s with toks := tk }) :
    wpAny (model X.prog X.w) A (call (.builtin "isinstance") [u, c]) Q E s := by
  cases ty with
  | non => cases (show u = Value.none from rx); exact PySem.W.kia_one PySem.W.kitx_none I.kIn True.intro e (fun z => nomatch z) h
  | bl y => cases (show u = Value.bool y from rx); exact PySem.W.kia_one PySem.W.kitx_bool I.kIn True.intro e (fun z => nomatch z) h
  | int i => obtain ⟨t, q⟩ := (show ∃ t, u = Value.int i t from rx); cases q; exact PySem.W.kia_one PySem.W.kitx_int I.kIn True.intro e (fun z => nomatch z) h
  | str y => obtain ⟨t, q⟩ := (show ∃ t, u = Value.str y t from rx); cases q; exact PySem.W.kia_one PySem.W.kitx_str I.kIn True.intro e (fun z => nomatch z) h
  | flt y => obtain ⟨t, q⟩ := (show ∃ t, u = Value.float y t from rx); cases q; exact PySem.W.kia_one PySem.W.kitx_float I.kIn True.intro e (fun z => nomatch z) h
  | @lst a xs ea =>
    cases (show u = Value.ref a from rx)
    obtain ⟨_, _, n, _, h1⟩ := (show ObjOk X.prog X.w H s.heap a (.lst xs) from I.hok a _ ea)
    exact PySem.W.kia_one PySem.W.kitx_list I.kIn ⟨_, h1, rfl⟩ e (fun z => nomatch z) h
  | @frz a ob xs ea =>
    cases (show u = Value.ref a from rx)
    obtain ⟨_, _, _, n, _, h1⟩ := (show ObjOk X.prog X.w H s.heap a (.frz ob (.lst xs)) from I.hok a _ ea)
    exact PySem.W.kia_one PySem.W.kitx_list I.kIn ⟨_, h1, rfl⟩ e (fun z => nomatch z) h
  | @tup a xs ea =>
    cases (show u = Value.ref a from rx)
    obtain ⟨_, _, _, p⟩ := (show ObjOk X.prog X.w H s.heap a (.tup xs) from I.hok a _ ea)
    obtain ⟨o, h1, h2, _⟩ := p
    exact PySem.W.kia_one PySem.W.kitx_tuple I.kIn ⟨o, h1, h2⟩ e (fun z => nomatch z) h
  | @dK a kvs ea =>
    cases (show u = Value.ref a from rx)
    obtain ⟨_, _, vs, _, p⟩ := (show ObjOk X.prog X.w H s.heap a (.dK kvs) from I.hok a _ ea)
    obtain ⟨o, es, ep, h1, h2, _⟩ := p
    exact PySem.W.kia_one PySem.W.kitx_dict I.kIn ⟨o, h1, h2.1⟩ e (fun z => nomatch z) h
  | @dT a kvs ea =>
    cases (show u = Value.ref a from rx)
    obtain ⟨_, _, xs, _, o, es, ep, h1, h2, _⟩ := (show ObjOk X.prog X.w H s.heap a (.dT kvs) from I.hok a _ ea)
    exact PySem.W.kia_one PySem.W.kitx_dict I.kIn ⟨o, h1, h2.1⟩ e (fun z => nomatch z) h
  | @ins a C dx fs ea cl ha hn htk hm =>
    cases (show u = Value.ref a from rx)
    obtain ⟨mA, O, _⟩ := ins_get I.hok ea
    obtain ⟨od, J, _⟩ := O.look
    exact PySem.W.kia_one (PySem.W.kitx_own (cl.get _) cl.hd ha hn htk hm) I.kIn J e (fun z => nomatch z) h
end
end L2

namespace L2
open PySem PySem.Spec PyProof.Rows

/-! ### room -/
structure Room (k : Nat) (A : Around) : Prop where
  hd : A.handled = none
  dp : A.depth + 3 * k + 5 < recursionLimit
  un : A.units + 16 * k + 200 < cLine
  gd : A.guards = some []
theorem Room.mono {j k : Nat} {A : Around} (r : Room k A) (h : j ≤ k) : Room j A := ⟨r.hd, by have := r.dp; omega, by have := r.un; omega, r.gd⟩
theorem Room.deeper {k : Nat} {A : Around} (r : Room (k + 1) A) (env : Env) : Room k (A.deeper env) :=
  ⟨r.hd, by have := r.dp; show A.depth + 1 + 3 * k + 5 < _; omega, by have := r.un; show A.units + 3 + 16 * k + 200 < _; omega, by first | exact r.gd | simp [Around.deeper, r.gd]⟩
theorem Room.in1 {k : Nat} {A : Around} (r : Room (k + 1) A) : Room k A.in1 :=
  ⟨r.hd, by have := r.dp; show A.depth + 3 * k + 5 < _; omega, by have := r.un; show A.units + 1 + 16 * k + 200 < _; omega, r.gd⟩
theorem make_depth {A : Around} {C : Addr} {us : List Value} {kw : List (Str × Value)} : (A.under (.builtin "type.__call__" ⟨.ref C :: us, kw⟩)).depth = A.depth + 1 := by
  first | rfl | simp [Around.under, Code.weight, Code.isCreation, Code.isGuard, Code.isCaller, Code.frames, Code.isFrame, guardIds]
theorem make_units {A : Around} {C : Addr} {us : List Value} {kw : List (Str × Value)} : (A.under (.builtin "type.__call__" ⟨.ref C :: us, kw⟩)).units = A.units + 1 := by
  first | rfl | simp [Around.under, Code.cUnits, Code.frames, Code.isFrame]
theorem make_guards {A : Around} {C : Addr} {us : List Value} {kw : List (Str × Value)} (h : A.guards = some []) : (A.under (.builtin "type.__call__" ⟨.ref C :: us, kw⟩)).guards = some [] := by
  first | exact h | (simp [Around.under, Code.guards, Code.isGuard, guardIds, pushGuards, h])
theorem Room.make {k : Nat} {A : Around} (r : Room (k + 1) A) (C : Addr) (us : List Value) (kw : List (Str × Value)) : Room k (A.under (.builtin "type.__call__" ⟨.ref C :: us, kw⟩)) :=
  ⟨r.hd, by have := r.dp; rw [make_depth]; omega, by have := r.un; rw [make_units]; omega, make_guards r.gd⟩
theorem Room.depth {k : Nat} {A : Around} (r : Room k A) : A.depth < recursionLimit := by have := r.dp; omega
theorem Room.units {k : Nat} {A : Around} (r : Room k A) : A.units + 64 < cLine := by have := r.un; omega
/-! ### argument lists and displays -/
def tNil : TA := fun _ H Q => Q [] H
def tCons (ta : TE) (tr : TA) : TA := fun σ H Q => ta σ H fun x H1 => tr σ H1 fun xs H2 => Q (x :: xs) H2
section
variable {X : Cx} {e : Expr} {es : List Expr} {te : TE} {t : TA} {pos : Pos}
theorem pa_nil : PA X [] tNil := fun _ _ _ _ H Q I h => Calls.spliced_nil ⟨[], H, I, .nil, h⟩
theorem pa_cons (ha : PE X e te) (hr : PA X es t) (hs : starEach (e :: es) X.env = (false, eval e X.env) :: starEach es X.env := by rfl) : PA X (e :: es) (tCons te t) := by
  intro pos pins s σ H Q I h
  rw [hs]
  show wpAny _ _ (spliced ((false, eval e X.env) :: backTo pos (starEach es X.env))) _ _ s
  refine Calls.spliced_cons (thn (ha pins s σ H _ I h) fun u s1 ⟨x, H1, I1, r1, q1⟩ => ?_)
  exact thn (hr pos pins s1 σ H1 _ I1 q1) fun us s2 ⟨xs, H2, I2, r2, q2⟩ => ⟨x :: xs, H2, I2, .cons r1 r2, q2⟩

/-- a tuple, a list of written items -/
def tTup (t : TA) : TE := fun σ H Q => t σ H fun xs H1 => xs.length ≤ sizeLine ∧ ∀ p, H1 p = none → Q (.ref p) (upd H1 p (.tup xs))
def tLst (t : TA) : TE := fun σ H Q => t σ H fun xs H1 => xs.length ≤ sizeLine ∧ ∀ p, H1 p = none → Q (.ref p) (upd H1 p (.lst xs))
theorem pe_tup {x1} (h : PA X es t) : PE X (.Tuple es x1 pos) (tTup t) := by
  intro pins s σ H Q I hq
  refine wpAny_Tuple_spliced (thn (h pos pins s σ H _ I hq) fun us s1 ⟨xs, H1, I1, r, z, q⟩ => ⟨by rw [← r.length]; exact z, ?_⟩)
  have hf : H1 s1.heap.objs.size = none := I1.hok.fresh (Nat.le_refl _)
  refine ⟨.ref s1.heap.objs.size, upd H1 s1.heap.objs.size (.tup xs), I1.laid (t' := s1.toks) (fun b u e => Heap.get?_push_of_some _ e) (Nat.le_refl _) ?_, rfl, q _ hf⟩
  exact ⟨z, us, r, ⟨_, Heap.get?_push_size _ rfl, rfl, _, rfl, rfl⟩⟩
theorem pe_lst (h : PA X es t) : PE X (.List es pos) (tLst t) := by
  intro pins s σ H Q I hq
  refine wpAny_List_spliced (thn (h pos pins s σ H _ I hq) fun us s1 ⟨xs, H1, I1, r, z, q⟩ => ⟨by rw [← r.length]; exact z, ?_⟩)
  have hf : H1 s1.heap.objs.size = none := I1.hok.fresh (Nat.le_refl _)
  refine ⟨.ref s1.heap.objs.size, upd H1 s1.heap.objs.size (.lst xs), I1.laid (t' := s1.toks) (fun b u e => Heap.get?_push_of_some _ e) (Nat.le_refl _) ?_, rfl, q _ hf⟩
  exact ⟨z, us, 0, r, Heap.get?_push_size _ rfl⟩
end

/-! ### what a def promises -/
/-- a def's promise: the bound arguments in the parameters' order, the heap, the wanted end, the wanted exception -/
abbrev Sp := List V → Hp → VK → XK → Prop
/-- how an exception lies behind a call (file 08 gives it): the callers' frames, abstract heap and state ahead of the call, the wish, the exception, the state -/
abbrev CXT := List Env → Hp → Shared → XK → Value → Shared → Prop

/-- the state at a call -/
structure Env0 (P : Program) (w : World) (K : PySem.W.Frag) (mg : Str → Option Value) (base : Heap) (A : Around) (outer : List Env) (s : Shared) (H : Hp) : Prop where
  frames : A.frames = some outer
  mod : Mod K mg base
  bs : ∀ b o, base.get? b = some o → s.heap.get? b = some o ∧ H b = none
  bsz : base.objs.size ≤ s.heap.objs.size
  funs : s.heap.FunFrames base outer
  frf : ∀ b ∈ frs outer, H b = none
  hok : HOk P w H s.heap
  bare : AllBare s.gens
/-- a call's end -/
def CE (outer : List Env) (P : Program) (w : World) (H : Hp) (s : Shared) (Q : VK) (u : Value) (s' : Shared) : Prop :=
  ∃ v H', s'.os = s.os ∧ AllBare s'.gens ∧ Un (frs outer) [] H H' s.heap s'.heap ∧ HOk P w H' s'.heap ∧ RelV v u ∧ Q v H'
def CR (CX : CXT) (outer : List Env) (P : Program) (w : World) (H : Hp) (s : Shared) (Q : VK) (E : XK) (r : Result) (s' : Shared) : Prop :=
  match r with
  | .ok (.ret u) => CE outer P w H s Q u s'
  | .ok _ => False
  | .error e => CX outer H s E e s'
structure FnOk (P : Program) (w : World) (K : PySem.W.Frag) (mg : Str → Option Value) (base : Heap) (CX : CXT) (k : Nat) (f : Addr) (fd : FuncData) (ps : List Str) (sp : Sp) : Prop where
  len : ∀ vs H Q E, sp vs H Q E → vs.length = ps.length
  run : ∀ (A : Around) (outer : List Env) (s : Shared) (H : Hp) (args : Args) (us : List Value) (vs : List V) (Q : VK) (E : XK), Room k A → Env0 P w K mg base A outer s H → BindsTo s fd args (ps.zip us) → Vals vs us → sp vs H Q E →
    codeAny (model P w) A (.call (.ref f) args) (CR CX outer P w H s Q E) s
theorem FnOk.mono {P : Program} {w : World} {K : PySem.W.Frag} {mg : Str → Option Value} {base : Heap} {CX : CXT} {j k : Nat} {f : Addr} {fd : FuncData} {ps : List Str} {sp : Sp} (F : FnOk P w K mg base CX j f fd ps sp) (h : j ≤ k) :
    FnOk P w K mg base CX k f fd ps sp := ⟨F.len, fun A outer s H args us vs Q E hr => F.run A outer s H args us vs Q E (hr.mono h)⟩
/-- a weaker promise -/
theorem FnOk.imp {P : Program} {w : World} {K : PySem.W.Frag} {mg : Str → Option Value} {base : Heap} {CX : CXT} {k : Nat} {f : Addr} {fd : FuncData} {ps : List Str} {sp sp' : Sp} (F : FnOk P w K mg base CX k f fd ps sp)
    (h : ∀ vs H Q E, sp' vs H Q E → sp vs H Q E) : FnOk P w K mg base CX k f fd ps sp' :=
  ⟨fun vs H Q E q => F.len vs H Q E (h _ _ _ _ q), fun A outer s H args us vs Q E hr he hb hv hs => F.run A outer s H args us vs Q E hr he hb hv (h _ _ _ _ hs)⟩

theorem Env0.make {P : Program} {w : World} {K : PySem.W.Frag} {mg : Str → Option Value} {base : Heap} {A : Around} {outer : List Env} {s : Shared} {H : Hp} (e : Env0 P w K mg base A outer s H) (C : Addr) (us : List Value) (kw : List (Str × Value)) :
    Env0 P w K mg base (A.under (.builtin "type.__call__" ⟨.ref C :: us, kw⟩)) outer s H := ⟨by first | exact e.frames | (simpa [Around.under, Code.envs, Code.isFrame, pushEnvs] using e.frames), e.mod, e.bs, e.bsz, e.funs, e.frf, e.hok, e.bare⟩
theorem Env0.in1 {P : Program} {w : World} {K : PySem.W.Frag} {mg : Str → Option Value} {base : Heap} {A : Around} {outer : List Env} {s : Shared} {H : Hp} (e : Env0 P w K mg base A outer s H) :
    Env0 P w K mg base A.in1 outer s H := ⟨e.frames, e.mod, e.bs, e.bsz, e.funs, e.frf, e.hok, e.bare⟩

section
variable {X : Cx} {pins : List (Addr × Obj)} {σ : St} {H : Hp} {s s' : Shared}
/-- from a body: what a callee wants -/
theorem Inv.env0 (I : Inv X pins σ H s) : Env0 X.prog X.w X.K X.mg X.base X.A X.stack s H :=
  ⟨I.ok.frames, I.ok.mod, I.bs, Nat.le_trans I.ok.bsz I.sz, I.stack, I.stkFree, I.hok, I.bare⟩
/-- behind a call -/
theorem Inv.after {Q : VK} {u : Value} (I : Inv X pins σ H s) (h : CE X.stack X.prog X.w H s Q u s') : EP X pins σ Q u s' := by
  obtain ⟨v, H', os, bare, un, hok, r, q⟩ := h
  obtain ⟨hh, g, d, t, os'⟩ := s'
  obtain rfl : os' = s.os := os
  exact ⟨v, H', I.call (h' := hh) (g' := g) (d' := d) (t' := t) (ch := []) un hok bare (fun b z => absurd z (by simp)), r, q⟩
end

/-! ### calls -/
/-- f(..): the written arguments, then the defaults dvs; E: what is wanted of an exception -/
def tCall (sp : Sp) (dvs : List V) (E : XK) (t : TA) : TE := fun σ H Q => t σ H fun vs H1 => sp (vs ++ dvs) H1 Q E
/-- o.m(..) of an instance of the class at C -/
def tMeth (C : Addr) (m : Str) (sp : Sp) (dvs : List V) (E : XK) (ta : TE) (t : TA) : TE := fun σ H Q => ta σ H fun x H1 => ∃ a dx fs, x = .ref a ∧ H1 a = some (.ins C dx fs) ∧ fs.lookup m = none ∧
  t σ H1 fun vs H2 => sp (x :: (vs ++ dvs)) H2 Q E
/-- C(..): a new instance and its dict, then __init__ -/
def tMake (C : Addr) (sp : Sp) (dvs : List V) (E : XK) (t : TA) : TE := fun σ H Q => t σ H fun vs H1 => ∀ x dx, H1 x = none → H1 dx = none → dx ≠ x →
  sp (.ref x :: (vs ++ dvs)) (upd (upd H1 dx (.own x)) x (.ins C dx [])) (fun v H2 => v = .non ∧ Q (.ref x) H2) E

/-- how the parameters are bound: us the positional arguments, kw the keywords' values by name, ds the defaults that fill up -/
def Binds (K : PySem.W.Frag) (fd : FuncData) (ps : List Str) (ds : List Value) : Prop :=
  ∀ (s : Shared) (us : List Value), K.In s.heap → (us ++ ds).length = ps.length → BindsTo s fd ⟨us, []⟩ (ps.zip (us ++ ds))
/-- every parameter is given -/
theorem Binds.all {K : PySem.W.Frag} {fd : FuncData} {ps : List Str} (h : ∀ us : List Value, us.length = ps.length → bindArgs fd ⟨us, []⟩ = pure (ps.zip us)) : Binds K fd ps [] := fun s us _ hl => by
  rw [List.append_nil] at hl ⊢
  exact .of_eq (h us hl)

/-- an exception of a callee reaches what this body wants of exceptions -/
def Passes (CX : CXT) (X : Cx) (E : XK) : Prop := ∀ (pins : List (Addr × Obj)) (σ : St) (H : Hp) (s : Shared) (e : Value) (s' : Shared), Inv X pins σ H s → CX X.stack H s E e s' → X.xe e s'

section
variable {X : Cx} {CX : CXT} {k : Nat} {f C : Addr} {fd : FuncData} {ps : List Str} {sp : Sp} {dvs : List V} {ds : List Value} {E : XK} {x m : Str} {p pos apos : Pos} {e o : Expr} {es : List Expr} {ta : TE} {t : TA}

/-- the callee runs -/
theorem run_fn {pins : List (Addr × Obj)} {σ : St} {H : Hp} {s : Shared} {Q : VK} {us : List Value} {vs : List V} (F : FnOk X.prog X.w X.K X.mg X.base CX k f fd ps sp) (hr : Room k X.A) (hb : Binds X.K fd ps ds) (hd : Vals dvs ds) (hx : Passes CX X E)
    (I : Inv X pins σ H s) (r : Vals vs us) (h : sp (vs ++ dvs) H Q E) : wpAny (model X.prog X.w) X.A (call (.ref f) us) (EP X pins σ Q) X.xe s := by
  have r2 : Vals (vs ++ dvs) (us ++ ds) := r.append hd
  have hl : (us ++ ds).length = ps.length := by rw [← r2.length]; exact F.len _ _ _ _ h
  refine wpAny_call (codeAny_mono (F.run X.A X.stack s H ⟨us, []⟩ (us ++ ds) (vs ++ dvs) Q E hr I.env0 (hb s us I.kIn hl) r2 h) fun r s' hq => ?_)
  cases r with
  | error e => exact hx pins σ H s e s' I hq
  | ok fl =>
    cases fl with
    | ret u => exact I.after hq
    | next => exact False.elim hq
    | brk => exact False.elim hq
    | cont => exact False.elim hq

theorem pe_call (F : FnOk X.prog X.w X.K X.mg X.base CX k f fd ps sp) (hr : Room k X.A) (hg : Gl X x) (hm : X.mg x = some (.ref f)) (hk : PySem.W.keepIn X.K (.ref f) = true) (hb : Binds X.K fd ps ds) (hd : Vals dvs ds) (hx : Passes CX X E)
    (ha : PA X (e :: es) t) (hdb : (x == ("__debug__" : Str)) = false := by decide) (he : starEach (e :: es) X.env = (false, eval e X.env) :: starEach es X.env := by rfl) (hpl : (backTo pos (starEach es X.env)).any (·.1) = false := by rfl) :
    PE X (.Call (.Name x p) (e :: es) [] pos) (tCall sp dvs E t) := by
  intro pins s σ H Q I h
  refine wpAny_Call_Name_kw (ld_glob I hg hm ?_ hdb)
  refine PySem.W.callWith_K (h₀ := X.base) I.ok.mod.kin hk (thn (ha pos pins s σ H _ I h) fun us s1 ⟨vs, H1, I1, r, q⟩ => ⟨I1.kIn, ?_⟩) he hpl
  exact run_fn F hr hb hd hx I1 r q
/-- what a class must have to be made -/
structure Mk (K : PySem.W.Frag) (C f : Addr) : Prop where
  makes : PySem.W.makesIn K C = true
  init : PySem.W.findIn K (.ref C) "__init__" = some (some (.ref f))
  fn : PySem.W.isFn K (.ref f) = true
  kp : PySem.W.keepIn K (.ref C) = true

end

/-! ### keywords -/
/-- the values of the keywords, from the left -/
def PK (X : Cx) (kws : List Keyword) (t : TA) : Prop :=
  ∀ (pos : Pos) (pins : List (Addr × Obj)) (s : Shared) (σ : St) (H : Hp) (Q : List V → Hp → Prop), Inv X pins σ H s → t σ H Q → wpAny (model X.prog X.w) X.A (evalAll ((backToKw pos (keywordEach kws X.env)).map (·.2))) (AP X pins σ Q) X.xe s
section
variable {X : Cx} {CX : CXT} {k : Nat} {f C : Addr} {fd : FuncData} {ps ks : List Str} {sp : Sp} {E : XK} {x m : Str} {p pos apos kpos : Pos} {e o : Expr} {es : List Expr} {kws : List Keyword} {te ta : TE} {t tk : TA} {nm : Option Str}
/-- how a call with keywords binds: g puts the positional values us and the keywords' values ws (names ks) in the parameters' order, defaults among them -/
structure KBinds (K : PySem.W.Frag) (fd : FuncData) (ps ks : List Str) (g : List Value → List Value → List Value) (gV : List V → List V → List V) : Prop where
  to : ∀ (s : Shared) (us ws : List Value), K.In s.heap → (g us ws).length = ps.length → BindsTo s fd ⟨us, ks.zip ws⟩ (ps.zip (g us ws))
  rel : ∀ {vs : List V} {us : List Value} {zs : List V} {ws : List Value}, Vals vs us → Vals zs ws → Vals (gV vs zs) (g us ws)
def tCallK (sp : Sp) (gV : List V → List V → List V) (E : XK) (t tk : TA) : TE := fun σ H Q => t σ H fun vs H1 => tk σ H1 fun zs H2 => sp (gV vs zs) H2 Q E
variable {g : List Value → List Value → List Value} {gV : List V → List V → List V}
end

/-! ### a def's body keeps its promise -/
/-- names: the parameters first -/
structure FnScope (N P : List Str) (sc : Scope) : Prop where
  kind : sc.kind = .function
  co : sc.isCoroutine = false
  gen : sc.isGenerator = false
  nd : N.Nodup
  pre : N.take P.length = P
  par : ∀ x ∈ P, sc.names.lookup x = some .local ∨ sc.names.lookup x = some .cell
  nofree : ∀ y ∈ sc.names, y.2 ≠ .free

theorem bindL_out {kindOf : Str → Option NameKind} {x : Str} : ∀ {binds : List (Str × Value)} {m : Str → Option Value}, (∀ v, (x, v) ∉ binds) → bindL kindOf binds m x = m x
  | [], _, _ => rfl
  | (n, v) :: r, m, h => by
    unfold bindL
    rw [bindL_out fun w hw => h w (List.mem_cons_of_mem _ hw)]
    split
    · have : x ≠ n := by rintro rfl; exact h v List.mem_cons_self
      simp [this]
    · rfl
theorem bindC_out {kindOf : Str → Option NameKind} {x : Str} : ∀ {binds : List (Str × Value)} {m : Str → Option Value}, (∀ v, (x, v) ∉ binds) → bindC kindOf binds m x = m x
  | [], _, _ => rfl
  | (n, v) :: r, m, h => by
    unfold bindC
    rw [bindC_out fun w hw => h w (List.mem_cons_of_mem _ hw)]
    split
    · rfl
    · have : x ≠ n := by rintro rfl; exact h v List.mem_cons_self
      simp [this]
theorem bindL_get {kindOf : Str → Option NameKind} {x : Str} {v : Value} : ∀ {P : List Str} {vs : List Value} {i : Nat} {m : Str → Option Value}, P.Nodup → P[i]? = some x → vs[i]? = some v → kindOf x = some .local →
    bindL kindOf (P.zip vs) m x = some v
  | [], _, _, _, _, h, _, _ => by simp at h
  | _ :: _, [], _, _, _, _, h, _ => by simp at h
  | p :: P, w :: vs, 0, m, nd, h1, h2, hk => by
    simp at h1 h2; subst h1; subst h2
    show bindL kindOf ((p, w) :: P.zip vs) m p = _
    unfold bindL
    rw [bindL_out fun v hv => (List.nodup_cons.mp nd).1 (List.of_mem_zip hv).1, if_pos hk]
    simp
  | p :: P, w :: vs, i + 1, m, nd, h1, h2, hk => by
    show bindL kindOf ((p, w) :: P.zip vs) m x = _
    unfold bindL
    exact bindL_get (i := i) (List.nodup_cons.mp nd).2 (by simpa using h1) (by simpa using h2) hk
theorem bindC_get {kindOf : Str → Option NameKind} {x : Str} {v : Value} : ∀ {P : List Str} {vs : List Value} {i : Nat} {m : Str → Option Value}, P.Nodup → P[i]? = some x → vs[i]? = some v → kindOf x ≠ some .local →
    bindC kindOf (P.zip vs) m x = some v
  | [], _, _, _, _, h, _, _ => by simp at h
  | _ :: _, [], _, _, _, _, h, _ => by simp at h
  | p :: P, w :: vs, 0, m, nd, h1, h2, hk => by
    simp at h1 h2; subst h1; subst h2
    show bindC kindOf ((p, w) :: P.zip vs) m p = _
    unfold bindC
    rw [bindC_out fun v hv => (List.nodup_cons.mp nd).1 (List.of_mem_zip hv).1, if_neg hk]
    simp
  | p :: P, w :: vs, i + 1, m, nd, h1, h2, hk => by
    show bindC kindOf ((p, w) :: P.zip vs) m x = _
    unfold bindC
    exact bindC_get (i := i) (List.nodup_cons.mp nd).2 (by simpa using h1) (by simpa using h2) hk

/-- the names' values at the entry -/
def start (N : List Str) (vs : List V) : St := vs.map some ++ List.replicate (N.length - vs.length) none

/-- the context of a def's body, at its entry; an exception leaves the frame, then lies as CX says -/
def cxOf (CX : CXT) (P : Program) (w : World) (K : PySem.W.Frag) (mg : Str → Option Value) (base : Heap) (N : List Str) (qual : Str) (scope : Scope) (f : Addr) (cd : Value) (A : Around) (outer : List Env) (s : Shared) (H : Hp) (E : XK) : Cx where
  prog := P
  w := w
  K := K
  mg := mg
  base := base
  A := A.deeper (envOfC qual scope s.heap.objs.size f cd)
  N := N
  s₀ := s
  H₀ := H
  env := envOfC qual scope s.heap.objs.size f cd
  outer := outer
  stack := envOfC qual scope s.heap.objs.size f cd :: outer
  ex := []
  calm := true
  fn := fun _ => true
  pn := []
  xe := fun e s' => wpAny (model P w) (A.deeper (envOfC qual scope s.heap.objs.size f cd)) (leaving (envOfC qual scope s.heap.objs.size f cd) e) (fun _ s'' => CX outer H s E e s'') (fun e' s'' => CX outer H s E e' s'') s'

theorem cell_has {sc : Scope} {n : Nat} {x : Str} (h : sc.names.lookup x = some .cell) : ∃ c, (cellsFrom n sc.names []).lookup x = some c := by
  have q := PySem.W.cellsFrom_some sc.names n [] (.inl h)
  exact Option.isSome_iff_exists.mp q

theorem inv_start {CX : CXT} {P : Program} {w : World} {K : PySem.W.Frag} {mg : Str → Option Value} {base : Heap} {N ps : List Str} {qual : Str} {scope : Scope} {f : Addr} {cd : Value} {A : Around} {outer : List Env} {s s1 : Shared} {H : Hp} {E : XK} {us : List Value} {vs : List V}
    (S : FnScope N ps scope) (hd : A.handled = none) (e0 : Env0 P w K mg base A outer s H) (hl : vs.length = ps.length) (r : Vals vs us)
    (x : InCallC s s.heap.objs.size (bindL (envOfC qual scope s.heap.objs.size f cd).kindOf (ps.zip us) fun _ => none) (cellsFrom (s.heap.objs.size + 1) scope.names []) (bindC (envOfC qual scope s.heap.objs.size f cd).kindOf (ps.zip us) fun _ => none) s1) :
    Inv (cxOf CX P w K mg base N qual scope f cd A outer s H E) [] (start N vs) H s1 := by
  have hpl : ps.length ≤ N.length := by have := congrArg List.length S.pre; rw [List.length_take] at this; omega
  obtain ⟨h1, tk, rfl, hk⟩ := x.done
  have noA : ∀ b : Addr, b ∉ (cxOf CX P w K mg base N qual scope f cd A outer s H E).ex := fun b z => absurd (show b ∈ ([] : List Addr) from z) (by simp)
  refine ⟨⟨e0.mod, S.kind, rfl, rfl, Nat.le_refl _, fun y z c h1 h2 => ?_, fun y hy => ?_, fun y c _ h => ?_, fun _ => hd, Around.frames_deeper e0.frames, .inr ⟨rfl, rfl⟩, fun b z => absurd z (noA b), e0.bs, e0.bsz, fun b _ _ => noA b, fun b z => absurd z (noA b), e0.funs, e0.frf⟩,
    rfl, e0.bare, Un.kept hk, ⟨_, x.toInCall.ns, fun i y v h1 h2 h3 => ?_⟩, fun y c h => ⟨_, x.cell y c h⟩, e0.hok.fresh (Nat.le_refl _), fun y c h => ?_, fun p hp => absurd (show p ∈ ([] : List (Addr × Obj)) from hp) (by simp), e0.hok.kept hk, ?_⟩
  · exact name_of_addr x.apart (PySem.mem_of_lookup h1) (PySem.mem_of_lookup h2)
  · have hy : scope.names.lookup y = some .cell ∨ scope.names.lookup y = some .free := hy
    rcases hy with hy | hy
    · exact cell_has hy
    · exact absurd rfl (S.nofree _ (PySem.mem_of_lookup hy))
  · exact Nat.le_of_lt (x.above y c (PySem.mem_of_lookup h))
  · have hi : i < vs.length := by
      unfold start at h2
      by_cases hi : i < vs.length
      · exact hi
      · rw [List.getElem?_append_right (by simpa using hi)] at h2
        rw [List.getElem?_replicate] at h2
        split at h2 <;> cases h2
    have ha : vs[i]? = some v := by
      unfold start at h2
      rw [List.getElem?_append_left (by simpa using hi), List.getElem?_map] at h2
      cases e : vs[i]? with
      | none => rw [e] at h2; cases h2
      | some a => rw [e] at h2; cases h2; rfl
    obtain ⟨u, hu, rv⟩ := r.get ha
    have hp : ps[i]? = some y := by
      rw [← S.pre, List.getElem?_take_of_lt (by omega)]; exact h1
    have ndP : ps.Nodup := by rw [← S.pre]; exact S.nd.sublist (List.take_sublist _ _)
    refine ⟨u, rv, ?_⟩
    rcases S.par y (List.mem_of_getElem? hp) with k | k
    · exact .inl ⟨k, bindL_get ndP hp hu k⟩
    · obtain ⟨c, e⟩ := cell_has (n := s.heap.objs.size + 1) k
      refine .inr ⟨.inl k, c, e, ?_⟩
      have q := x.cell y c e
      rw [bindC_get ndP hp hu (by show scope.names.lookup y ≠ _; rw [k]; decide)] at q
      exact q
  · exact e0.hok.fresh (Nat.le_of_lt (x.above y c (PySem.mem_of_lookup h)))
  · unfold start
    show _ = N.length
    rw [List.length_append, List.length_map, List.length_replicate]
    omega

/-- THE RULE: a def (or a method) of the text, by its body. The body's reading t is chosen for each entry; it is run at the parameters' values -/
theorem fn_of {CX : CXT} {P : Program} {w : World} {K : PySem.W.Frag} {mg : Str → Option Value} {base : Heap} {k : Nat} {f : Addr} {name qual : Str} {params : Arguments} {body : List Stmt} {scope : Scope} {dV kV doc pm cdv ct oc : Value} {an od : Option Addr}
    {osl : Array (Option Value)} {N ps : List Str} {sp : Sp} (lk : K.lookup f = some ⟨oc, od, .func (PySem.W.fnOf name qual params body scope dV kV doc pm an cdv ct), osl⟩) (hcd : PySem.W.codeIn K cdv qual = true) (S : FnScope N ps scope)
    (len : ∀ vs H Q E, sp vs H Q E → vs.length = ps.length)
    (hbody : ∀ (A : Around) (outer : List Env) (s : Shared) (H : Hp) (vs : List V) (Q : VK) (E : XK), Room k (A.deeper (envOfC qual scope s.heap.objs.size f cdv)) → sp vs H Q E →
      ∃ t, PSs (cxOf CX P w K mg base N qual scope f cdv A outer s H E) body t ∧ t { nx := fun _ H' => Q .non H', rt := Q } (start N vs) H) :
    FnOk P w K mg base CX (k + 1) f (PySem.W.fnOf name qual params body scope dV kV doc pm an cdv ct) ps sp := by
  refine ⟨len, fun A outer s H args us vs Q E hr e0 hb r hsp => ?_⟩
  have hl := len _ _ _ _ hsp
  have KX : K.In s.heap := e0.mod.kin.keeps fun b o e => (e0.bs b o e).1
  have lim : s.heap.NoLimit := e0.mod.nolimit.keeps fun b o e => (e0.bs b o e).1
  have hkind : ∀ y ∈ ps.zip us, scope.names.lookup y.1 = some .local ∨ (scope.names.lookup y.1 = some .cell ∧ ((cellsFrom (s.heap.objs.size + 1) scope.names []).lookup y.1).isSome = true) := fun ⟨n, v⟩ hy => by
    rcases S.par n (List.of_mem_zip hy).1 with q | q
    · exact .inl q
    · exact .inr ⟨q, PySem.W.cellsFrom_some _ _ _ (.inl q)⟩
  refine codeAny_call_function hr.depth (KX _ _ lk) rfl S.co S.gen rfl (PySem.W.codeRec_of KX hcd) (hb _ _ _ _ ?_)
  refine wpAny_newFunctionEnv_cells S.kind hkind fun env he s1 x => ?_
  subst he
  refine ⟨lim.keeps x.toInCall.keep, codeAny_func ?_⟩
  obtain ⟨t, ht, hq⟩ := hbody A outer s H vs Q E (hr.deeper _) hsp
  have I : Inv (cxOf CX P w K mg base N qual scope f cdv A outer s H E) [] (start N vs) H s1 := inv_start S hr.hd e0 hl r x
  refine wpAny_mono (ht [] s1 (start N vs) H _ I hq) (fun fl s' hs => ?_) fun e s' hs => hs
  have fin : ∀ {σ' : St} {H' : Hp} {v : V} {u : Value}, Inv (cxOf CX P w K mg base N qual scope f cdv A outer s H E) [] σ' H' s' → RelV v u → Q v H' → CE outer P w H s Q u s' :=
    fun {σ' H' v u} J rv q => ⟨v, H', J.os, J.bare, J.base, J.hok, rv, q⟩
  cases fl with
  | ret u =>
    obtain ⟨v, σ', H', J, rv, q⟩ := hs
    exact fin J rv q
  | next =>
    obtain ⟨σ', H', J, q⟩ := hs
    exact fin (v := V.non) (u := Value.none) J rfl q
  | brk =>
    obtain ⟨_, _, _, q⟩ := hs
    exact False.elim q
  | cont =>
    obtain ⟨_, _, _, q⟩ := hs
    exact False.elim q
end L2

namespace L2
open PySem PySem.Spec PyProof.Rows
section
variable {X : Cx} {x : Str} {p pos : Pos} {e : Expr} {es : List Expr} {t : TA} {id T : String} {r : List V → Hp → VK → Prop}

def tCB (r : List V → Hp → VK → Prop) (t : TA) : TE := fun σ H Q => t σ H fun vs H1 => r vs H1 Q
/-- f(e, ..), f a built-in function -/
theorem pe_callB (hc : CallR X (.builtin id) r) (hg : Gl X x) (hm : X.mg x = none) (hv : bootBuiltins x = some (.builtin id)) (ha : PA X (e :: es) t) (hn : x ≠ "__name__" := by decide) (hdb : (x == ("__debug__" : Str)) = false := by decide)
    (he : starEach (e :: es) X.env = (false, eval e X.env) :: starEach es X.env := by rfl) (hpl : (backTo pos (starEach es X.env)).any (·.1) = false := by rfl) : PE X (.Call (.Name x p) (e :: es) [] pos) (tCB r t) := by
  intro pins s σ H Q I h
  refine wpAny_Call_Name_kw (ld_blt I hg hm hv ?_ hn hdb)
  exact PyProof.Rows.callWith_builtin1 (thn (ha pos pins s σ H _ I h) fun us s1 ⟨vs, H1, I1, r1, q1⟩ => hc pins s1 σ H1 vs us Q I1 r1 q1) he hpl
/-- T(e, ..), T a built-in type -/
theorem pe_callTy (hc : CallR X (.type T) r) (hg : Gl X x) (hm : X.mg x = none) (hv : bootBuiltins x = some (.type T)) (ha : PA X (e :: es) t) (hn : x ≠ "__name__" := by decide) (hdb : (x == ("__debug__" : Str)) = false := by decide)
    (he : starEach (e :: es) X.env = (false, eval e X.env) :: starEach es X.env := by rfl) (hpl : (backTo pos (starEach es X.env)).any (·.1) = false := by rfl) : PE X (.Call (.Name x p) (e :: es) [] pos) (tCB r t) := by
  intro pins s σ H Q I h
  refine wpAny_Call_Name_kw (ld_blt I hg hm hv ?_ hn hdb)
  exact PyProof.Rows.callWith_type1 (thn (ha pos pins s σ H _ I h) fun us s1 ⟨vs, H1, I1, r1, q1⟩ => hc pins s1 σ H1 vs us Q I1 r1 q1) he hpl
end
end L2

namespace HT
open PySem PyProof.Rows

/-- t < u of tuples of ints -/
def lexLt : List Int → List Int → Bool
  | [], [] => false
  | [], _ :: _ => true
  | _ :: _, [] => false
  | x :: xs, y :: ys => if x = y then lexLt xs ys else decide (x < y)
section
open PySem.SeqAt
open PySem.AutoSeq1 (wpAny_loadPart')
open PySem.MeetsSeq PySem.MeetsSeq2 PySem.MeetsSeq3

end

section
variable {prog : Program} {w : World} {A : Around} {E : Value → Shared → Prop} {s : Shared}

/-! ### t[a:b], not the whole -/
/-- a slice's bound as a place among n (d where it is left out) -/
def sIx (n d : Nat) : Option Int → Nat
  | none => d
  | some v => if v < 0 then (v + (n : Int)).toNat else min v.toNat n
theorem sIx_none (n d : Nat) : sIx n d none = d := rfl
theorem sIx_nat (n d k : Nat) : sIx n d (some (k : Int)) = min k n := by
  show (if (k : Int) < 0 then ((k : Int) + (n : Int)).toNat else min (k : Int).toNat n) = min k n
  rw [if_neg (by omega), Int.toNat_natCast]
theorem sIx_le (n d : Nat) (hd : d ≤ n) (o : Option Int) : sIx n d o ≤ n := by
  cases o with
  | none => exact hd
  | some v =>
    show (if v < 0 then (v + (n : Int)).toNat else min v.toNat n) ≤ n
    by_cases hv : v < 0
    · rw [if_pos hv]; omega
    · rw [if_neg hv]; exact Nat.min_le_right _ _
theorem clip_eq (v : Int) (n d : Nat) : (if v < 0 then max (v + (n : Int)) 0 else min v (n : Int)) = ((sIx n d (some v) : Nat) : Int) := by
  show (if v < 0 then max (v + (n : Int)) 0 else min v (n : Int)) = (((if v < 0 then (v + (n : Int)).toNat else min v.toNat n) : Nat) : Int)
  by_cases hv : v < 0
  · simp only [if_pos hv]; omega
  · simp only [if_neg hv]; omega
theorem adjust_gen (lo hi : Option Int) (n : Nat) : Builtin.Slice.sliceAdjust lo hi 1 (n : Int) = (((sIx n 0 lo : Nat) : Int), ((sIx n n hi : Nat) : Int)) := by
  have h1 : ¬ ((1 : Int) < 0) := by omega
  unfold Builtin.Slice.sliceAdjust
  simp only [h1, if_false]
  refine Prod.ext ?_ ?_
  · cases lo with
    | none => rfl
    | some v => exact clip_eq v n 0
  · cases hi with
    | none => rfl
    | some v => exact clip_eq v n n
theorem places_gen (i j : Nat) : Builtin.Slice.slicePlaces (i : Int) (j : Int) 1 = j - i := by
  unfold Builtin.Slice.slicePlaces
  have h1 : (1 : Int) > 0 := by omega
  simp only [h1, if_true, Int.ediv_one]
  split <;> omega
theorem slicePart_ {v : Value} {o : Option Int} {Q : Option Int → Shared → Prop} (p : IsPart v o) (h : Q o s) : wpAny (model prog w) A (Builtin.Slice.slicePartIndex v) Q E s := by
  cases p with
  | none => exact slicePart_none h
  | int i t => exact slicePart_int h
theorem sliceApplied_gen {sl : Addr} {vl vu : Value} {lo hi : Option Int} {n : Nat} {Q : Int × Int × Nat → Shared → Prop} (hs : s.heap.IsSliceOf sl vl vu .none) (pl : IsPart vl lo) (pu : IsPart vu hi)
    (h : Q (((sIx n 0 lo : Nat) : Int), 1, sIx n n hi - sIx n 0 lo) s) : wpAny (model prog w) A (Builtin.Slice.sliceApplied (.ref sl) (pure (n : Int))) Q E s := by
  obtain ⟨os, hos, hcs, hds⟩ := id hs
  unfold Builtin.Slice.sliceApplied Builtin.Slice.sliceFields
  refine wpAny_bind (wpAny_bind (wpAny_field hos hds (x := vl) rfl (wpAny_bind (wpAny_field hos hds (x := vu) rfl (wpAny_bind (wpAny_field hos hds (x := .none) rfl (wpAny_pure ?_)))))))
  refine wpAny_bind (slicePart_none ?_)
  show wpAny _ _ (if ((1 : Int) == 0) = true then _ else _) _ _ s
  rw [if_neg (by decide)]
  refine wpAny_bind (slicePart_ pl (wpAny_bind (slicePart_ pu (wpAny_bind (wpAny_pure ?_)))))
  show wpAny _ _ (match Builtin.Slice.sliceAdjust lo hi 1 (n : Int) with | (lo, hi) => pure (lo, (1 : Int), Builtin.Slice.slicePlaces lo hi 1)) _ _ s
  rw [adjust_gen lo hi n]
  show wpAny _ _ (pure (((sIx n 0 lo : Nat) : Int), (1 : Int), Builtin.Slice.slicePlaces ((sIx n 0 lo : Nat) : Int) ((sIx n n hi : Nat) : Int) 1)) _ _ s
  rw [places_gen]
  exact wpAny_pure h
theorem pick_gen (xs : Array Value) (i k : Nat) : ((List.range k).filterMap fun (m : Nat) => xs[((i : Int) + (m : Int) * 1).toNat]?).toArray = ((xs.toList.drop i).take k).toArray := by
  have e : (fun (m : Nat) => xs[((i : Int) + (m : Int) * 1).toNat]?) = fun m => xs[i + m]? := by
    funext m
    have : ((i : Int) + (m : Int) * 1).toNat = i + m := by omega
    rw [this]
  rw [e]
  have := pick_run xs i k
  rw [List.filterMap_map] at this
  have e2 : ((fun x => xs[x]?) ∘ fun x => i + x) = fun m => xs[i + m]? := rfl
  rw [e2] at this
  rw [this]

theorem getItem_tuple_cut {t sl : Addr} {items : Array Value} {vl vu : Value} {lo hi : Option Int} {Q : Value → Shared → Prop} (ht : IsTup s.heap t items) (hs : s.heap.IsSliceOf sl vl vu .none) (pl : IsPart vl lo) (pu : IsPart vu hi)
    (hw : ¬ (sIx items.size 0 lo = 0 ∧ sIx items.size items.size hi = items.size))
    (h : Q (.ref s.heap.objs.size) { s with heap := s.heap.push { cls := .type "tuple", data := .seq ((items.toList.drop (sIx items.size 0 lo)).take (sIx items.size items.size hi - sIx items.size 0 lo)).toArray } })
    (hsz : items.size ≤ sizeLine) : wpAny (model prog w) A (getItem (.ref t) (.ref sl)) Q E s := by
  have htake : sizeOk (.seq ((items.toList.drop (sIx items.size 0 lo)).take (sIx items.size items.size hi - sIx items.size 0 lo)).toArray) := by
    show ((items.toList.drop (sIx items.size 0 lo)).take (sIx items.size items.size hi - sIx items.size 0 lo)).toArray.size ≤ sizeLine
    rw [List.size_toArray, List.length_take, List.length_drop, Array.length_toList]
    omega
  have hj : sIx items.size items.size hi ≤ items.size := sIx_le _ _ (Nat.le_refl _) hi
  obtain ⟨os, hos, hcs, hds⟩ := id hs
  have hTs : s.TypeIs (.ref sl) "slice" := ⟨os, hos, hcs⟩
  unfold getItem
  try with_reducible refine wpAny_holding ?_
  first | refine wpAny_bind (wpAny_pure ?_) | skip
  refine wpAny_bind (wpAny_sequenceKey ht.typeIs (by decide) ?_)
  refine wpAny_bind (wpAny_callSpecial?_slot (name := Str.ofString "__getitem__") ht.typeIs PyProof.Rows.slot_tuple_getitem
    (wpAny_call_entry PyProof.Rows.slot_tuple_getitem ht.typeIs entry_tuple_getitem ?_ (args_tuple_getitem _ _)))
  show wpAny _ _ (Builtin.Tuple.tupleItemsOf (.ref t) >>= _) _ _ s
  refine wpAny_bind (tupleItemsOf_ ht ?_)
  refine wpAny_bind (wpAny_typeOf hTs ?_)
  rw [if_pos (by decide)]
  refine wpAny_bind (sliceApplied_gen hs pl pu ?_)
  have hno : ¬ ((((sIx items.size 0 lo : Nat) : Int) == 0 && (1 : Int) == 1 && (sIx items.size items.size hi - sIx items.size 0 lo) == items.size) = true) := by
    intro q
    rw [Bool.and_eq_true, Bool.and_eq_true] at q
    have q1 : ((sIx items.size 0 lo : Nat) : Int) = 0 := eq_of_beq q.1.1
    have q2 : sIx items.size items.size hi - sIx items.size 0 lo = items.size := eq_of_beq q.2
    exact hw ⟨by omega, by omega⟩
  show wpAny _ _ (if (((sIx items.size 0 lo : Nat) : Int) == 0 && (1 : Int) == 1 && (sIx items.size items.size hi - sIx items.size 0 lo) == items.size) = true then _ else _) _ _ s
  rw [if_neg hno, pick_gen]
  first
    | exact wpAny_bind (m := Builtin.Tuple.tupleExact _) (wpAny_newObj_type (wpAny_pure ⟨_, rfl, wpAny_pure h⟩) htake)
    | exact wpAny_bind (m := Builtin.Tuple.tupleExact _) (wpAny_newObj_type (wpAny_bind (wpAny_pure (wpAny_pure ⟨_, rfl, wpAny_pure h⟩))) htake)
    | exact wpAny_bind (wpAny_bind (m := Builtin.Tuple.tupleExact _) (wpAny_newObj_type (wpAny_pure (wpAny_pure ⟨_, rfl, wpAny_pure h⟩)) htake))
    | exact wpAny_bind (wpAny_bind (m := Builtin.Tuple.tupleExact _) (wpAny_newObj_type (wpAny_pure ⟨_, rfl, wpAny_pure h⟩) htake))
end
end HT

namespace L2
open PySem PySem.Spec PyProof.Rows

/-! ### the parts of a slice -/
abbrev TO := St → Hp → (Option Int → Hp → Prop) → Prop
/-- a slice's part (left out, or an int) -/
def PO (X : Cx) (e : Option Expr) (t : TO) : Prop :=
  ∀ (pins : List (Addr × Obj)) (s : Shared) (σ : St) (H : Hp) (Q : Option Int → Hp → Prop), Inv X pins σ H s → t σ H Q →
    wpAny (model X.prog X.w) X.A (evalPart e X.env) (fun u s' => ∃ o H', Inv X pins σ H' s' ∧ IsPart u o ∧ Q o H') X.xe s
def tNoPart : TO := fun _ H Q => Q none H
def tPart (t : TE) : TO := fun σ H Q => t σ H fun x H1 => ∃ i, x = .int i ∧ Q (some i) H1

section
variable {X : Cx} {e : Expr} {te : TE} {lo hi : Option Expr} {tl th : TO} {pos p2 : Pos}

theorem po_none : PO X none tNoPart := by
  intro pins s σ H Q I h
  rw [evalPart_none]
  exact wpAny_pure ⟨none, H, I, .none, h⟩
theorem po_some (h : PE X e te) : PO X (some e) (tPart te) := by
  intro pins s σ H Q I hw
  rw [evalPart_some]
  refine thn (h pins s σ H _ I hw) fun u s1 ⟨x, H1, I1, r1, q1⟩ => ?_
  obtain ⟨i, rfl, q⟩ := q1
  obtain ⟨t, rfl⟩ := r1
  exact ⟨some i, H1, I1, .int i t, q⟩

/-- what a slice of a value is, by values: the slice object stands at sl -/
def SlR (X : Cx) (r : V → Option Int → Option Int → Hp → VK → Prop) : Prop :=
  ∀ (pins : List (Addr × Obj)) (s : Shared) (σ : St) (H : Hp) (x : V) (v vl vu : Value) (lo hi : Option Int) (sl : Addr) (Q : VK), Inv X pins σ H s → RelV x v → s.heap.IsSliceOf sl vl vu .none → IsPart vl lo → IsPart vu hi → r x lo hi H Q →
    ∃ T id, typeLookup (.type T) "__getitem__" = pure (some (.builtin id)) ∧ s.TypeIs v T ∧ wpAny (model X.prog X.w) X.A (getItem v (.ref sl)) (EP X pins σ Q) X.xe s
theorem SlR.or {r r' : V → Option Int → Option Int → Hp → VK → Prop} (h : SlR X r) (h' : SlR X r') : SlR X (fun x lo hi H Q => r x lo hi H Q ∨ r' x lo hi H Q) := by
  intro pins s σ H x v vl vu lo hi sl Q I rx hs pl pu q
  rcases q with q | q
  · exact h pins s σ H x v vl vu lo hi sl Q I rx hs pl pu q
  · exact h' pins s σ H x v vl vu lo hi sl Q I rx hs pl pu q
def tSl (r : V → Option Int → Option Int → Hp → VK → Prop) (te : TE) (tl th : TO) : TE := fun σ H Q => te σ H fun x H1 => tl σ H1 fun l H2 => th σ H2 fun u H3 => r x l u H3 Q
/-- a[lo:hi], any a -/
theorem pe_slice {r : V → Option Int → Option Int → Hp → VK → Prop} (hr : SlR X r) (he : PE X e te) (hl : PO X lo tl) (hu : PO X hi th) : PE X (.Subscript e (.Slice lo hi none p2) pos) (tSl r te tl th) := by
  intro pins s σ H Q I h
  refine Subscript_ (thn (he pins s σ H _ I h) fun v s1 ⟨x, H1, I1, r1, q1⟩ => ?_)
  refine wpAny_Slice (thn (hl pins s1 σ H1 _ I1 q1) fun vl s2 ⟨l, H2, I2, pl, q2⟩ => thn (hu pins s2 σ H2 _ I2 q2) fun vu s3 ⟨u, H3, I3, pu, q3⟩ => ?_)
  rw [evalPart_none]
  refine wpAny_pure ?_
  have I4 : Inv X pins σ H3 { s3 with heap := s3.heap.push { cls := .type "slice", data := .fields #[vl, vu, .none] } } := I3.kept (t' := s3.toks) fun b ob q => Heap.get?_push_of_some _ q
  obtain ⟨T, id, hT, ht, hg⟩ := hr pins { s3 with heap := s3.heap.push { cls := .type "slice", data := .fields #[vl, vu, .none] } } σ H3 x v vl vu l u s3.heap.objs.size Q I4 r1 (Heap.IsSliceOf.new ..) pl pu q3
  show wpAny (model X.prog X.w) X.A (subscriptTail e (.Slice lo hi none p2) v (.ref s3.heap.objs.size)) (EP X pins σ Q) X.xe { s3 with heap := s3.heap.push { cls := .type "slice", data := .fields #[vl, vu, .none] } }
  exact tail_any (ops := [.ref s3.heap.objs.size, v]) ht hT hg (by with_unfolding_all rfl)

/-- the items of xs[lo:hi] -/
def cutV (xs : List V) (lo hi : Option Int) : List V := (xs.drop (HT.sIx xs.length 0 lo)).take (HT.sIx xs.length xs.length hi - HT.sIx xs.length 0 lo)
theorem cutV_length (xs : List V) (lo hi : Option Int) : (cutV xs lo hi).length ≤ xs.length := by
  unfold cutV
  rw [List.length_take, List.length_drop]
  omega
/-- t[lo:hi], not the whole of it (the whole would be t itself) -/
def rSlT (K : PySem.W.Frag) : V → Option Int → Option Int → Hp → VK → Prop := fun x lo hi H Q => ∃ a xs, x = .ref a ∧ SqT K H a xs ∧
  ¬ (HT.sIx xs.length 0 lo = 0 ∧ HT.sIx xs.length xs.length hi = xs.length) ∧ ∀ p, H p = none → Q (.ref p) (upd H p (.tup (cutV xs lo hi)))
theorem sl_tup : SlR X (rSlT X.K) := by
  intro pins s σ H x v vl vu lo hi sl Q I rx hs pl pu h
  obtain ⟨a, xs, rfl, hx, hw, q⟩ := h
  cases rx
  obtain ⟨its, r, ht, hz⟩ := I.tuple hx
  have hlen : its.toArray.size = xs.length := by rw [List.size_toArray]; exact r.length.symm
  refine ⟨"tuple", _, PyProof.Rows.slot_tuple_getitem.lookup, ht.typeIs, ?_⟩
  refine HT.getItem_tuple_cut ht hs pl pu (by rw [hlen]; exact hw) ?_ (by rw [hlen]; exact hz)
  rw [hlen]
  refine ⟨.ref s.heap.objs.size, _, I.laid (t' := s.toks) (o := .tup (cutV xs lo hi)) (fun b ob q => Heap.get?_push_of_some _ q) (Nat.le_refl _) ?_, rfl, q _ (I.hok.fresh (Nat.le_refl _))⟩
  exact ⟨Nat.le_trans (cutV_length xs lo hi) hz, _, (r.drop (HT.sIx xs.length 0 lo)).take (HT.sIx xs.length xs.length hi - HT.sIx xs.length 0 lo), TupN.new _ _⟩

/-! ### t < u, t + u -/
def rLtT (K : PySem.W.Frag) : R2 := fun x y H Q => ∃ a b ns ms, x = .ref a ∧ y = .ref b ∧ SqT K H a (ns.map V.int) ∧ SqT K H b (ms.map V.int) ∧ Q (.bl (HT.lexLt ns ms)) H
/-- t + u, t not empty: u empty gives t itself -/
def rCatT (K : PySem.W.Frag) : R2 := fun x y H Q => ∃ a b xs ys, x = .ref a ∧ y = .ref b ∧ SqT K H a xs ∧ SqT K H b ys ∧ xs ≠ [] ∧ xs.length + ys.length ≤ sizeLine ∧
  (ys = [] → Q (.ref a) H) ∧ (ys ≠ [] → ∀ p, H p = none → Q (.ref p) (upd H p (.tup (xs ++ ys))))
end
end L2

namespace L2
open PySem PySem.Spec PyProof.Rows

/-! ### places -/
/-- the place that an index of any sign means -/
def ixN (n : Nat) (i : Int) : Option Nat := if 0 ≤ i then (if i < n then some i.toNat else none) else if -(n : Int) ≤ i then some (i + n).toNat else none
def atI {α : Type} (xs : List α) (i : Int) : Option α := (ixN xs.length i).bind fun j => xs[j]?
theorem ixN_seq {n : Nat} {i : Int} {j : Nat} (h : ixN n i = some j) : seqIndex? i n = some j ∧ j < n ∧ -(n : Int) ≤ i ∧ i < n := by
  unfold ixN at h
  by_cases h0 : 0 ≤ i
  · rw [if_pos h0] at h
    by_cases h1 : i < n
    · rw [if_pos h1] at h
      have e : i.toNat = j := Option.some.inj h
      exact ⟨by rw [seqIndex_of h0 h1, e], by omega, by omega, h1⟩
    · rw [if_neg h1] at h; cases h
  · rw [if_neg h0] at h
    by_cases h1 : -(n : Int) ≤ i
    · rw [if_pos h1] at h
      have e : (i + n).toNat = j := Option.some.inj h
      exact ⟨by rw [seqIndex_neg (by omega) h1, e], by omega, h1, by omega⟩
    · rw [if_neg h1] at h; cases h
theorem atI_get {α : Type} {xs : List α} {i : Int} {v : α} (h : atI xs i = some v) : ∃ j, seqIndex? i xs.length = some j ∧ xs[j]? = some v ∧ j < xs.length ∧ -(xs.length : Int) ≤ i ∧ i < xs.length := by
  unfold atI at h
  cases e : ixN xs.length i with
  | none => rw [e] at h; cases h
  | some j =>
    rw [e] at h
    obtain ⟨h1, h2, h3, h4⟩ := ixN_seq e
    exact ⟨j, h1, h, h2, h3, h4⟩
theorem atI_nat {α : Type} {xs : List α} {j : Nat} {v : α} (h : xs[j]? = some v) : atI xs (j : Int) = some v := by
  have hj : j < xs.length := (List.getElem?_eq_some_iff.mp h).1
  have e : ixN xs.length (j : Int) = some j := by
    unfold ixN
    rw [if_pos (by omega), if_pos (by omega)]; simp
  unfold atI; rw [e]; exact h
/-! ### what may be subscripted -/
/-- what stands as an index of a plain subscript -/
def PlainIx (b : Expr) : Prop := ∀ o i, subscripted b false o i = operate [o, i] (getItem o i)
/-- a subscript by values -/
def IxR (X : Cx) (r : R2) : Prop :=
  ∀ (value slice : Expr) (pins : List (Addr × Obj)) (s : Shared) (σ : St) (H : Hp) (x y : V) (v u : Value) (Q : VK), Inv X pins σ H s → RelV x v → RelV y u → r x y H Q →
    subscripted slice false v u = operate [v, u] (getItem v u) → wpAny (model X.prog X.w) X.A (subscriptTail value slice v u) (EP X pins σ Q) X.xe s
/-- a call of a builtin's method by values: the receiver, the arguments -/
def MtR (X : Cx) (id : String) (r : V → List V → Hp → VK → Prop) : Prop :=
  ∀ (pins : List (Addr × Obj)) (s : Shared) (σ : St) (H : Hp) (x : V) (xs : List V) (v : Value) (us : List Value) (Q : VK), Inv X pins σ H s → RelV x v → Vals xs us → r x xs H Q →
    wpAny (model X.prog X.w) X.A (call (.builtin id) (v :: us)) (EP X pins σ Q) X.xe s
section
variable {X : Cx} {a b : Expr} {ta tb : TE} {pos : Pos}
theorem IxR.or {r r' : R2} (h : IxR X r) (h' : IxR X r') : IxR X (fun x y H Q => r x y H Q ∨ r' x y H Q) := by
  intro value slice pins s σ H x y v u Q I rx ry q hs
  rcases q with q | q
  · exact h value slice pins s σ H x y v u Q I rx ry q hs
  · exact h' value slice pins s σ H x y v u Q I rx ry q hs
theorem MtR.or {id : String} {r r' : V → List V → Hp → VK → Prop} (h : MtR X id r) (h' : MtR X id r') : MtR X id (fun x xs H Q => r x xs H Q ∨ r' x xs H Q) := by
  intro pins s σ H x xs v us Q I rx rs q
  rcases q with q | q
  · exact h pins s σ H x xs v us Q I rx rs q
  · exact h' pins s σ H x xs v us Q I rx rs q
/-- a[b] -/
theorem pe_ix {r : R2} (hr : IxR X r) (ha : PE X a ta) (hb : PE X b tb) (hs : PlainIx b) : PE X (.Subscript a b pos) (tOp r ta tb) := by
  intro pins s σ H Q I h
  exact Subscript_ (binT ha hb I h fun v u s2 x y H2 I2 rx ry q => hr a b pins s2 σ H2 x y v u Q I2 rx ry q (hs _ _))

def rIxL (K : PySem.W.Frag) : R2 := fun x y H Q => ∃ p xs i v, x = .ref p ∧ y = .int i ∧ SqL K H p xs ∧ atI xs i = some v ∧ Q v H
def rIxT (K : PySem.W.Frag) : R2 := fun x y H Q => ∃ p xs i v, x = .ref p ∧ y = .int i ∧ SqT K H p xs ∧ atI xs i = some v ∧ Q v H
def rIxS : R2 := fun x y H Q => ∃ z i c, x = .str z ∧ y = .int i ∧ z.length ≤ sizeLine ∧ atI z.cps.toList i = some c ∧ Q (.str ⟨#[c]⟩) H
theorem ix_list : IxR X (rIxL X.K) := by
  intro value slice pins s σ H x y v u Q I rx ry h hs
  obtain ⟨p, xs, i, z, rfl, rfl, hq, he, q⟩ := h
  cases rx
  obtain ⟨t, rfl⟩ := ry
  obtain ⟨its, r, pl, hz⟩ := I.list hq
  obtain ⟨j, h1, h2, h3, h4, h5⟩ := atI_get he
  obtain ⟨w, ew, rw'⟩ := r.get h2
  have hl := r.length
  have hn := line63
  have fin : EP X pins σ Q w s := ⟨z, H, I, rw', q⟩
  by_cases h0 : 0 ≤ i
  · have hj : i.toNat = j := by
      rw [seqIndex_of h0 h5] at h1
      exact Option.some.inj h1
    exact item_listR pl.isList h0 (by omega) (by rw [hj]; simpa using ew) fin hs
  · have hj : (i + (its.toArray.size : Int)).toNat = j := by
      rw [seqIndex_neg (by omega) h4] at h1
      rw [List.size_toArray, ← hl]
      exact Option.some.inj h1
    exact subscriptTail_builtinR (x := w) pl.isList.typeIs slot_list_getitem.lookup
      (wpAny_getItem_list_neg (Q := fun r s' => r = w ∧ EP X pins σ Q r s') pl.isList (by omega) (by rw [List.size_toArray] <;> omega) (by omega) (by rw [hj]; simpa using ew) ⟨rfl, fin⟩) hs
theorem ix_tup : IxR X (rIxT X.K) := by
  intro value slice pins s σ H x y v u Q I rx ry h hs
  obtain ⟨p, xs, i, z, rfl, rfl, hq, he, q⟩ := h
  cases rx
  obtain ⟨t, rfl⟩ := ry
  obtain ⟨its, r, pl, hz⟩ := I.tuple hq
  obtain ⟨j, h1, h2, h3, h4, h5⟩ := atI_get he
  obtain ⟨w, ew, rw'⟩ := r.get h2
  have hl := r.length
  have hn := line63
  have fin : EP X pins σ Q w s := ⟨z, H, I, rw', q⟩
  exact subscriptTail_builtinR (x := w) pl.typeIs slot_tuple_getitem.lookup
    (getItem_tuple (j := j) (Q := fun r s' => r = w ∧ EP X pins σ Q r s') pl (by omega) (by omega) (by rw [List.size_toArray, ← hl]; exact h1) (by simpa using ew) ⟨rfl, fin⟩) hs
theorem ix_str : IxR X rIxS := by
  intro value slice pins s σ H x y v u Q I rx ry h hs
  obtain ⟨z, i, c, rfl, rfl, hz, he, q⟩ := h
  obtain ⟨t, rfl⟩ := rx
  obtain ⟨t', rfl⟩ := ry
  obtain ⟨j, h1, h2, h3, h4, h5⟩ := atI_get he
  have hl : z.cps.toList.length = z.length := by simp [Str.length]
  rw [hl] at h1 h4 h5
  have hn := line63
  exact tail_any (typeIs_str s z t) slot_str_getitem.lookup (getItem_str (c := c) (by
    have e1 : decide (i < -(2 ^ 63 : Int)) = false := decide_eq_false (by omega)
    have e2 : decide (i ≥ 2 ^ 63) = false := decide_eq_false (by omega)
    rw [e1, e2, Bool.or_false]) (by rw [h1]; simpa using h2) ⟨.str ⟨#[c]⟩, H, I.tok _, ⟨_, rfl⟩, q⟩) hs
/-- list, tuple or str -/
def rIx (K : PySem.W.Frag) : R2 := fun x y H Q => rIxL K x y H Q ∨ rIxT K x y H Q ∨ rIxS x y H Q
/-! ### xs[i] = v, any sign -/
/-- the list's object behind a store -/
theorem mapSeq_set (its : List Value) (n j : Nat) (u : Value) : Obj.mapSeq (·.setIfInBounds j u) { cls := .type "list", data := .seq its.toArray n } = { cls := .type "list", data := .seq (its.set j u).toArray n } := by
  simp [Obj.mapSeq]
theorem Inv.lst {pins : List (Addr × Obj)} {σ : St} {H : Hp} {s : Shared} {p : Addr} {xs : List V} (I : Inv X pins σ H s) (h : H p = some (.lst xs)) :
    ∃ (its : List Value) (n : Nat), Vals xs its ∧ s.heap.get? p = some { cls := .type "list", data := .seq its.toArray n } ∧ xs.length ≤ sizeLine := by
  obtain ⟨z, its, n, r, e⟩ := I.hok p _ h
  exact ⟨its, n, r, e, z⟩
/-- the list at p is written by an update of its object -/
theorem Inv.lstUpd {pins : List (Addr × Obj)} {σ : St} {H : Hp} {s : Shared} {p : Addr} {xs ys : List V} {its its' : List Value} {n n' : Nat} {f : Obj → Obj} (I : Inv X pins σ H s) (h : H p = some (.lst xs))
    (ho : s.heap.get? p = some { cls := .type "list", data := .seq its.toArray n }) (hf : f { cls := .type "list", data := .seq its.toArray n } = { cls := .type "list", data := .seq its'.toArray n' }) (r : Vals ys its') (hz : ys.length ≤ sizeLine) (t : Nat) :
    Inv X pins σ (upd H p (.lst ys)) { s with heap := s.heap.update p f, toks := t } := by
  have e : (s.heap.update p f).get? p = some { cls := .type "list", data := .seq its'.toArray n' } := by
    rw [Heap.get?_update_self f ho (by rw [hf] <;> rfl), hf]
  refine I.write (x := p) (e := p) (by rw [h]; trivial) (.inl rfl) (fun b u hb q => (Heap.get?_update_other _ _ (Ne.symm hb)).trans q) ⟨_, e⟩ ?_
  exact ⟨hz, its', n', r, e⟩
def rSetL : V → V → V → Hp → (Hp → Prop) → Prop := fun o i v H Q => ∃ p xs k j, o = .ref p ∧ i = .int k ∧ H p = some (.lst xs) ∧ ixN xs.length k = some j ∧ Q (upd H p (.lst (xs.set j v)))
theorem set_list : PSet X rSetL := by
  intro pins s σ H o i v ov iv u Q I ro ri rv h
  obtain ⟨p, xs, k, j, rfl, rfl, hp, hj, q⟩ := h
  cases ro
  obtain ⟨t, rfl⟩ := ri
  obtain ⟨its, n, r, ho, hz⟩ := I.lst hp
  obtain ⟨h1, h2, h3, h4⟩ := ixN_seq hj
  have hl := r.length
  have hn := line63
  have I' : Inv X pins σ (upd H p (.lst (xs.set j v))) { s with heap := s.heap.update p (Obj.mapSeq (·.setIfInBounds j u)) } :=
    I.lstUpd hp ho (mapSeq_set its n j u) (r.set rv j) (by rw [List.length_set]; exact hz) s.toks
  by_cases h0 : 0 ≤ k
  · have hk : k.toNat = j := by
      rw [seqIndex_of h0 h4] at h1
      exact Option.some.inj h1
    exact PySem.W.ki_setAt ho h0 (by omega) (by rw [List.size_toArray, ← hl]; exact h4) (by rw [hk]; exact ⟨_, I', q⟩)
  · have hk : (k + (its.toArray.size : Int)).toNat = j := by
      rw [seqIndex_neg (by omega) h3] at h1
      rw [List.size_toArray, ← hl]
      exact Option.some.inj h1
    exact PySem.W.ki_setBack ho (by omega) (by rw [List.size_toArray, ← hl]; exact h3) (by omega) (by rw [hk]; exact ⟨_, I', q⟩)

/-! ### slices -/
theorem slice_bounds (lo hi : Option Int) (n : Nat) : (sliceBounds lo hi none n).1 = ((HT.sIx n 0 lo : Nat) : Int) ∧ (sliceBounds lo hi none n).2.1 = ((HT.sIx n n hi : Nat) : Int) ∧ (sliceBounds lo hi none n).2.2 = 1 := by
  refine ⟨?_, ?_, rfl⟩
  · cases lo with
    | none => simp [sliceBounds, HT.sIx]
    | some i =>
      simp only [sliceBounds, HT.sIx, Option.getD_none, show (1 : Int) > 0 by decide, if_true]
      by_cases h : i < 0
      · simp only [h, if_true] <;> omega
      · simp only [h, if_false] <;> omega
  · cases hi with
    | none => simp [sliceBounds, HT.sIx]
    | some i =>
      simp only [sliceBounds, HT.sIx, Option.getD_none, show (1 : Int) > 0 by decide, if_true]
      by_cases h : i < 0
      · simp only [h, if_true] <;> omega
      · simp only [h, if_false] <;> omega
theorem slicePick_cut (its : List Value) (lo hi : Option Int) : slicePick its.toArray lo hi none = ((its.drop (HT.sIx its.length 0 lo)).take (HT.sIx its.length its.length hi - HT.sIx its.length 0 lo)).toArray := by
  obtain ⟨h1, h2, h3⟩ := slice_bounds lo hi its.toArray.size
  unfold slicePick
  rw [h1, h2, h3]
  simp only [sliceRange_one, pick_run, List.size_toArray] <;> rfl
/-- xs[lo:hi] of a list: a new list -/
def rSlL (K : PySem.W.Frag) : V → Option Int → Option Int → Hp → VK → Prop := fun x lo hi H Q => ∃ a xs, x = .ref a ∧ SqL K H a xs ∧ ∀ p, H p = none → Q (.ref p) (upd H p (.lst (cutV xs lo hi)))
theorem sl_list : SlR X (rSlL X.K) := by
  intro pins s σ H x v vl vu lo hi sl Q I rx hs pl pu h
  obtain ⟨a, xs, rfl, hx, q⟩ := h
  cases rx
  obtain ⟨its, r, ht, hz⟩ := I.list hx
  have hlen := r.length
  refine ⟨"list", _, slot_list_getitem.lookup, ht.isList.typeIs, ?_⟩
  refine wpAny_getItem_list_slice ht.isList hs pl pu .none (by simp) ?_ (by rw [List.size_toArray] <;> omega)
  rw [slicePick_cut, ← hlen]
  refine ⟨.ref s.heap.objs.size, _, I.laid (t' := s.toks) (o := .lst (cutV xs lo hi)) (fun b ob q => Heap.get?_push_of_some _ q) (Nat.le_refl _) ?_, rfl, q _ (I.hok.fresh (Nat.le_refl _))⟩
  exact ⟨Nat.le_trans (cutV_length xs lo hi) hz, _, 0, (r.drop (HT.sIx xs.length 0 lo)).take (HT.sIx xs.length xs.length hi - HT.sIx xs.length 0 lo), Heap.get?_push_size _ rfl⟩

/-! ### in, not in: flat items -/
def flatV : V → Bool
  | .non => true
  | .bl _ => true
  | .int _ => true
  | .str _ => true
  | _ => false
/-- == of flat values -/
def eqV : V → V → Bool
  | .non, .non => true
  | .bl a, .bl b => a == b
  | .bl a, .int b => (if a then 1 else 0) == b
  | .int a, .bl b => a == (if b then 1 else 0)
  | .int a, .int b => a == b
  | .str a, .str b => a == b
  | _, _ => false
theorem eqAt_V {A : Around} {s : Shared} {y x : V} {u v : Value} (ry : RelV y u) (rx : RelV x v) (fy : flatV y = true) (fx : flatV x = true) : SeqAt.EqAt A s u v (eqV y x) := by
  cases y with
  | non =>
    cases ry
    cases x with
    | non => cases rx; exact SeqAt.EqAt.same _
    | bl b => cases rx; exact SeqAt.EqAt.none_bool b
    | int b => obtain ⟨t, rfl⟩ := rx; exact SeqAt.EqAt.none_int b t
    | str b => obtain ⟨t, rfl⟩ := rx; exact SeqAt.EqAt.none_str b t
    | _ => exact absurd (show false = true from fx) Bool.false_ne_true
  | bl a =>
    cases ry
    cases x with
    | non => cases rx; exact SeqAt.EqAt.bool_none a
    | bl b => cases rx; exact SeqAt.EqAt.bool_bool a b
    | int b => obtain ⟨t, rfl⟩ := rx; exact SeqAt.EqAt.bool_int a b t
    | str b => obtain ⟨t, rfl⟩ := rx; exact SeqAt.EqAt.bool_str a b t
    | _ => exact absurd (show false = true from fx) Bool.false_ne_true
  | int a =>
    obtain ⟨t', rfl⟩ := ry
    cases x with
    | non => cases rx; exact SeqAt.EqAt.int_none a t'
    | bl b => cases rx; exact SeqAt.EqAt.int_bool a t' b
    | int b => obtain ⟨t, rfl⟩ := rx; exact SeqAt.EqAt.int_int a t' b t
    | str b => obtain ⟨t, rfl⟩ := rx; exact SeqAt.EqAt.int_str a t' b t
    | _ => exact absurd (show false = true from fx) Bool.false_ne_true
  | str a =>
    obtain ⟨t', rfl⟩ := ry
    cases x with
    | non => cases rx; exact SeqAt.EqAt.str_none a t'
    | bl b => cases rx; exact SeqAt.EqAt.str_bool a t' b
    | int b => obtain ⟨t, rfl⟩ := rx; exact SeqAt.EqAt.str_int a t' b t
    | str b => obtain ⟨t, rfl⟩ := rx; exact SeqAt.EqAt.str_str a t' b t
    | _ => exact absurd (show false = true from fx) Bool.false_ne_true
  | _ => exact absurd (show false = true from fy) Bool.false_ne_true
/-- the items' answers, read off the values (a value's own answer does not lean on its token) -/
def eqU (x : V) (u : Value) : Bool := match u with
  | .none => eqV .non x
  | .bool b => eqV (.bl b) x
  | .int i _ => eqV (.int i) x
  | .str z _ => eqV (.str z) x
  | _ => false
theorem eqU_of {x y : V} {u : Value} (r : RelV y u) (f : flatV y = true) : eqU x u = eqV y x := by
  cases y with
  | non => cases r; rfl
  | bl b => cases r; rfl
  | int i => obtain ⟨t, rfl⟩ := r; rfl
  | str z => obtain ⟨t, rfl⟩ := r; rfl
  | _ => exact absurd (show false = true from f) Bool.false_ne_true
theorem any_eqU {x : V} : ∀ {xs : List V} {us : List Value}, Vals xs us → xs.all flatV = true → us.any (eqU x) = xs.any fun y => eqV y x
  | _, _, .nil, _ => rfl
  | y :: xs, u :: us, .cons r t, f => by
    rw [List.all_cons, Bool.and_eq_true] at f
    rw [List.any_cons, List.any_cons, eqU_of r f.1, any_eqU t f.2]
theorem mem_eqAt {A : Around} {s : Shared} {x : V} {v : Value} (rx : RelV x v) (fx : flatV x = true) : ∀ {xs : List V} {us : List Value}, Vals xs us → xs.all flatV = true → ∀ u ∈ us, SeqAt.EqAt A s u v (eqU x u)
  | _, _, .nil, _ => fun u hu => by cases hu
  | y :: xs, u :: us, .cons r t, f => fun u' hu => by
    rw [List.all_cons, Bool.and_eq_true] at f
    rcases List.mem_cons.mp hu with rfl | hu
    · rw [eqU_of r f.1]; exact eqAt_V r rx f.1 fx
    · exact mem_eqAt rx fx t f.2 u' hu
def inV (x : V) (xs : List V) : Bool := xs.any fun y => eqV y x
/-- x in a list or tuple of flat items -/
def rIn (K : PySem.W.Frag) (neg : Bool) : R2 := fun x y H Q => ∃ p xs, y = .ref p ∧ (SqL K H p xs ∨ SqT K H p xs) ∧ flatV x = true ∧ xs.all flatV = true ∧ Q (.bl (if neg then !inV x xs else inV x xs)) H
theorem op_in_seq : OpR X (compareOp .In) (rIn X.K false) := by
  intro pins s σ H x y v u Q I rx ry h
  obtain ⟨p, xs, rfl, hq, fx, fs, q⟩ := h
  cases ry
  rcases hq with hq | hq
  · obtain ⟨its, r, pl, hz⟩ := I.list hq
    refine SeqAt.in_listAt (eqU x) pl.isList (fun w hw => mem_eqAt rx fx r fs w (by simpa using hw)) ⟨.bl _, H, I, rfl, ?_⟩
    rw [show its.toArray.any (eqU x) = its.any (eqU x) by simp, any_eqU r fs]
    exact q
  · obtain ⟨its, r, pl, hz⟩ := I.tuple hq
    refine SeqAt.in_tupleAt (eqU x) pl (fun w hw => mem_eqAt rx fx r fs w (by simpa using hw)) ⟨.bl _, H, I, rfl, ?_⟩
    rw [show its.toArray.any (eqU x) = its.any (eqU x) by simp, any_eqU r fs]
    exact q
theorem op_notIn_seq : OpR X (compareOp .NotIn) (rIn X.K true) := by
  intro pins s σ H x y v u Q I rx ry h
  obtain ⟨p, xs, rfl, hq, fx, fs, q⟩ := h
  cases ry
  rcases hq with hq | hq
  · obtain ⟨its, r, pl, hz⟩ := I.list hq
    refine SeqAt.notIn_listAt (eqU x) pl.isList (fun w hw => mem_eqAt rx fx r fs w (by simpa using hw)) ⟨.bl _, H, I, rfl, ?_⟩
    rw [show its.toArray.any (eqU x) = its.any (eqU x) by simp, any_eqU r fs]
    exact q
  · obtain ⟨its, r, pl, hz⟩ := I.tuple hq
    refine SeqAt.notIn_tupleAt (eqU x) pl (fun w hw => mem_eqAt rx fx r fs w (by simpa using hw)) ⟨.bl _, H, I, rfl, ?_⟩
    rw [show its.toArray.any (eqU x) = its.any (eqU x) by simp, any_eqU r fs]
    exact q
/-! ### len, list(x), tuple(x) of any list or tuple that is read -/
theorem call_len_seq : CallR X (.builtin "len") (fun xs H Q => ∃ p ys, xs = [.ref p] ∧ (SqL X.K H p ys ∨ SqT X.K H p ys) ∧ Q (.int ys.length) H) := by
  intro pins s σ H xs us Q I r h
  obtain ⟨p, ys, rfl, hq, q⟩ := h
  obtain ⟨u, rfl, rx⟩ := vals1 r
  cases rx
  have hn := line63
  rcases hq with hq | hq
  · obtain ⟨its, r', pl, hz⟩ := I.list hq
    have hlen := r'.length
    exact Calls.call_len_list pl.isList (by simp only [List.size_toArray] <;> omega) ⟨.int ys.length, H, I.tok _, ⟨s.toks + 1, by rw [List.size_toArray, hlen]⟩, q⟩
  · obtain ⟨its, r', pl, hz⟩ := I.tuple hq
    have hlen := r'.length
    exact len_tuple pl (by simp only [List.size_toArray] <;> omega) ⟨.int ys.length, H, I.tok _, ⟨s.toks + 1, by rw [List.size_toArray, hlen]⟩, q⟩
theorem call_len_str : CallR X (.builtin "len") (fun xs H Q => ∃ z, xs = [.str z] ∧ z.length ≤ sizeLine ∧ Q (.int z.length) H) := by
  intro pins s σ H xs us Q I r h
  obtain ⟨z, rfl, hz, q⟩ := h
  obtain ⟨u, rfl, t, rfl⟩ := vals1 r
  have hn := line63
  exact len_str (by omega) ⟨.int z.length, H, I.tok _, ⟨_, rfl⟩, q⟩
theorem CallR.or {f : Value} {r r' : List V → Hp → VK → Prop} (h : CallR X f r) (h' : CallR X f r') : CallR X f (fun xs H Q => r xs H Q ∨ r' xs H Q) := by
  intro pins s σ H xs us Q I rs q
  rcases q with q | q
  · exact h pins s σ H xs us Q I rs q
  · exact h' pins s σ H xs us Q I rs q
theorem call_list_of : CallR X (.type "list") (fun xs H Q => ∃ p ys, xs = [.ref p] ∧ (SqL X.K H p ys ∨ SqT X.K H p ys) ∧ ∀ l, H l = none → Q (.ref l) (upd H l (.lst ys))) := by
  intro pins s σ H xs us Q I r h
  obtain ⟨p, ys, rfl, hq, q⟩ := h
  obtain ⟨u, rfl, rx⟩ := vals1 r
  cases rx
  have fin : ∀ (its : List Value), Vals ys its → ys.length ≤ sizeLine → ∀ (h' : Heap) (c' : Nat), (∀ b o', s.heap.get? b = some o' → h'.get? b = some o') →
      h'.get? s.heap.objs.size = some { cls := .type "list", dict := none, data := .seq its.toArray c', slots := #[] } → EP X pins σ Q (.ref s.heap.objs.size) { s with heap := h' } := fun its r' hz h' c' kp e =>
    ⟨.ref s.heap.objs.size, _, I.laid (t' := s.toks) kp (Nat.le_refl _) (show ObjOk X.prog X.w _ h' _ (.lst ys) from ⟨hz, its, c', r', e⟩), rfl, q _ (I.hok.fresh (Nat.le_refl _))⟩
  rcases hq with hq | hq
  · obtain ⟨its, r', pl, hz⟩ := I.list hq
    have hlen := r'.length
    obtain ⟨o, ho, hc, n, hd⟩ := pl.isList
    exact call_list_seq p (.inl rfl) ho hc hd (fun h' c' kp e => fin its r' hz h' c' kp e) (by simp only [List.size_toArray] <;> omega)
  · obtain ⟨its, r', pl, hz⟩ := I.tuple hq
    have hlen := r'.length
    obtain ⟨o, ho, hc, n, hd⟩ := pl
    exact call_list_seq p (.inr rfl) ho hc hd (fun h' c' kp e => fin its r' hz h' c' kp e) (by simp only [List.size_toArray] <;> omega)
theorem call_tuple_of : CallR X (.type "tuple") (fun xs H Q => ∃ p ys, xs = [.ref p] ∧ ((SqL X.K H p ys ∧ ∀ l, H l = none → Q (.ref l) (upd H l (.tup ys))) ∨ (SqT X.K H p ys ∧ Q (.ref p) H))) := by
  intro pins s σ H xs us Q I r h
  obtain ⟨p, ys, rfl, h⟩ := h
  obtain ⟨u, rfl, rx⟩ := vals1 r
  cases rx
  rcases h with ⟨hq, q⟩ | ⟨hq, q⟩
  · obtain ⟨its, r', pl, hz⟩ := I.list hq
    have hlen := r'.length
    refine call_tuple_list pl.isList (fun h' kp => ?_) (by simp only [List.size_toArray] <;> omega)
    have I1 : Inv X pins σ H { s with heap := h' } := I.kept (t' := s.toks) kp
    have I2 : Inv X pins σ (upd H h'.objs.size (.tup ys)) { s with heap := h'.push { cls := .type "tuple", data := .seq its.toArray } } :=
      I1.laid (t' := s.toks) (fun b o e => Heap.get?_push_of_some _ e) (Nat.le_refl _) (show ObjOk X.prog X.w _ _ _ (.tup ys) from ⟨hz, its, r', TupN.new _ _⟩)
    exact ⟨.ref h'.objs.size, _, I2, rfl, q _ (I1.hok.fresh (Nat.le_refl _))⟩
  · obtain ⟨its, r', pl, hz⟩ := I.tuple hq
    exact call_tuple_same pl ⟨.ref p, H, I, rfl, q⟩

/-! ### the call of a builtin's method: o.m(..) -/
/-- the value is of that builtin type -/
def tyV (K : PySem.W.Frag) (T : String) (x : V) (H : Hp) : Prop := match x with
  | .str _ => T = "str"
  | .int _ => T = "int"
  | .ref p => (T = "list" ∧ ∃ xs, SqL K H p xs) ∨ (T = "tuple" ∧ ∃ o, K.lookup p = some o ∧ o.cls = .type "tuple" ∧ o.dict = none) ∨
      (T = "dict" ∧ ((∃ kvs, H p = some (.dK kvs)) ∨ ∃ kvs, H p = some (.dT kvs))) ∨ (T = "set" ∧ ∃ S n, H p = some (.set S n)) ∨ (T = "tuple" ∧ ∃ xs, Rd H p (.tup xs))
  | _ => False
theorem tyV_is {pins : List (Addr × Obj)} {σ : St} {H : Hp} {s : Shared} {T : String} {x : V} {v : Value} (I : Inv X pins σ H s) (r : RelV x v) (ty : tyV X.K T x H) :
    s.TypeIs v T ∧ ∀ a, v = .ref a → ∃ ob, s.heap.get? a = some ob ∧ ob.dict = none := by
  cases x with
  | str z =>
    obtain ⟨t, rfl⟩ := r
    cases (show T = "str" from ty)
    exact ⟨typeIs_str s z t, fun _ e => nomatch e⟩
  | int i =>
    obtain ⟨t, rfl⟩ := r
    cases (show T = "int" from ty)
    exact ⟨typeIs_int s i t, fun _ e => nomatch e⟩
  | ref p =>
    cases r
    rcases ty with ⟨rfl, xs, hq⟩ | ⟨rfl, o, hk, hc, hd⟩ | ⟨rfl, hk⟩ | ⟨rfl, S, n, hk⟩ | ⟨rfl, xs, hq⟩
    · obtain ⟨its, _, pl, _⟩ := I.list hq
      refine ⟨pl.isList.typeIs, fun a e => ?_⟩
      cases e
      obtain ⟨o, n, e, c, hd, _⟩ := pl
      exact ⟨o, e, hd⟩
    · refine ⟨⟨o, I.kIn p o hk, hc⟩, fun a e => ?_⟩
      cases e
      exact ⟨o, I.kIn _ o hk, hd⟩
    · have z : ∃ o, s.heap.get? p = some o ∧ o.ExactDict := by
        rcases hk with ⟨kvs, hk⟩ | ⟨kvs, hk⟩
        · obtain ⟨_, _, _, _, o, _, _, e, ex, _⟩ := I.hok p _ hk
          exact ⟨o, e, ex⟩
        · obtain ⟨_, _, _, _, o, _, _, e, ex, _⟩ := I.hok p _ hk
          exact ⟨o, e, ex⟩
      obtain ⟨o, e, ex⟩ := z
      refine ⟨⟨o, e, ex.1⟩, fun a e2 => ?_⟩
      cases e2
      exact ⟨o, e, ex.2.1⟩
    · obtain ⟨o, _, _, _, e, ex, _⟩ := I.hok p _ hk
      refine ⟨⟨o, e, ex.1⟩, fun a e2 => ?_⟩
      cases e2
      exact ⟨o, e, ex.2.1⟩
    · obtain ⟨_, _, _, o, e, c, _, _, hd⟩ := hq.ok I.hok
      refine ⟨⟨o, e, c⟩, fun a e2 => ?_⟩
      cases e2
      exact ⟨o, e, hd⟩
  | _ => exact False.elim ty
def tBM0 (K : PySem.W.Frag) (T : String) (r : V → List V → Hp → VK → Prop) (to : TE) : TE := fun σ H Q => to σ H fun x H1 => tyV K T x H1 ∧ r x [] H1 Q
def tBM (K : PySem.W.Frag) (T : String) (r : V → List V → Hp → VK → Prop) (to : TE) (t : TA) : TE := fun σ H Q => to σ H fun x H1 => tyV K T x H1 ∧ t σ H1 fun xs H2 => r x xs H2 Q
variable {o e : Expr} {es : List Expr} {to : TE} {t : TA} {name : Str} {apos cpos : Pos} {T id : String} {r : V → List V → Hp → VK → Prop}
theorem pe_bm (pa : PlainAttrs T) (slot : Slot T name id) (hty : typeOf (.builtin id) = pure (.type "method_descriptor")) (hm : MtR X id r) (ho : PE X o to) (ha : PA X (e :: es) t)
    (hbase : attributeBase o name X.env (eval o X.env) = eval o X.env := by rfl)
    (hfew : ((backTo cpos (starEach (e :: es) X.env)).all (fun x => !x.1) && (backToKw cpos (keywordEach [] X.env)).all (fun x => x.1.isSome)
      && decide ((e :: es).length + ([] : List Keyword).length + (if ([] : List Keyword).isEmpty then 0 else 1) < 30)) = true := by rfl)
    (hline : (apos.endLine == cpos.line) = true := by rfl) (hs : starEach (e :: es) X.env = (false, eval e X.env) :: starEach es X.env := by rfl) (hplain : (backTo cpos (starEach es X.env)).any (·.1) = false := by rfl) :
    PE X (.Call (.Attribute o name apos) (e :: es) [] cpos) (tBM X.K T r to t) := by
  intro pins s σ H Q I h
  refine wpAny_Call_method_late hbase hfew hline rfl (thn (ho pins s σ H _ I h) fun v s1 ⟨x, H1, I1, r1, ty, q1⟩ => ?_)
  obtain ⟨h1, h2⟩ := tyV_is I1 r1 ty
  refine ⟨T, id, pa, slot, hty, h1, h2, ?_⟩
  have hA := ha cpos pins s1 σ H1 _ I1 q1
  rw [hs] at hA ⊢
  refine Calls.callWith_builtin (by show (false || (backTo cpos (starEach es X.env)).any (·.1)) = false; rw [hplain] <;> rfl) (Calls.evalArgs_plain ?_)
  exact thn hA fun us s2 ⟨vs, H2, I2, r2, q2⟩ => hm pins s2 σ H2 x vs v us Q I2 r1 r2 q2
/- xs.append(e), list.index on a module's tuple .. are MtR facts of 06m -/
end
end L2

namespace L2
open PySem PySem.Spec PyProof.Rows

def MtM (X : Cx) (id : String) (r : V → List V → Hp → VK → Prop) : Prop :=
  ∀ (pins : List (Addr × Obj)) (s : Shared) (σ : St) (H : Hp) (x : V) (xs : List V) (v : Value) (us : List Value) (Q : VK), Inv X pins σ H s → RelV x v → Vals xs us → r x xs H Q →
    wpAny (model X.prog X.w) X.A (call (.builtin id) (v :: us)) (EP X pins σ Q) X.xe s

/-! ### lists of values -/
theorem Vals.one : ∀ {x : V} {us : List Value}, Vals [x] us → ∃ u, us = [u] ∧ RelV x u
  | _, _, .cons r .nil => ⟨_, rfl, r⟩
theorem Vals.two : ∀ {x y : V} {us : List Value}, Vals [x, y] us → ∃ u v, us = [u, v] ∧ RelV x u ∧ RelV y v
  | _, _, _, .cons r (.cons q .nil) => ⟨_, _, rfl, r, q⟩
theorem Vals.zero : ∀ {us : List Value}, Vals [] us → us = []
  | _, .nil => rfl
theorem Vals.dropLast {xs : List V} {us : List Value} (h : Vals xs us) : Vals xs.dropLast us.dropLast := by
  induction h with
  | nil => exact .nil
  | cons r t ih =>
    cases t with
    | nil => exact .nil
    | cons q t' => exact .cons r ih
theorem Vals.eraseIdx : ∀ {xs : List V} {us : List Value} (i : Nat), Vals xs us → Vals (xs.eraseIdx i) (us.eraseIdx i)
  | _, _, _, .nil => .nil
  | _, _, 0, .cons _ t => t
  | _, _, i + 1, .cons r t => .cons r (Vals.eraseIdx i t)
theorem Vals.reverse {xs : List V} {us : List Value} (h : Vals xs us) : Vals xs.reverse us.reverse := by
  induction h with
  | nil => exact .nil
  | cons r t ih => rw [List.reverse_cons, List.reverse_cons]; exact Vals.append ih (.cons r .nil)
theorem len_erase {α : Type} : ∀ (l : List α) (i : Nat), (l.eraseIdx i).length ≤ l.length
  | [], _ => Nat.le_refl _
  | _ :: _, 0 => Nat.le_succ _
  | _ :: r, i + 1 => Nat.succ_le_succ (len_erase r i)
section
variable {X : Cx} {pins : List (Addr × Obj)} {σ : St} {H : Hp} {s : Shared} {l b : Addr} {xs ys zs : List V}

/-! ### the two steps: a tracked list is rewritten, a new list is laid -/
theorem Inv.lset {its its' : List Value} {n : Nat} {f : Array Value → Array Value} {t' : Nat} (I : Inv X pins σ H s) (hH : H l = some (.lst xs))
    (e : s.heap.get? l = some { cls := .type "list", data := .seq its.toArray n }) (hf : f its.toArray = its'.toArray) (hv : Vals ys its') (hz : ys.length ≤ sizeLine) :
    Inv X pins σ (upd H l (.lst ys)) { s with heap := s.heap.update l (Obj.mapSeq f), toks := t' } := by
  have q := PySem.IsL.update e f
  rw [hf] at q
  refine I.write (x := l) (e := l) (by rw [hH]; exact trivial) (.inl rfl) (fun b' u hb hu => (Heap.get?_update_other s.heap (Obj.mapSeq f) (Ne.symm hb)).trans hu) ⟨_, q⟩ ?_
  exact ⟨hz, its', _, hv, q⟩
theorem Inv.lnew {its : List Value} {t' : Nat} (I : Inv X pins σ H s) (hv : Vals ys its) (hz : ys.length ≤ sizeLine) :
    Inv X pins σ (upd H s.heap.objs.size (.lst ys)) { s with heap := s.heap.push { cls := .type "list", data := .seq its.toArray }, toks := t' } :=
  I.laid (fun _ _ q => Heap.get?_push_of_some _ q) (Nat.le_refl _) ⟨hz, its, 0, hv, Heap.get?_push_size _ rfl⟩
theorem Inv.fresh (I : Inv X pins σ H s) : H s.heap.objs.size = none := I.hok.fresh (Nat.le_refl _)
theorem Inv.lstM (I : Inv X pins σ H s) (hH : H l = some (.lst xs)) : xs.length ≤ sizeLine ∧ ∃ (its : List Value) (n : Nat), Vals xs its ∧ xs.length = its.length ∧ s.heap.get? l = some { cls := .type "list", data := .seq its.toArray n } := by
  obtain ⟨z, its, n, r, e⟩ := I.hok l _ hH
  exact ⟨z, its, n, r, r.length, e⟩

theorem notLongL {n : Nat} (h : n ≤ sizeLine) : Builtin.List.listTooLong n = false := by
  unfold Builtin.List.listTooLong
  exact decide_eq_false (by omega)
end

section
variable {X : Cx}

/-! ### methods -/
def rAppend : V → List V → Hp → VK → Prop := fun x vs H Q => ∃ l xs y, x = .ref l ∧ vs = [y] ∧ H l = some (.lst xs) ∧ xs.length < sizeLine ∧ Q .non (upd H l (.lst (xs ++ [y])))
theorem mt_append : MtM X "list.append" rAppend := by
  intro pins s σ H x vs v us Q I rx rv h
  obtain ⟨l, xs, y, rfl, rfl, hH, hz, q⟩ := h
  cases rx
  obtain ⟨u, rfl, ru⟩ := rv.one
  obtain ⟨z, its, n, r, hl, e⟩ := I.lstM hH
  refine call_meets F.slot_list_append ⟨_, e, rfl⟩ F.entry_list_append (F.args_list_append_2 _ _) (PySem.list_append l its.toArray n u (by rw [List.size_toArray]; omega)) ⟨e, ?_⟩
  refine ⟨.non, _, I.lset (its' := its ++ [u]) hH e (by simp) (r.append (.cons ru .nil)) ?_, rfl, q⟩
  rw [List.length_append, List.length_singleton]
  omega

def rExtend : V → List V → Hp → VK → Prop := fun x vs H Q => ∃ l b xs zs, x = .ref l ∧ vs = [.ref b] ∧ H l = some (.lst xs) ∧ H b = some (.lst zs) ∧ xs.length + zs.length ≤ sizeLine ∧ Q .non (upd H l (.lst (xs ++ zs)))
theorem mt_extend : MtM X "list.extend" rExtend := by
  intro pins s σ H x vs v us Q I rx rv h
  obtain ⟨l, b, xs, zs, rfl, rfl, hH, hB, hz, q⟩ := h
  cases rx
  obtain ⟨u, rfl, ru⟩ := rv.one
  cases ru
  obtain ⟨z, its, n, r, hl, e⟩ := I.lstM hH
  obtain ⟨z2, its2, n2, r2, hl2, e2⟩ := I.lstM hB
  have hsz : its.toArray.size + its2.toArray.size ≤ sizeLine := by rw [List.size_toArray, List.size_toArray]; omega
  have hlong : ¬ (!its.toArray.isEmpty && Builtin.List.listTooLong (its.toArray.size + its2.toArray.size)) = true := by
    rw [notLongL hsz, Bool.and_false]
    exact Bool.false_ne_true
  refine call_meets F.slot_list_extend ⟨_, e, rfl⟩ F.entry_list_extend (F.args_list_extend_2 _ _)
    (AutoSeq1.list_extend_list_list_0 l its.toArray n b its2.toArray n2 hlong (by rw [List.size_toArray]; omega) (by omega)) ⟨e, e2, ?_⟩
  refine ⟨.non, _, I.lset (its' := its ++ its2) hH e (by simp) (r.append r2) ?_, rfl, q⟩
  rw [List.length_append]
  omega

def rPop : V → List V → Hp → VK → Prop := fun x vs H Q => ∃ l xs y, x = .ref l ∧ vs = [] ∧ H l = some (.lst xs) ∧ xs[xs.length - 1]? = some y ∧ Q y (upd H l (.lst xs.dropLast))
def rPopAt : V → List V → Hp → VK → Prop := fun x vs H Q => ∃ l xs i k y, x = .ref l ∧ vs = [.int i] ∧ H l = some (.lst xs) ∧ -(2 ^ 63) ≤ i ∧ i < 2 ^ 63 ∧ seqIndex? i xs.length = some k ∧ xs[k]? = some y ∧ Q y (upd H l (.lst (xs.eraseIdx k)))
theorem mt_popAt : MtM X "list.pop" rPopAt := by
  intro pins s σ H x vs v us Q I rx rv h
  obtain ⟨l, xs, i, k, y, rfl, rfl, hH, h1, h2, hk, hy, q⟩ := h
  cases rx
  obtain ⟨u, rfl, ru⟩ := rv.one
  obtain ⟨t, rfl⟩ := ru
  obtain ⟨z, its, n, r, hl, e⟩ := I.lstM hH
  obtain ⟨w, hw, rw'⟩ := r.get hy
  refine call_meets F.slot_list_pop ⟨_, e, rfl⟩ F.entry_list_pop (F.args_list_pop_2 _ _)
    (MeetsSeq.list_pop_at l its.toArray n i t k w (fitsIndex_both h1 h2) (by rw [List.size_toArray, ← hl]; exact hk) (by rw [← Array.getElem?_toList]; exact hw) (by rw [List.size_toArray]; omega)) ⟨e, ?_⟩
  refine ⟨y, _, I.lset (its' := its.eraseIdx k) hH e ?_ (r.eraseIdx k) ?_, rw', q⟩
  · show its.toArray.eraseIdxIfInBounds k = (its.eraseIdx k).toArray
    rw [List.eraseIdxIfInBounds_toArray]
  · have := len_erase xs k
    omega

def rReverse : V → List V → Hp → VK → Prop := fun x vs H Q => ∃ l xs, x = .ref l ∧ vs = [] ∧ H l = some (.lst xs) ∧ Q .non (upd H l (.lst xs.reverse))
def rClear : V → List V → Hp → VK → Prop := fun x vs H Q => ∃ l xs, x = .ref l ∧ vs = [] ∧ H l = some (.lst xs) ∧ Q .non (upd H l (.lst []))
/-! ### list + list, list += list, list * int -/
def rCat : R2 := fun x y H Q => ∃ l b xs zs, x = .ref l ∧ y = .ref b ∧ H l = some (.lst xs) ∧ H b = some (.lst zs) ∧ xs.length + zs.length ≤ sizeLine ∧ ∀ p, H p = none → Q (.ref p) (upd H p (.lst (xs ++ zs)))
theorem op_cat : OpR X (binaryOp .Add) rCat := by
  intro pins s σ H x y v u Q I rx ry h
  obtain ⟨l, b, xs, zs, rfl, rfl, hH, hB, hz, q⟩ := h
  cases rx
  cases ry
  obtain ⟨z, its, n, r, hl, e⟩ := I.lstM hH
  obtain ⟨z2, its2, n2, r2, hl2, e2⟩ := I.lstM hB
  refine PySem.P.add_list e e2 ?_ (by rw [List.size_toArray, List.size_toArray]; omega)
  have ea : its.toArray ++ its2.toArray = (its ++ its2).toArray := by simp
  rw [ea]
  exact ⟨.ref _, _, I.lnew (t' := s.toks) (r.append r2) (by rw [List.length_append]; omega), rfl, q _ I.fresh⟩
/-- a list times an int (a negative one is nothing) -/
def rRep : R2 := fun x y H Q => ∃ l k xs, x = .ref l ∧ y = .int k ∧ H l = some (.lst xs) ∧ -(2 ^ 63) ≤ k ∧ k < 2 ^ 63 ∧ xs.length * k.toNat ≤ sizeLine ∧
  ∀ p, H p = none → Q (.ref p) (upd H p (.lst (List.replicate k.toNat xs).flatten))
/-! ### del xs[i] -/
end

/-! ### xs[a:b] = ys -/
section
variable {prog : Program} {w : World} {A : Around} {E : Value → Shared → Prop} {s : Shared}
set_option maxRecDepth 100000 in
end

section
variable {X : Cx}
end
end L2

namespace Att
open PySem PySem.W PySem.Calls PyProof.Rows

/-! ### the script -/
theorem ints_of_wellAll {P : Params} {h : Heap} : ∀ (ns : List Int) (vs : List Value), WellAll P h vs (ns.map WData.int) → IntsAre vs ns := by
  intro ns
  induction ns with
  | nil =>
    intro vs w
    rw [List.map_nil] at w
    cases w
    exact .nil
  | cons n ns ih =>
    intro vs w
    rw [List.map_cons] at w
    cases w with
    | cons a b =>
      cases a
      exact .cons _ _ (ih _ b)

theorem script_of {l : OpenLaw} {n : Nat} (hn : l.most = some n) {P : Params} {h : Heap} {args : List WData} {vals : List Value}
    (hpre : l.row.toRowW.claim.pre args = true) (hwl : WellAll P h vals args) :
    ∃ a vs ns, vals = [Value.ref a] ∧ args = [WData.list (ns.map WData.int)] ∧ h.get? a = some { cls := .type "list", data := .seq vs.toArray } ∧ IntsAre vs ns ∧ ns.length ≤ n := by
  have hsh : WShape.hasAll [] args [.list .int] = true := (pre_splitW hpre).1
  have hc : l.pre.holds [] { args := args } = true := (pre_splitW hpre).2
  obtain ⟨d, r, rfl, h1, h2⟩ := hasAllW_cons hsh
  obtain rfl := hasAllW_nil h2
  obtain ⟨xs, rfl, h3⟩ := hasW_list h1
  obtain ⟨ns, rfl⟩ := items_int h3
  have hlen : ns.length ≤ n := by
    unfold OpenLaw.pre at hc
    have h4 : (WTm.not (.lt (.lit (.int (n : Int))) (.len (.arg 0)))).holds [] { args := [.list (ns.map .int)] } = true := by
      have h4 := (holds_andW hc).1
      rw [hn] at h4
      exact h4
    have h5 := condW_of h4 (w_not (w_lt w_lit (w_len_list (w_arg rfl))))
    rw [List.length_map] at h5
    refine Nat.le_of_not_lt fun q => ?_
    have q' : (n : Int) < ((ns.length : Nat) : Int) := by omega
    first
      | (rw [decide_eq_true q'] at h5; exact absurd h5 (by decide))
      | (simp at h5; omega)
  cases hwl with
  | cons w1 w2 =>
    cases w2
    cases w1 with
    | list ho hall => exact ⟨_, _, ns, rfl, rfl, ho, ints_of_wellAll ns _ hall, hlen⟩

theorem post_true (l : OpenLaw) (args : List WData) : l.row.toRowW.claim.post args (.bool true) args = true :=
  postW_of (r := l.row.toRowW) (X := (true == true))
    (show WShape.has [] (.bool true) .bool = true by first | rfl | decide | simp [WShape.has, WShape.arms, WShape.armsAll])
    (show (WTm.eq .res (.lit (.bool true))).value [] { args := args, res := some (.bool true), after := args } = some (.bool (true == true)) from w_eq_bool (w_res rfl) w_lit) rfl

/-! ### the attachment: holds_open's last premise (the goal 'hc' behind k_head) from a wpAny of the law's body -/
/-- the same from a codeAny of the CALL (for a layer whose function contracts speak of calls) -/
theorem attach_call {l : OpenLaw} {n : Nat} {q : Program} {loose : List Str} {XP : (Str → Option Value) → Heap → Prop} {YP : World → Heap → Prop} {d : DefRec}
    (hn : l.most = some n) (hdf : d.params.defaults = [])
    (call : ∀ (w : World) (s₀ s₁ : Shared) (mg mb : Str → Option Value) (fa : Addr) (o : Obj) (pm cd doc : Value) (a : Addr) (vs : List Value) (ns : List Int),
      Ground q loose [] XP w s₀ mg mb s₁.heap → YP w s₁.heap →
      s₁.heap.get? fa = some o → o.data = .func (docDef d.name d.params d.body d.scope pm cd doc) → s₁.heap.CodeRec cd d.name → mg d.name = some (.ref fa) →
      s₁.heap.get? a = some { cls := .type "list", data := .seq vs.toArray } → IntsAre vs ns → ns.length ≤ n → s₁.gens = #[] →
      codeAny (model l.prog w) callerA (.call (.ref fa) ⟨[.ref a], []⟩) (fun r s' => r = .ok (.ret (.bool true)) ∧ OldK s₁.heap s'.heap ∧ s'.os = s₁.os ∧ AllBare s'.gens) s₁) :
    WalkO q loose XP YP l.row.toRowW d [] (fun f vs => PySem.call f vs) := by
  intro w s₀ s₁ mg mb G Y fa o pm cd doc dV kV ho hd hcd hD hmg hg args vals as hpre hlay hrd hwl hlo
  obtain rfl : dV = .none := Dflts.none hD hdf
  obtain rfl : kV = .none := Dflts.noKw hD
  obtain ⟨a, vs, ns, rfl, rfl, hobj, hints, hlen⟩ := script_of hn hpre hwl
  refine enter_call (codeAny_mono (call w s₀ s₁ mg mb fa o pm cd doc a vs ns G Y ho (fd_plain hd) hcd hmg hobj hints hlen hg) fun r s' hq => ?_)
  obtain ⟨rfl, h2, h3, h4⟩ := hq
  exact ⟨.inl ⟨.bool true, .bool true, [], rfl, fun _ => rfl, .bool true, post_true l _, fun _ => ⟨List.Pairwise.nil, fun _ hm => (nomatch hm)⟩⟩, h2, h3, h4⟩

/-! ### rules over ANY heap (no ledger) from facts about the written part K: the library's own take a ledger (News) for what they write -/
section
variable {prog : Program} {w : World} {A : Around} {E : Value → Shared → Prop} {s : Shared} {K : Frag}

/-! the whole heap as the ledger: makes every rule that writes through a ledger a rule over any heap -/
def noObjs (h : Heap) : Heap := { h with objs := #[] }
def ledger (h : Heap) (L d : Addr) : List (Addr × Obj) := (List.range h.objs.size).filterMap fun a => if a = L ∨ a = d then none else (h.get? a).map fun o => (a, o)
end
end Att

namespace L2
open PySem PySem.Spec PyProof.Rows

theorem vals_ints : ∀ {vs : List Value} {ns : List Int}, IntsAre vs ns → Vals (ns.map V.int) vs
  | _, _, .nil => .nil
  | _, _, .cons n t h => .cons ⟨t, rfl⟩ (vals_ints h)

/-- nothing is tracked but the script, known to the object (or it is an object of the module) -/
def Only (H : Hp) : Prop := ∀ b, H b = none ∨ ∃ o xs, H b = some (.frz o (.lst xs))

/-- THE HEAD: the law's promise, at the heap behind the top. F, the promise of the law's def, may use that base is part of the heap (so K.In base, base.Ns mainGlobals mg stand in Mod) -/
theorem law_call {P : Program} {w : World} {K : PySem.W.Frag} {mg mb : Str → Option Value} {CX : CXT} {k : Nat} {fa a : Addr} {fd : FuncData} {x : Str} {sp : Sp} {s₁ : Shared} {vs : List Value} {ns : List Int}
    (KX : K.In s₁.heap) (hns : s₁.heap.Ns mainGlobals mg) (hb : s₁.heap.Ns builtinsNs mb) (hbb : ∀ x : Str, x ≠ "__name__" → mb x = bootBuiltins x) (hlim : s₁.heap.NoLimit) (hg : s₁.gens = #[])
    (ha : s₁.heap.get? a = some { cls := .type "list", data := .seq vs.toArray }) (hi : IntsAre vs ns) (hl : ns.length ≤ sizeLine) (hr : Room k callerA)
    (F : ∀ base : Heap, K.In base → base.Ns mainGlobals mg → FnOk P w K mg base CX k fa fd [x] sp) (hbind : ∀ (s : Shared) (u : Value), BindsTo s fd ⟨[u], []⟩ [(x, u)])
    (hsp : ∀ H : Hp, Only H → SqL K H a (ns.map V.int) → sp [.ref a] H (fun v _ => v = .bl true) fun _ _ _ => False)
    (hCX : ∀ H e s', CX [] H s₁ (fun _ _ _ => False) e s' → False) :
    codeAny (model P w) callerA (.call (.ref fa) ⟨[.ref a], []⟩) (fun r s' => r = .ok (.ret (.bool true)) ∧ OldK s₁.heap s'.heap ∧ s'.os = s₁.os ∧ AllBare s'.gens) s₁ := by
  have rv := vals_ints hi
  have lenV := hi.length
  -- from an abstract heap in which nothing but the script may be tracked
  have core : ∀ H : Hp, Only H → SqL K H a (ns.map V.int) → HOk P w H s₁.heap → (∀ b, H b ≠ none → b = a) → (H a ≠ none → K.lookup a = none) →
      codeAny (model P w) callerA (.call (.ref fa) ⟨[.ref a], []⟩) (fun r s' => r = .ok (.ret (.bool true)) ∧ OldK s₁.heap s'.heap ∧ s'.os = s₁.os ∧ AllBare s'.gens) s₁ := by
    intro H hO hS hok hA hK
    have base_of : ∀ {b : Addr} {o : Obj}, s₁.heap.get? b = some o → H b = none → (hidT s₁.heap H).get? b = some o := fun e n => hidT_get e n
    have noA : ∀ {b : Addr} {o : Obj} {es : Array DictEntry} {ep : Nat}, s₁.heap.get? b = some o → o.data = .dict es ep → H b = none := fun {b o es ep} e d => by
      cases q : H b with
      | none => rfl
      | some u =>
        have e' : b = a := hA b (by rw [q]; simp)
        subst e'
        rw [ha] at e; cases e
        have d' : Data.seq vs.toArray _ = Data.dict es ep := d
        cases d'
    have nsK : ∀ {b : Addr} {m : Str → Option Value}, s₁.heap.Ns b m → (hidT s₁.heap H).Ns b m := fun {b m} ⟨o, es, ep, e, d, r⟩ => ⟨o, es, ep, base_of e (noA e d), d, r⟩
    have hKb : K.In (hidT s₁.heap H) := fun b o e => base_of (KX b o e) (by
      cases q : H b with
      | none => rfl
      | some u =>
        have e' : b = a := hA b (by rw [q]; simp)
        subst e'
        rw [hK (by rw [q]; simp)] at e; cases e)
    have hM : Mod K mg (hidT s₁.heap H) := ⟨hKb, nsK hns, ⟨mb, nsK hb, hbb⟩, let ⟨mc, h1, h2⟩ := hlim; ⟨mc, nsK h1, h2⟩⟩
    have e0 : Env0 P w K mg (hidT s₁.heap H) callerA [] s₁ H := ⟨rfl, hM, fun b o e => of_hidT e, Nat.le_of_eq (hidT_size _ _), trivial, fun b hb => absurd (show b ∈ ([] : List Addr) from hb) (by simp), hok, .of_eq hg⟩
    refine codeAny_mono ((F _ hKb (nsK hns)).run callerA [] s₁ H ⟨[.ref a], []⟩ [.ref a] [.ref a] _ _ hr e0 (hbind s₁ (.ref a)) (.cons rfl .nil) (hsp H hO hS)) fun r s' h => ?_
    cases r with
    | error e => exact (hCX H e s' h).elim
    | ok fl =>
      cases fl with
      | next => exact False.elim h
      | brk => exact False.elim h
      | cont => exact False.elim h
      | ret u =>
        obtain ⟨v, H', os, bare, un, hok', r', q⟩ := h
        have q' : v = .bl true := q
        subst q'
        obtain rfl : u = Value.bool true := r'
        refine ⟨rfl, OldK.of_keep fun b o e => ?_, os, bare⟩
        cases q : H b with
        | none => exact un.keep b o e q (by intro z; exact absurd (show b ∈ ([] : List Addr) from z) (by simp)) (by simp)
        | some u =>
          rcases hO b with z | ⟨ob, xs, z⟩
          · rw [q] at z; cases z
          · have z2 := un.frzs b ob _ z
            obtain ⟨e1, _⟩ := hok b _ z
            obtain ⟨e2, _⟩ := hok' b _ z2
            rw [e] at e1; cases e1
            exact e2
  cases hk : K.lookup a with
  | some o =>
    -- the script is one of the module's own objects
    have e := KX a o hk
    rw [ha] at e
    cases e
    refine core (fun _ => none) (fun _ => .inl rfl) (.inr ⟨_, vs.toArray, _, hk, rfl, rfl, rfl, by rw [List.size_toArray, lenV]; exact hl, by simpa using rv⟩) (fun b u z => by have z' : (none : Option HO) = some u := z; cases z') (fun b z => absurd rfl z) fun z => absurd rfl z
  | none =>
    refine core (fun b => if b = a then some (.frz { cls := .type "list", data := .seq vs.toArray } (.lst (ns.map V.int))) else none) (fun b => ?_) (.inl (.inr ⟨{ cls := .type "list", data := .seq vs.toArray }, if_pos rfl⟩)) (fun b u z => ?_) (fun b z => ?_) fun _ => hk
    · by_cases hb : b = a
      · exact .inr ⟨_, _, if_pos hb⟩
      · exact .inl (if_neg hb)
    · by_cases hb : b = a
      · have z' := (if_pos hb).symm.trans z
        cases z'
        subst hb
        exact ⟨ha, by rw [List.length_map]; exact hl, vs, _, rv, ha⟩
      · have z' := (if_neg hb).symm.trans z
        cases z'
    · by_cases hb : b = a
      · exact hb
      · exact absurd (if_neg hb) z
end L2

namespace L2
open PySem PySem.Spec PyProof.Rows

abbrev KOf {K : PySem.W.Frag} {h : Heap} (_ : K.In h) : PySem.W.Frag := K

/-- the goal that k_head leaves (case hc), from the law's promise. F gives the function object fd (K's own) once, then the promise over every base -/
theorem walk_of {l : PySem.W.OpenLaw} {n k : Nat} {q : Program} {loose : List Str} {XP : (Str → Option Value) → Heap → Prop} {YP : World → Heap → Prop} {d : DefRec} {K : Params → PySem.W.Frag} {CX : World → CXT} {sp : World → Sp} {x : Str}
    (hn : l.most = some n) (hn2 : n ≤ sizeLine) (hdf : d.params.defaults = []) (hr : Room k callerA)
    (hY : ∀ (w : World) (h : Heap), YP w h → (K w.params).In h)
    (F : ∀ (w : World) (mg : Str → Option Value) (fa : Addr) (h : Heap), (K w.params).In h → h.Ns mainGlobals mg → mg d.name = some (.ref fa) →
      ∃ fd : FuncData, (∀ (s : Shared) (u : Value), BindsTo s fd ⟨[u], []⟩ [(x, u)]) ∧
        ∀ base : Heap, (K w.params).In base → base.Ns mainGlobals mg → FnOk l.prog w (K w.params) mg base (CX w) k fa fd [x] (sp w))
    (hsp : ∀ (w : World) (H : Hp) (a : Addr) (ns : List Int), ns.length ≤ n → Only H → SqL (K w.params) H a (ns.map V.int) → sp w [.ref a] H (fun v _ => v = .bl true) fun _ _ _ => False)
    (hCX : ∀ (w : World) (H : Hp) (s : Shared) (e : Value) (s' : Shared), CX w [] H s (fun _ _ _ => False) e s' → False) :
    PySem.W.WalkO q loose XP YP l.row.toRowW d [] (fun f vs => PySem.call f vs) := by
  refine Att.attach_call hn hdf fun w s₀ s₁ mg mb fa o pm cd doc a vs ns G Y ho hd hcd hmg hobj hints hlen hg => ?_
  have KX := hY w _ Y
  obtain ⟨fd, hb, hF⟩ := F w mg fa _ KX G.T.g hmg
  exact law_call KX G.T.g G.T.b G.T.builtins G.T.nolimit hg hobj hints (Nat.le_trans hlen hn2) hr hF hb (fun H hO hS => hsp w H a ns hlen hO hS) fun H e s' => hCX w H s₁ e s'
end L2

/- THE LAST THEOREM (shape; LID, My.* are yours):
   My.Adr: a structure of the addresses that your layer names (classes, functions); My.Txt K t: a structure (Prop) of the equations over K;
   My.txt_mk : {K} {implicit addresses ..} (e1 : nsIn K mainGlobals "law" = some (some (.ref f))) (e2 : K.lookup f = some ⟨oc, od, .func (fnOf "law" "law" params body scope dV kV doc pm an cdv ct), sl⟩) (e3 : codeIn K cdv "law" = true) .. : ∃ t, My.Txt K t

set_option maxRecDepth 100000 in
set_option maxHeartbeats 0 in
theorem PySem.Challenge.cw_LID_holds : PySem.Challenge.rw_LID.Holds := by
  w_on; o_law; k_head; (case hw => w_witness2)
  k_fill
  refine L2.walk_of (l := PySem.Challenge.rw_LID) (n := 63) (k := 40) (x := "script") (CX := fun w => ..) (sp := fun _ => My.sp_law) rfl (by decide) rfl ⟨rfl, by decide, by decide⟩ (fun w h Y => PySem.W.kIn_of Y) ?F ?S ?C
  case F =>
    intro w mg fa h KX G hmg
    have T : ∃ t, My.Txt (L2.KOf KX) t := by
      dsimp only [L2.KOf]                          -- K must stand as «<heap const> w.params» for k_is
      refine' My.txt_mk ?e1 ?e2 ?e3 ..
      (case e1 => PySem.W.k_is)                    -- in the order: a name -> its address -> its object -> its parts
      (case e2 => PySem.W.k_is)
      ..
    obtain ⟨t, T⟩ := T
    have e0 := hmg.symm.trans (PySem.W.mg_of KX G T.law)
    cases e0                                       -- fa is the law's own address
    exact ⟨_, fun s u => .of_eq rfl, fun base kb nb => My.law_fn T kb nb⟩     -- if «.of_eq rfl» comes too early: refine' ⟨_, ?b, fun base kb nb => My.law_fn T kb nb⟩; exact fun s u => .of_eq rfl
  case S => exact fun w H a ns hl hO hS => ..
  case C => exact ..
(the tactic k_is has no namespace: write k_is) -/

/-! SHORT WORDS over the layer: a def of the text, its body, what a loop and a test want. -/
namespace L2
open PySem PySem.Spec PyProof.Rows

/-! ### the text by places -/
/-- the j-th statement of a class's body -/
def inClass (s : Stmt) (j : Nat) : Stmt := match s with
  | .ClassDef _ _ _ body _ _ _ _ _ _ _ => body.getD j (.Pass ⟨0, 0, 0, 0⟩)
  | _ => .Pass ⟨0, 0, 0, 0⟩
def defArgs (s : Stmt) : Arguments := match s with
  | .FunctionDef _ a _ _ _ _ _ _ _ _ => a
  | _ => { posonlyargs := [], args := [], vararg := none, kwonlyargs := [], kw_defaults := [], kwarg := none, defaults := [] }
def defBody (s : Stmt) : List Stmt := match s with
  | .FunctionDef _ _ b _ _ _ _ _ _ _ => b
  | _ => []
def defScope (s : Stmt) : Scope := match s with
  | .FunctionDef _ _ _ _ _ _ sc _ _ _ => sc
  | _ => { kind := .function, names := [], isGenerator := false, isCoroutine := false }

/-! ### no exception leaves a def -/
abbrev CX0 : CXT := fun _ _ _ _ _ _ => False
abbrev E0 : XK := fun _ _ _ => False
theorem pass0 {X : Cx} : Passes CX0 X E0 := fun _ _ _ _ _ _ _ h => h.elim

/-! ### a def (or method) of the text as it stands behind the top -/
structure Fun (K : PySem.W.Frag) (x qual : Str) (st : Stmt) (f : Addr) (fd : FuncData) : Prop where
  ex : ∃ (oc : Value) (od : Option Addr) (kV doc pm : Value) (an : Option Addr) (cdv ct : Value) (osl : Array (Option Value)),
    fd = PySem.W.fnOf x qual (defArgs st) (defBody st) (defScope st) .none kV doc pm an cdv ct ∧ K.lookup f = some ⟨oc, od, .func fd, osl⟩ ∧ PySem.W.codeIn K cdv qual = true
  kp : PySem.W.keepIn K (.ref f) = true
section
variable {P : Program} {w : World} {K : PySem.W.Frag} {mg : Str → Option Value} {base : Heap}
/-- THE RULE for a def: its body as a term of rules, and the reading of that term -/
theorem Fun.ok {x qual : Str} {st : Stmt} {f : Addr} {fd : FuncData} {N ps : List Str} {k : Nat} {sp : Sp} (F : Fun K x qual st f fd) (S : FnScope N ps (defScope st)) (len : ∀ vs H Q E, sp vs H Q E → vs.length = ps.length)
    (hbody : ∀ (cdv : Value) (A : Around) (outer : List Env) (s : Shared) (H : Hp) (vs : List V) (Q : VK) (E : XK), Room k (A.deeper (envOfC qual (defScope st) s.heap.objs.size f cdv)) → sp vs H Q E →
      ∃ t, PSs (cxOf CX0 P w K mg base N qual (defScope st) f cdv A outer s H E).nox (defBody st) t ∧ t { nx := fun _ H' => Q .non H', rt := Q } (start N vs) H) : FnOk P w K mg base CX0 (k + 1) f fd ps sp := by
  obtain ⟨oc, od, kV, doc, pm, an, cdv, ct, osl, rfl, lk, hcd⟩ := F.ex
  refine fn_of lk hcd S len fun A outer s H vs Q E hr hsp => ?_
  obtain ⟨t, h, q⟩ := hbody cdv A outer s H vs Q E hr hsp
  exact ⟨t, h.nox, q⟩
/-- how its arguments bind (no defaults): h is «fun _ _ _ _ _ _ us hl => match us, hl with | [_, _], _ => rfl», one _ a parameter -/
theorem Fun.binds {x qual : Str} {st : Stmt} {f : Addr} {fd : FuncData} {ps : List Str} (F : Fun K x qual st f fd)
    (h : ∀ (kV doc pm : Value) (an : Option Addr) (cdv ct : Value) (us : List Value), us.length = ps.length → bindArgs (PySem.W.fnOf x qual (defArgs st) (defBody st) (defScope st) .none kV doc pm an cdv ct) ⟨us, []⟩ = pure (ps.zip us)) : Binds K fd ps [] := by
  obtain ⟨oc, od, kV, doc, pm, an, cdv, ct, osl, rfl, lk, hcd⟩ := F.ex
  exact .all (h kV doc pm an cdv ct)
theorem fun_mk {x qual : Str} {st : Stmt} {f : Addr} {oc : Value} {od an : Option Addr} {osl : Array (Option Value)} {kV doc pm cdv ct : Value} (l : K.lookup f = some ⟨oc, od, .func (PySem.W.fnOf x qual (defArgs st) (defBody st) (defScope st) .none kV doc pm an cdv ct), osl⟩)
    (c : PySem.W.codeIn K cdv qual = true) (k : PySem.W.keepIn K (.ref f) = true) : Fun K x qual st f (PySem.W.fnOf x qual (defArgs st) (defBody st) (defScope st) .none kV doc pm an cdv ct) := ⟨⟨oc, od, kV, doc, pm, an, cdv, ct, osl, rfl, l, c⟩, k⟩
end
/-! ### expressions in short: the name that stands in the i-th slot -/
section
variable {X : Cx}
theorem pv (i : Nat) {x : Str} {pos : Pos} (hN : X.N[i]? = some x := by rfl) (hv : Vis X.env.scope x := by first | exact Or.inl rfl | exact Or.inr (Or.inl rfl) | exact Or.inr (Or.inr rfl)) (hd : (x == ("__debug__" : Str)) = false := by decide)
    (hcd : (x == ("__classdict__" : Str)) = false := by decide) : PE X (.Name x pos) (tVar i) := pe_var hN hv hd hcd
end

/-! ### tests -/
theorem ite2 {c A B : Prop} [Decidable c] (h1 : c → A) (h2 : ¬ c → B) : if c then A else B := by
  by_cases h : c
  · rw [if_pos h]
    exact h1 h
  · rw [if_neg h]
    exact h2 h
/-! ### heaps -/
/-- all that was tracked is as it was -/
def Same (H H' : Hp) : Prop := ∀ b o, H b = some o → H' b = some o
theorem Same.refl (H : Hp) : Same H H := fun _ _ h => h
theorem Same.trans {H H1 H2 : Hp} (a : Same H H1) (b : Same H1 H2) : Same H H2 := fun c o h => b c o (a c o h)
theorem Same.free {H H' : Hp} (e : Same H H') {l : Addr} (h : H' l = Option.none) : H l = Option.none := by
  cases q : H l with
  | none => rfl
  | some o =>
    rw [e l o q] at h
    cases h
theorem Same.seq {K : PySem.W.Frag} {H H' : Hp} {a : Addr} {xs : List V} (e : Same H H') (h : SqL K H a xs) : SqL K H' a xs := by
  rcases h with (h | ⟨o, h⟩) | h
  · exact .inl (.inl (e _ _ h))
  · exact .inl (.inr ⟨o, e _ _ h⟩)
  · exact .inr h

end L2
namespace L2
open PySem PySem.Spec PyProof.Rows

/-! ### the closure of a block -/
def closL (cells : List (Str × Addr)) : List (Str × NameKind) → List (Str × Addr) → List (Str × Addr)
  | [], acc => acc
  | (n, k) :: r, acc => if k == .free then closL cells r ((n, (cells.lookup n).getD 0) :: acc) else closL cells r acc
theorem closureFor_eq {env : Env} {scope : Scope} (h : ∀ n, (n, NameKind.free) ∈ scope.names → ∃ c, env.cells.lookup n = some c) :
    closureFor scope env = pure (closL env.cells scope.names []) := by
  have key : ∀ (names : List (Str × NameKind)) (acc : List (Str × Addr)), (∀ n, (n, NameKind.free) ∈ names → ∃ c, env.cells.lookup n = some c) →
      (forIn (m := Sem) names acc fun x r => match x with | (name, kind) => if (kind == NameKind.free) = true then (do let a ← cellOf env name; pure (ForInStep.yield ((name, a) :: r))) else pure (ForInStep.yield r)) = pure (closL env.cells names acc) := by
    intro names
    induction names with
    | nil => intro acc _; rfl
    | cons x r ih =>
      intro acc hx
      obtain ⟨n, k⟩ := x
      rw [List.forIn_cons]
      unfold closL
      by_cases hk : k = .free
      · subst hk
        obtain ⟨c, hc⟩ := hx n List.mem_cons_self
        simp only [beq_self_eq_true, if_true]
        have e : cellOf env n = pure c := by unfold cellOf; rw [hc]
        rw [e, hc]
        exact ih _ fun m hm => hx m (List.mem_cons_of_mem _ hm)
      · have hb : (k == NameKind.free) = false := by simpa using hk
        simp only [hb, Bool.false_eq_true, if_false]
        exact ih _ fun m hm => hx m (List.mem_cons_of_mem _ hm)
  unfold closureFor
  have := key scope.names [] h
  show ((forIn (m := Sem) scope.names [] fun x r => match x with | (name, kind) => if (kind == NameKind.free) = true then (do let a ← cellOf env name; pure (ForInStep.yield ((name, a) :: r))) else pure (ForInStep.yield r)) >>= fun cs => pure cs) = _
  rw [this]
  rfl
theorem cellsFrom_app : ∀ (names : List (Str × NameKind)) (n : Nat) (acc : List (Str × Addr)), cellsFrom n names acc = cellsFrom n names [] ++ acc
  | [], _, _ => rfl
  | (name, kind) :: r, n, acc => by
    unfold cellsFrom
    split
    · rw [cellsFrom_app r (n + 1) ((name, n) :: acc), cellsFrom_app r (n + 1) [(name, n)], List.append_assoc]; rfl
    · exact cellsFrom_app r n acc
/-- what the closure holds -/
theorem closL_lookup {cells : List (Str × Addr)} : ∀ (names : List (Str × NameKind)) (acc : List (Str × Addr)) (x : Str) (c : Addr), (closL cells names acc).lookup x = some c →
    (acc.lookup x = some c) ∨ ((x, NameKind.free) ∈ names ∧ c = (cells.lookup x).getD 0)
  | [], acc, x, c, h => .inl h
  | (n, k) :: r, acc, x, c, h => by
    unfold closL at h
    split at h
    · rename_i hk
      have hk' : k = .free := by simpa using hk
      subst hk'
      rcases closL_lookup r _ x c h with z | ⟨z, e⟩
      · rw [List.lookup_cons] at z
        cases hb : x == n with
        | true => rw [hb] at z; cases z; rw [beq_iff_eq.mp hb]; exact .inr ⟨List.mem_cons_self, rfl⟩
        | false => rw [hb] at z; exact .inl z
      · exact .inr ⟨List.mem_cons_of_mem _ z, e⟩
    · rcases closL_lookup r _ x c h with z | ⟨z, e⟩
      · exact .inl z
      · exact .inr ⟨List.mem_cons_of_mem _ z, e⟩
theorem closL_acc {cells : List (Str × Addr)} : ∀ (names : List (Str × NameKind)) (acc : List (Str × Addr)) (x : Str), (∃ c, acc.lookup x = some c) → ∃ c, (closL cells names acc).lookup x = some c
  | [], acc, x, h => h
  | (n, k) :: r, acc, x, h => by
    unfold closL
    split
    · refine closL_acc r _ x ?_
      obtain ⟨c, h⟩ := h
      rw [List.lookup_cons]
      cases hb : x == n with
      | true => exact ⟨_, rfl⟩
      | false => exact ⟨c, h⟩
    · exact closL_acc r _ x h
theorem closL_has {cells : List (Str × Addr)} : ∀ (names : List (Str × NameKind)) (acc : List (Str × Addr)) (x : Str), (x, NameKind.free) ∈ names → ∃ c, (closL cells names acc).lookup x = some c
  | [], acc, x, h => by simp at h
  | (n, k) :: r, acc, x, h => by
    unfold closL
    rcases List.mem_cons.mp h with e | h
    · cases e
      simp only [beq_self_eq_true, if_true]
      exact closL_acc r _ _ ⟨(cells.lookup n).getD 0, by rw [List.lookup_cons]; simp⟩
    · split
      · exact closL_has r _ x h
      · exact closL_has r _ x h
theorem cellsFrom_mem : ∀ (names : List (Str × NameKind)) (n : Nat) (acc : List (Str × Addr)) (x : Str) (c : Addr), (x, c) ∈ cellsFrom n names acc → (x, c) ∈ acc ∨ (x, NameKind.cell) ∈ names
  | [], _, _, _, _, h => .inl h
  | (name, kind) :: r, n, acc, x, c, h => by
    unfold cellsFrom at h
    split at h
    · rename_i hk
      have hk' : kind = .cell := by simpa using hk
      subst hk'
      rcases cellsFrom_mem r _ _ x c h with z | z
      · rcases List.mem_cons.mp z with e | z
        · cases e; exact .inr List.mem_cons_self
        · exact .inl z
      · exact .inr (List.mem_cons_of_mem _ z)
    · rcases cellsFrom_mem r _ _ x c h with z | z
      · exact .inl z
      · exact .inr (List.mem_cons_of_mem _ z)

/-! ### the env of a comprehension's block -/
/-- N, sc0: the names and the scope around; N', ixs: the block's names, each its own (none) or one of those around; sc: the block's scope -/
structure CompScope (N : List Str) (sc0 : Scope) (N' : List Str) (ixs : List (Option Nat)) (sc : Scope) : Prop where
  kind : sc.kind = .function
  keys : (sc.names.map (·.1)).Nodup
  nd : N'.Nodup
  len : ixs.length = N'.length
  fv : ∀ (j i : Nat), ixs[j]? = some (some i) → ∃ x, N[i]? = some x ∧ N'[j]? = some x ∧ sc.names.lookup x = some .free
  free : ∀ p ∈ sc.names, p.2 = .free → sc0.names.lookup p.1 = some .cell ∨ sc0.names.lookup p.1 = some .free

theorem lookup_of_mem {α : Type} : ∀ {l : List (Str × α)}, (l.map (·.1)).Nodup → ∀ {x : Str} {k : α}, (x, k) ∈ l → l.lookup x = some k
  | (n, v) :: r, hn, x, k, h => by
    obtain ⟨h1, h2⟩ := List.nodup_cons.mp hn
    rw [List.lookup_cons]
    rcases List.mem_cons.mp h with e | hm
    · cases e; simp
    · have : (x == n) = false := by
        rw [beq_eq_false_iff_ne]
        intro e
        exact h1 (List.mem_map.mpr ⟨_, hm, e⟩)
      rw [this]
      exact lookup_of_mem h2 hm

def compEnv2 (scope : Scope) (L : Addr) (env : Env) : Env :=
  { scope := relabel scope env, locals := L, globals := env.globals, cells := cellsFrom (L + 1) scope.names (closL env.cells scope.names []), qual := env.qual, func := none, code := env.code, frame := env.frame, builtins := env.builtins }

theorem newEnv_comp {M : Model} {A : Around} {E : Value → Shared → Prop} {s : Shared} {scope : Scope} {globals : Addr} {cl : List (Str × Addr)} {qual : Str} {env : Env} {Q : Env → Shared → Prop}
    (hQ : ∀ h', h'.Ns s.heap.objs.size (fun _ => none) → (∀ b o, s.heap.get? b = some o → h'.get? b = some o) → (∀ x c, (x, c) ∈ cellsFrom (s.heap.objs.size + 1) scope.names [] → h'.IsCell c none ∧ s.heap.objs.size < c) →
      ((cellsFrom (s.heap.objs.size + 1) scope.names []).Pairwise fun x y => x.2 ≠ y.2) →
      Q { scope := scope, locals := s.heap.objs.size, globals := globals, cells := cellsFrom (s.heap.objs.size + 1) scope.names cl, qual := qual, func := none, code := env.code, frame := env.frame, builtins := env.builtins } { s with heap := h' }) :
    wpAny M A (newFunctionEnv scope globals cl [] qual none .none (some env)) Q E s := by
  simp only [newFunctionEnv, Option.isSome_some, if_true]
  refine wpAny_bind (wpAny_alloc ?_)
  refine wpAny_bind (wpAny_layCells _ (fun name kind cells => by cases hkc : kind == NameKind.cell <;> simp [hkc]) _ _ _ _ ?_)
  have ok := cellsFrom_ok scope.names (s.heap.push { cls := .type "dict", data := .dict #[] }) (s.heap.objs.size + 1) [] ⟨fun _ _ hm => (nomatch hm), List.Pairwise.nil⟩ (by rw [Heap.size_push]; exact Nat.le_refl _)
  rw [Heap.size_push] at ok
  rw [show ({ s with heap := s.heap.push { cls := .type "dict", data := .dict #[] } } : Shared).heap.objs.size = s.heap.objs.size + 1 from Heap.size_push ..]
  rw [List.forIn_nil]
  refine wpAny_bind (wpAny_pure (wpAny_pure ?_))
  exact hQ _ ((Heap.Ns.new s.heap (.type "dict")).keeps (pushCells_keeps _ _)) (fun b o e => pushCells_keeps _ _ b o (Heap.get?_push_of_some _ e)) (fun x c hm => ⟨(ok.empty x c hm).1, (ok.empty x c hm).2⟩) ok.apart

/-- the context of a comprehension's block, at its entry: s2, H2 just ahead of its env -/
def cxComp (X : Cx) (N' : List Str) (scope : Scope) (s2 : Shared) (H2 : Hp) (fp : List Addr) : Cx :=
  { X with N := N', s₀ := s2, H₀ := H2, env := compEnv2 scope s2.heap.objs.size X.env, outer := X.stack, stack := X.stack, ex := fp, fn := fun x => scope.names.lookup x == some .cell, pn := [], xe := fun _ _ => False }
theorem lookup_relabel {env : Env} : ∀ {names : List (Str × NameKind)} {x : Str} {k : NameKind},
    (names.map fun (n, k) => if (k == NameKind.free && env.scope.kind == .function && env.kindOf n == some .cell) then (n, NameKind.cell) else (n, k)).lookup x = some k →
    ∃ k0, names.lookup x = some k0 ∧ (k = k0 ∨ (k0 = .free ∧ k = .cell))
  | [], _, _, h => by simp at h
  | (n, k0) :: r, x, k, h => by
    have ih := @lookup_relabel env r x k
    have h' : List.lookup x ((if (k0 == NameKind.free && env.scope.kind == .function && env.kindOf n == some .cell) = true then (n, NameKind.cell) else (n, k0)) :: _) = some k := h
    rw [List.lookup_cons]
    by_cases hc : (k0 == NameKind.free && env.scope.kind == .function && env.kindOf n == some .cell) = true
    · rw [if_pos hc, List.lookup_cons] at h'
      cases hx : x == n with
      | true =>
        rw [hx] at h'; cases h'
        have : k0 = .free := by
          have z := hc
          rw [Bool.and_eq_true, Bool.and_eq_true] at z
          simpa using z.1.1
        exact ⟨k0, rfl, .inr ⟨this, rfl⟩⟩
      | false => rw [hx] at h'; exact ih h'
    · rw [if_neg hc, List.lookup_cons] at h'
      cases hx : x == n with
      | true => rw [hx] at h'; cases h'; exact ⟨k0, rfl, .inl rfl⟩
      | false => rw [hx] at h'; exact ih h'
theorem lookup_relabel_of {env : Env} : ∀ {names : List (Str × NameKind)} {x : Str}, names.lookup x = some .free →
    (names.map fun (n, k) => if (k == NameKind.free && env.scope.kind == .function && env.kindOf n == some .cell) then (n, NameKind.cell) else (n, k)).lookup x = some .cell ∨
    (names.map fun (n, k) => if (k == NameKind.free && env.scope.kind == .function && env.kindOf n == some .cell) then (n, NameKind.cell) else (n, k)).lookup x = some .free
  | [], _, h => by simp at h
  | (n, k0) :: r, x, h => by
    have ih := @lookup_relabel_of env r x
    show List.lookup x ((if (k0 == NameKind.free && env.scope.kind == .function && env.kindOf n == some .cell) = true then (n, NameKind.cell) else (n, k0)) :: _) = _ ∨ List.lookup x ((if (k0 == NameKind.free && env.scope.kind == .function && env.kindOf n == some .cell) = true then (n, NameKind.cell) else (n, k0)) :: _) = _
    rw [List.lookup_cons] at h
    cases hx : x == n with
    | true =>
      rw [hx] at h; cases h
      by_cases hc : (NameKind.free == NameKind.free && env.scope.kind == .function && env.kindOf n == some .cell) = true
      · rw [if_pos hc, List.lookup_cons, hx]; exact .inl rfl
      · rw [if_neg hc, List.lookup_cons, hx]; exact .inr rfl
    | false =>
      rw [hx] at h
      by_cases hc : (k0 == NameKind.free && env.scope.kind == .function && env.kindOf n == some .cell) = true
      · rw [if_pos hc, List.lookup_cons, hx]; exact ih h
      · rw [if_neg hc, List.lookup_cons, hx]; exact ih h
def pick (ixs : List (Option Nat)) (σ : St) : St := ixs.map fun o => o.bind fun i => (σ[i]?).join
section
variable {X : Cx} {pins : List (Addr × Obj)} {σ : St} {H : Hp} {s2 : Shared} {N' : List Str} {ixs : List (Option Nat)} {scope : Scope} {fp : List Addr} {h' : Heap}
theorem comp_free (I : Inv X pins σ H s2) (S : CompScope X.N X.env.scope N' ixs scope) {x : Str} (hx : (x, NameKind.free) ∈ scope.names) : ∃ c, X.env.cells.lookup x = some c :=
  I.ok.has x (S.free _ hx rfl)
theorem comp_cells (I : Inv X pins σ H s2) (S : CompScope X.N X.env.scope N' ixs scope) {n : Nat} {x : Str} {c : Addr} (h : (cellsFrom n scope.names (closL X.env.cells scope.names [])).lookup x = some c) :
    ((x, c) ∈ cellsFrom n scope.names [] ∧ (x, NameKind.cell) ∈ scope.names) ∨ ((x, NameKind.free) ∈ scope.names ∧ X.env.cells.lookup x = some c) := by
  rw [cellsFrom_app, List.lookup_append] at h
  cases e : (cellsFrom n scope.names []).lookup x with
  | some d =>
    rw [e] at h
    have z : d = c := by simpa using h
    subst z
    have m := PySem.mem_of_lookup e
    rcases cellsFrom_mem _ _ _ _ _ m with z | z
    · simp at z
    · exact .inl ⟨m, z⟩
  | none =>
    rw [e] at h
    have h' : (closL X.env.cells scope.names []).lookup x = some c := by simpa using h
    rcases closL_lookup _ _ _ _ h' with z | ⟨z, e2⟩
    · simp at z
    · obtain ⟨c0, h0⟩ := comp_free I S z
      rw [h0] at e2
      exact .inr ⟨z, by rw [h0, e2]; rfl⟩
theorem inv_comp (I : Inv X pins σ H s2) (S : CompScope X.N X.env.scope N' ixs scope) (hfp : ∀ b ∈ fp, FpOk X pins H b) (hfo : ∀ b ∈ fp, ∃ o, s2.heap.get? b = some o)
    (hn : h'.Ns s2.heap.objs.size (fun _ => none)) (hk : ∀ b o, s2.heap.get? b = some o → h'.get? b = some o)
    (hc : ∀ x c, (x, c) ∈ cellsFrom (s2.heap.objs.size + 1) scope.names [] → h'.IsCell c none ∧ s2.heap.objs.size < c) (hp : (cellsFrom (s2.heap.objs.size + 1) scope.names []).Pairwise fun x y => x.2 ≠ y.2) :
    Inv (cxComp X N' scope s2 H fp) [] (pick ixs σ) H { s2 with heap := h' } := by
  have old : ∀ {x : Str} {c : Addr}, X.env.cells.lookup x = some c → c < s2.heap.objs.size := fun {x c} e => let ⟨_, q⟩ := I.cell x c e; q.lt
  have cc : ∀ {x : Str} {c : Addr}, (cxComp X N' scope s2 H fp).env.cells.lookup x = some c → ((x, c) ∈ cellsFrom (s2.heap.objs.size + 1) scope.names [] ∧ (x, NameKind.cell) ∈ scope.names) ∨ ((x, NameKind.free) ∈ scope.names ∧ X.env.cells.lookup x = some c) :=
    fun {x c} e => comp_cells I S e
  have isc : ∀ {x : Str} {c : Addr}, (cxComp X N' scope s2 H fp).env.cells.lookup x = some c → ∃ v, h'.IsCell c v := fun {x c} e => by
    rcases cc e with ⟨m, _⟩ | ⟨_, e0⟩
    · exact ⟨_, (hc x c m).1⟩
    · obtain ⟨v, q⟩ := I.cell x c e0
      exact ⟨v, q.keeps hk⟩
  have flt : ∀ b ∈ fp, b < s2.heap.objs.size := fun b hb => let ⟨_, e⟩ := hfo b hb; Heap.lt_size e
  refine ⟨⟨I.ok.mod, S.kind, I.ok.glob, I.ok.blt, Nat.le_refl _, fun x y c e1 e2 => ?_, fun x hx => ?_, fun x c hx e => ?_, I.ok.hd, I.ok.frames, .inl rfl, fun b hb => ⟨Nat.ne_of_lt (flt b hb), fun x c e z => ?_⟩, I.bs, ?_, fun b o e hb => ?_, fun b hb hb2 => ?_, I.stack, I.stkFree⟩,
    rfl, I.bare, Un.kept hk, ⟨_, hn, fun j x v e1 e2 e3 => ?_⟩, fun x c e => isc e, I.hok.fresh (Nat.le_refl _), fun x c e => ?_, fun p hp => absurd (show p ∈ ([] : List (Addr × Obj)) from hp) (by simp), I.hok.kept hk, ?_⟩
  · rcases cc e1 with ⟨m1, _⟩ | ⟨_, o1⟩ <;> rcases cc e2 with ⟨m2, _⟩ | ⟨_, o2⟩
    · exact name_of_addr hp m1 m2
    · exact absurd (Nat.lt_trans (hc _ _ m1).2 (old o2)) (Nat.lt_irrefl _)
    · exact absurd (Nat.lt_trans (hc _ _ m2).2 (old o1)) (Nat.lt_irrefl _)
    · exact I.ok.inj x y c o1 o2
  · have hk0 : ∃ k0, scope.names.lookup x = some k0 ∧ (k0 = .cell ∨ k0 = .free) := by
      rcases hx with hx | hx
      · obtain ⟨k0, e, z⟩ := lookup_relabel (env := X.env) hx
        refine ⟨k0, e, ?_⟩
        rcases z with z | z
        · exact .inl z.symm
        · exact .inr z.1
      · obtain ⟨k0, e, z⟩ := lookup_relabel (env := X.env) hx
        refine ⟨k0, e, ?_⟩
        rcases z with z | z
        · exact .inr z.symm
        · exact .inr z.1
    obtain ⟨k0, e, z⟩ := hk0
    show ∃ c, (cellsFrom (s2.heap.objs.size + 1) scope.names (closL X.env.cells scope.names [])).lookup x = some c
    rw [cellsFrom_app, List.lookup_append]
    rcases z with rfl | rfl
    · obtain ⟨c, hc'⟩ := cell_has (n := s2.heap.objs.size + 1) e
      exact ⟨c, by rw [hc']; rfl⟩
    · cases q : (cellsFrom (s2.heap.objs.size + 1) scope.names []).lookup x with
      | some d => exact ⟨d, rfl⟩
      | none =>
        obtain ⟨c, hc'⟩ := closL_has (cells := X.env.cells) scope.names [] x (PySem.mem_of_lookup e)
        exact ⟨c, by rw [hc']; rfl⟩
  · have hx' : scope.names.lookup x = some .cell := by simpa [cxComp] using hx
    rcases cc e with ⟨m, _⟩ | ⟨m, _⟩
    · exact Nat.le_of_lt (hc _ _ m).2
    · rw [lookup_of_mem S.keys m] at hx'; cases hx'
  · rcases cc e with ⟨m, _⟩ | ⟨_, o1⟩
    · have := flt b hb
      rw [← z] at this
      exact absurd (Nat.lt_trans (hc _ _ m).2 this) (Nat.lt_irrefl _)
    · exact (hfp b hb).2.2.2.2.1 x c o1 z
  · exact Nat.le_trans I.ok.bsz I.sz
  · rcases (hfp b hb).2.2.2.1 with z | z
    · exact I.ok.noex b o e z
    · exact absurd (Nat.lt_of_lt_of_le (Heap.lt_size (I.ok.bs b o e).1) z) (Nat.lt_irrefl _)
  · have := I.stkSub b hb2
    rcases List.mem_cons.mp this with z | z
    · exact (hfp b hb).2.1 z
    · exact (hfp b hb).2.2.1 z
  · -- the names around
    have e2' : (ixs[j]?).bind (fun o => some (o.bind fun i => (σ[i]?).join)) = some (some v) := by
      have e2a : (ixs.map fun o => o.bind fun i => (σ[i]?).join)[j]? = some (some v) := e2
      rw [List.getElem?_map] at e2a
      cases q : ixs[j]? with
      | none => rw [q] at e2a; cases e2a
      | some o => rw [q] at e2a; exact e2a
    cases q : ixs[j]? with
    | none => rw [q] at e2'; cases e2'
    | some o =>
      rw [q] at e2'
      cases o with
      | none => simp at e2'
      | some i =>
        have e3' : (σ[i]?).join = some v := by simpa using e2'
        have e4 : σ[i]? = some (some v) := by
          cases q2 : σ[i]? with
          | none => rw [q2] at e3'; cases e3'
          | some z => rw [q2] at e3'; rw [show z = some v from e3']
        obtain ⟨y, hy1, hy2, hy3⟩ := S.fv j i q
        have exy : x = y := by
          have e1' : N'[j]? = some x := e1
          rw [hy2] at e1'; exact (Option.some.inj e1').symm
        subst exy
        obtain ⟨m, hm, hl⟩ := I.loc
        have hf := S.free _ (PySem.mem_of_lookup hy3) rfl
        obtain ⟨u, r, lk⟩ := hl i x v hy1 e4 (by rcases hf with z | z; exact .inr (.inl z); exact .inr (.inr z))
        refine ⟨u, r, .inr ⟨lookup_relabel_of hy3, ?_⟩⟩
        rcases lk with ⟨k, _⟩ | ⟨_, c, ec, ic⟩
        · have k' : X.env.scope.names.lookup x = some .local := k
          rcases hf with z | z <;> (rw [z] at k'; cases k')
        · refine ⟨c, ?_, ic.keeps hk⟩
          show (cellsFrom (s2.heap.objs.size + 1) scope.names (closL X.env.cells scope.names [])).lookup x = some c
          rw [cellsFrom_app, List.lookup_append]
          cases q3 : (cellsFrom (s2.heap.objs.size + 1) scope.names []).lookup x with
          | some d =>
            rcases cellsFrom_mem _ _ _ _ _ (PySem.mem_of_lookup q3) with z | z
            · simp at z
            · rw [lookup_of_mem S.keys z] at hy3; cases hy3
          | none =>
            obtain ⟨c', hc'⟩ := closL_has (cells := X.env.cells) scope.names [] x (PySem.mem_of_lookup hy3)
            rcases closL_lookup _ _ _ _ hc' with z | ⟨_, e5⟩
            · simp at z
            · rw [ec] at e5
              rw [hc', e5]; rfl
  · rcases cc e with ⟨m, _⟩ | ⟨_, o1⟩
    · exact I.hok.fresh (Nat.le_of_lt (hc _ _ m).2)
    · exact I.freeC x c o1
  · show (ixs.map _).length = N'.length
    rw [List.length_map, S.len]
end
end L2
namespace L2
open PySem PySem.Spec PyProof.Rows

/-! ### the tests of a comprehension -/
def PIfs (X : Cx) (ifs : List Expr) (t : TT) : Prop :=
  ∀ (pins : List (Addr × Obj)) (s : Shared) (σ : St) (H : Hp) (Q : Bool → Hp → Prop), Inv X pins σ H s → t σ H Q →
    wpAny (model X.prog X.w) X.A (forIn ifs true fun c r => if r = true then do let ok ← isTrue c X.env (eval c X.env); pure (ForInStep.yield ok) else pure (ForInStep.yield r)) (TP X pins σ Q) X.xe s
def tTrue : TT := fun _ H Q => Q true H
section
variable {X : Cx}
theorem pifs_nil : PIfs X [] tTrue := fun _ _ _ H _ I h => wpAny_tests_nil ⟨H, I, h⟩
theorem pifs_one {c : Expr} {t : TT} (h : PT X c t) : PIfs X [c] t := fun pins s σ H Q I hw => wpAny_tests_one (h pins s σ H Q I hw)
end

/-! ### a turn of a comprehension of a list -/
theorem codeAny_compLoop2 {prog : Program} {w : World} {A : Around} {R : Result → Shared → Prop} {s : Shared} {elt target iter : Expr} {ifs : List Expr} {scope : Scope} {pos : Pos} {it acc : Value} {env : Env} (I : Nat → Shared → Prop)
    (turn : ∀ n s, I n s → wpAny (model prog w) A (pyNext it) (fun r s1 => match r with
      | none => R (.ok .next) s1
      | some v => wpAny (model prog w) A (letOwnedTupleGo target it v) (fun _ s2 => wpAny (model prog w) A (assign target env v) (fun _ s3 =>
          wpAny (model prog w) A (forIn ifs true fun c r => if r = true then do let ok ← isTrue c env (eval c env); pure (ForInStep.yield ok) else pure (ForInStep.yield r)) (fun ok s4 =>
            if ok = true then wpAny (model prog w) A (eval elt env) (fun x s5 =>
              wpAny (model prog w) A (call (.builtin "list.append") [acc, x]) (fun _ s6 => ∃ m, m < n ∧ I m s6) (fun _ _ => False) s5) (fun _ _ => False) s4
            else ∃ m, m < n ∧ I m s4) (fun _ _ => False) s3) (fun _ _ => False) s2) (fun _ _ => False) s1) (fun _ _ => False) s)
    (n : Nat) (h : I n s) :
    codeAny (model prog w) A (.compLoop (.ListComp elt [⟨target, iter, ifs, 0⟩] scope pos) 0 it acc env) R s := by
  refine codeAny_loop rfl I (fun n s hI => ?_) n h
  show wpAny _ A ((compTurn (.ListComp elt [⟨target, iter, ifs, 0⟩] scope pos) 0 it acc env).onRaise (fun x => do noteFrame x env; theTreesLotGoes x)) _ _ s
  refine wpAny_noted (wpAny_noRaise ?_)
  rw [compTurn_list]
  refine wpAny_bind (wpAny_standAt (wpAny_bind (thn (turn n s hI) fun r s1 h1 => ?_)))
  cases r with
  | none => exact wpAny_pure h1
  | some v =>
    refine wpAny_bind (thn h1 fun _ s2 h2 => wpAny_bind (thn h2 fun _ s3 h3 => wpAny_bind (thn h3 fun ok s4 h4 => ?_)))
    cases ok with
    | false => exact wpAny_pure ⟨rfl, h4⟩
    | true => exact wpAny_bind (wpAny_bind (thn h4 fun x s5 h5 => wpAny_bind (thn h5 fun _ s6 h6 => wpAny_pure (wpAny_pure ⟨rfl, h6⟩))))

/-- the reading of a comprehension's block, its iterator J at hand, the list it fills at p -/
def CompW (J : It) (g : TG) (ti : TT) (te : TE) (τ0 : St) (Q : VK) (p : Addr) (H1 : Hp) : Prop :=
  ∃ W : Nat → Nat → List V → St → Hp → Prop, (∃ m, W 0 m [] τ0 (upd H1 p (.lst []))) ∧ ∀ i m ys τ H2, W i m ys τ H2 → H2 p = some (.lst ys) ∧
    ((J.stop i H2 ∧ Q (.ref p) H2) ∨ (J.go i H2 ∧ ∀ x H3, J.yld i H2 x H3 → g x τ H3 fun τ4 H4 => ti τ4 H4 fun b H5 =>
      if b = true then te τ4 H5 fun y H6 => H6 p = some (.lst ys) ∧ ys.length < sizeLine ∧ ∃ m', m' < m ∧ W (i + 1) m' (ys ++ [y]) τ4 (upd H6 p (.lst (ys ++ [y])))
      else ∃ m', m' < m ∧ W (i + 1) m' ys τ4 H5))
def tComp (wi : TI) (ixs : List (Option Nat)) (g : TG) (ti : TT) (te : TE) : TE := fun σ H Q => wi σ H fun J H1 => ∀ p, H1 p = none → CompW J g ti te (pick ixs σ) Q p H1

section
variable {X : Cx} {pins : List (Addr × Obj)} {σ : St} {H2 : Hp} {s2 : Shared} {N' : List Str} {ixs : List (Option Nat)} {scope : Scope} {tg elt iter : Expr} {ifs : List Expr} {pos : Pos}
/-- behind the block: the state is the outer one's, the block's own dict at C is nobody's -/
def CompEnd (X : Cx) (pins : List (Addr × Obj)) (σ : St) (Q : VK) (acc : Value) (C : Addr) (s' : Shared) : Prop :=
  ∃ (p : Addr) (H' : Hp), acc = .ref p ∧ Inv X pins σ H' s' ∧ FpOk X pins H' C ∧ (∃ m, s'.heap.Ns C m) ∧ Q (.ref p) H'
theorem comp_core {J : It} {fp : List Addr} {it : Addr} {tn : Nat → Heap → Prop} {g : TG} {ti : TT} {te : TE} {Q : VK} {E : Value → Shared → Prop} {RR : Value → Addr → Result → Shared → Prop} (hc : X.calm = true) (S : CompScope X.N X.env.scope N' ixs scope)
    (I2 : Inv X pins σ H2 s2) (T : Turn X.prog X.w X.K tg J fp it tn) (st : tn 0 s2.heap) (hf : ∀ b ∈ fp, FpOk X pins H2 b)
    (hb : ∀ s H fp, PG (cxComp X N' scope s H fp) tg g ∧ PIfs (cxComp X N' scope s H fp) ifs ti ∧ PE (cxComp X N' scope s H fp) elt te)
    (hw : ∀ p, H2 p = none → CompW J g ti te (pick ixs σ) Q p H2) (hR : ∀ acc C s', CompEnd X pins σ Q acc C s' → RR acc C (.ok .next) s') :
    wpAny (model X.prog X.w) X.A (newList []) (fun acc s3 => wpAny (model X.prog X.w) X.A (newFunctionEnv scope X.env.globals (closL X.env.cells scope.names []) [] X.env.qual none .none (some X.env)) (fun cenv s4 =>
      codeAny (model X.prog X.w) X.A (.compStart (.ListComp elt [⟨tg, iter, ifs, 0⟩] scope pos) 0 (.ref it) acc { cenv with scope := relabel scope X.env }) (RR acc cenv.locals) s4) E s3) E s2 := by
  refine wpAny_newObj_type ?_
  have I3 : Inv X pins σ (upd H2 s2.heap.objs.size (.lst [])) { s2 with heap := s2.heap.push { cls := .type "list", data := .seq ([] : List Value).toArray } } :=
    I2.lnew (its := []) (t' := s2.toks) .nil (Nat.zero_le _)
  have hp := hw s2.heap.objs.size I2.fresh
  generalize e3 : ({ s2 with heap := s2.heap.push { cls := .type "list", data := .seq ([] : List Value).toArray } } : Shared) = s3 at I3 ⊢
  generalize eH : upd H2 s2.heap.objs.size (.lst []) = H3 at I3 hp
  have flt : ∀ b ∈ fp, b < s2.heap.objs.size := fun b hb => let ⟨_, e, _⟩ := T.obj _ _ st b hb; Heap.lt_size e
  have get3 : ∀ b o, s2.heap.get? b = some o → s3.heap.get? b = some o := fun b o e => by rw [← e3]; exact Heap.get?_push_of_some _ e
  have st3 : tn 0 s3.heap := T.keep _ _ _ st fun b _ o e => get3 b o e
  have hf3 : ∀ b ∈ fp, FpOk X pins H3 b := fun b hb => ⟨by rw [← eH, upd_ne (Nat.ne_of_lt (flt b hb))]; exact (hf b hb).1, (hf b hb).2⟩
  have ho3 : ∀ b ∈ fp, ∃ o, s3.heap.get? b = some o := fun b hb => let ⟨o, e, _⟩ := T.obj _ _ st3 b hb; ⟨o, e⟩
  refine newEnv_comp fun h4 hn hk hcl hpw => ?_
  have I4 : Inv (cxComp X N' scope s3 H3 fp) [] (pick ixs σ) H3 { s3 with heap := h4 } := inv_comp I3 S hf3 ho3 hn hk hcl hpw
  have st4 : tn 0 ({ s3 with heap := h4 } : Shared).heap := T.keep _ _ _ st3 fun b _ o e => hk b o e
  obtain ⟨hG, hI, hE⟩ := hb s3 H3 fp
  obtain ⟨W, ⟨m0, w0⟩, turn⟩ := hp
  rw [eH] at w0
  have stat : ∀ {H' : Hp}, (∀ b ∈ fp, H' b = none) → ∀ b ∈ fp, FpOk (cxComp X N' scope s3 H3 fp) [] H' b := fun hn b hb =>
    ⟨hn b hb, (I4.ok.exf b hb).1, I4.ok.exfs b hb, .inl hb, fun x c e => (I4.ok.exf b hb).2 x c e, fun p hp => absurd (show p ∈ ([] : List (Addr × Obj)) from hp) (by simp)⟩
  have loop : codeAny (model X.prog X.w) X.A (.compLoop (.ListComp elt [⟨tg, iter, ifs, 0⟩] scope pos) 0 (.ref it) (.ref s2.heap.objs.size) (compEnv2 scope s3.heap.objs.size X.env))
      (RR (.ref s2.heap.objs.size) s3.heap.objs.size) { s3 with heap := h4 } := by
    refine codeAny_compLoop2 (fun n s' => ∃ i ys τ H', Inv (cxComp X N' scope s3 H3 fp) [] τ H' s' ∧ tn i s'.heap ∧ (∀ b ∈ fp, H' b = none) ∧ W i n ys τ H') ?_ m0 ⟨0, [], _, H3, I4, st4, fun b hb => (hf3 b hb).1, w0⟩
    rintro n s5 ⟨i, ys, τ, H5, I5, st5, fr5, w5⟩
    obtain ⟨hp5, w5⟩ := turn i n ys τ H5 w5
    rcases w5 with ⟨stop, qn⟩ | ⟨go, step⟩
    · refine thn (T.done (cxComp X N' scope s3 H3 fp) rfl rfl rfl hc i [] s5 τ H5 _ I5 (stat fr5) st5 stop) fun r s6 ⟨hr, I6⟩ => ?_
      subst hr
      refine hR _ _ _ ⟨_, H5, rfl, ?_, ?_, ?_, qn⟩
      · exact I3.call' (s' := s6) (ch := fp) I6.os I6.base I6.hok I6.bare fun b hb => ⟨(hf3 b hb).2.2.2.1, (hf3 b hb).2.1, (hf3 b hb).2.2.2.2.1, (hf3 b hb).2.2.2.2.2⟩
      · exact I3.fpOk (Nat.le_refl _) I6.free
      · obtain ⟨m, hm, _⟩ := I6.loc
        exact ⟨m, hm⟩
    · refine thn (T.item (cxComp X N' scope s3 H3 fp) rfl rfl rfl hc i [] s5 τ H5 _ I5 (stat fr5) st5 go) fun r s6 ⟨u, hr, h6⟩ => ?_
      subst hr
      refine thn h6 fun _ s7 ⟨x, H7, I7, r7, y7, st7, fr7⟩ => ?_
      have I7' := I7.pinned (stat fr7) (T.obj _ _ st7)
      refine thn (hG _ s7 τ H7 x u _ I7' r7 (step x H7 y7)) fun _ s8 ⟨τ8, H8, I8, q8⟩ => ?_
      refine thn (hI _ s8 τ8 H8 _ I8 q8) fun b s9 ⟨H9, I9, q9⟩ => ?_
      have again : ∀ {τ' : St} {H' : Hp} {s' : Shared} {ys' : List V} {m' : Nat}, Inv (cxComp X N' scope s3 H3 fp) ([] ++ pinsAt fp s7.heap) τ' H' s' → m' < n → W (i + 1) m' ys' τ' H' →
          ∃ m, m < n ∧ ∃ i ys τ H', Inv (cxComp X N' scope s3 H3 fp) [] τ H' s' ∧ tn i s'.heap ∧ (∀ b ∈ fp, H' b = none) ∧ W i m ys τ H' := fun {τ' H' s' ys' m'} I' hm w' => by
        refine ⟨m', hm, i + 1, ys', τ', H', I'.unpinned, T.keep _ _ _ st7 fun b hb o e => (I'.pin (b, o) (List.mem_append_right _ (List.mem_append_right _ (mem_pinsAt hb e)))).1, fun b hb => ?_, w'⟩
        obtain ⟨o, e, d⟩ := T.obj _ _ st7 b hb
        exact (I'.pin (b, o) (List.mem_append_right _ (List.mem_append_right _ (mem_pinsAt hb e)))).2.1
      cases b with
      | false =>
        obtain ⟨m', hm, w'⟩ := q9
        exact again I9 hm w'
      | true =>
        refine thn (hE _ s9 τ8 H9 _ I9 q9) fun y s10 ⟨z, H10, I10, r10, hp10, hz10, m', hm, w'⟩ => ?_
        refine thn (mt_append _ s10 τ8 H10 (.ref s2.heap.objs.size) [z] (.ref s2.heap.objs.size) [y] (fun _ H' => H' = upd H10 s2.heap.objs.size (.lst (ys ++ [z]))) I10 rfl (.cons r10 .nil) ⟨_, _, _, rfl, rfl, hp10, hz10, rfl⟩) fun _ s11 ⟨_, H11, I11, _, e11⟩ => ?_
        subst e11
        exact again I11 hm w'
  exact codeAny_compStart_list loop (T.self X.A 0 _ _ _ st4 loop)

/-- [elt for tg in iter if ..] -/
theorem pe_comp {wi : TI} {g : TG} {ti : TT} {te : TE} (hc : X.calm = true) (S : CompScope X.N X.env.scope N' ixs scope) (hi : PI X tg iter wi)
    (hb : ∀ s H fp, PG (cxComp X N' scope s H fp) tg g ∧ PIfs (cxComp X N' scope s H fp) ifs ti ∧ PE (cxComp X N' scope s H fp) elt te)
    (hs : ∀ x, foldedSetIterable iter X.env x = pure x := by intro _; rfl) : PE X (.ListComp elt [⟨tg, iter, ifs, 0⟩] scope pos) (tComp wi ixs g ti te) := by
  intro pins s σ H Q I h
  rw [eval_ListComp]
  refine wpAny_comprehension_free (use := none) rfl hs (closureFor_eq fun n hn => comp_free I S hn) S.kind (fun x hx hl => lookup_of_mem S.keys (by rw [← hl]; exact hx)) ?_
  refine thn (hi pins s σ H _ I h) fun v s1 h1 => thn h1 fun itv s2 h2 => ?_
  obtain ⟨it, fp, tn, J, H2, e, I2, T, st2, f2, hw⟩ := h2
  subst e
  refine comp_core (RR := fun acc C => compPost (model X.prog X.w) X.A X.xe none (EP X pins σ Q) acc C) hc S I2 T st2 f2 hb hw ?_
  rintro acc C s' ⟨p, H', rfl, I', fC, ⟨m, hm⟩, q⟩
  refine ⟨m, hm, fun h' hs' => ⟨.ref p, H', ?_, rfl, q⟩⟩
  exact I'.turned (it := C) (t' := s'.toks) (fun b o hb e => (hs'.2 b hb).trans e) fC.1 fC.2.1 fC.2.2.2.1 fC.2.2.2.2.1 fC.2.2.2.2.2

/-- x = [elt for tg in iter if ..], x a plain local -/
theorem ps_setComp {wi : TI} {g : TG} {ti : TT} {te : TE} {i : Nat} {x : Str} {pos' spos : Pos} (hc : X.calm = true) (S : CompScope X.N X.env.scope N' ixs scope) (hN : X.N.Nodup) (hx : X.N[i]? = some x) (hl : X.env.scope.names.lookup x = some .local) (hi : PI X tg iter wi)
    (hb : ∀ s H fp, PG (cxComp X N' scope s H fp) tg g ∧ PIfs (cxComp X N' scope s H fp) ifs ti ∧ PE (cxComp X N' scope s H fp) elt te)
    (hsw : swapsWith (.ListComp elt [⟨tg, iter, ifs, 0⟩] scope pos) (some (.Name x pos')) spos.line X.env = pure true := by rfl)
    (hs : ∀ x, foldedSetIterable iter X.env x = pure x := by intro _; rfl) : PS X (.Assign [.Name x pos'] (.ListComp elt [⟨tg, iter, ifs, 0⟩] scope pos) spos) (tAsg (tComp wi ixs g ti te) (gName i)) := by
  intro pins s σ H D I h
  rw [exec_Assign_Name_used _ _ _ _ hsw]
  refine wpAny_bind (wpAny_standAt (wpAny_bind ?_))
  show wpAny _ X.A (do let _ ← comprehension (.ListComp elt [⟨tg, iter, ifs, 0⟩] scope pos) scope X.env _ (newList []) false (eval iter X.env) (some (assign (.Name x pos') X.env))) _ _ s
  refine wpAny_bind (thn (wpAny_comprehension_free (use := some (assign (.Name x pos') X.env)) (Q := fun _ s' => SP X pins D .next s') rfl hs (closureFor_eq fun n hn => comp_free I S hn) S.kind (fun x hx hl => lookup_of_mem S.keys (by rw [← hl]; exact hx)) ?_) fun _ s' hq => wpAny_pure (wpAny_pure hq))
  refine thn (hi pins s σ H _ I h) fun v s1 h1 => thn h1 fun itv s2 h2 => ?_
  obtain ⟨it, fp, tn, J, H2, e, I2, T, st2, f2, hw⟩ := h2
  subst e
  refine comp_core (Q := fun v H' => D.nx (σ.set i (some v)) H') (RR := fun acc C => compPost (model X.prog X.w) X.A X.xe (some (assign (.Name x pos') X.env)) (fun _ s' => SP X pins D .next s') acc C) hc S I2 T st2 f2 hb hw ?_
  rintro acc C s' ⟨p, H', rfl, I', fC, ⟨m, hm⟩, q⟩
  show wpAny (model X.prog X.w) X.A (assign (.Name x pos') X.env (.ref p)) _ _ s'
  refine wpAny_assign_Name (store_ok2 (v := .ref p) I' hN hx (.inl hl) rfl (fun s'' I'' ⟨a, hsb, ha⟩ => ?_) (.inr hl))
  have hCa : C ≠ a := by
    rcases ha with ha | ha
    · rw [ha]; exact fC.2.1
    · exact fun z => fC.2.2.2.2.1 _ _ ha z.symm
  refine ⟨m, hm.sameBut hsb hCa, fun h' hs' => ⟨_, H', ?_, q⟩⟩
  exact I''.turned (it := C) (t' := s''.toks) (fun b o hb e => (hs'.2 b hb).trans e) fC.1 fC.2.1 fC.2.2.2.1 fC.2.2.2.2.1 fC.2.2.2.2.2
end
end L2
namespace L2
open PySem PySem.Spec PyProof.Rows PySem.W PySem.Builtin.ObjectAttr

/-! ### an own error class with an __init__ of its own, under own classes: it is made, then its __init__ runs -/
/-- the heap with the new error and its tuple of arguments -/
def excNew (h : Heap) (C : Addr) (us : List Value) : Heap := (h.push { cls := .type "tuple", data := .seq us.toArray }).push { cls := .ref C, data := .fields #[.ref h.objs.size, .none, .none, .none, .bool false, .none] }
theorem excNew_keep {h : Heap} {C : Addr} {us : List Value} {b : Addr} {o : Obj} (e : h.get? b = some o) : (excNew h C us).get? b = some o := Heap.get?_push_of_some _ (Heap.get?_push_of_some _ e)
theorem excNew_at {h : Heap} {C : Addr} {us : List Value} : (excNew h C us).get? (h.objs.size + 1) = some { cls := .ref C, data := .fields #[.ref h.objs.size, .none, .none, .none, .bool false, .none] } := by
  unfold excNew; heap_get
section
variable {P : Program} {w : World} {A : Around} {E : Value → Shared → Prop} {h : Heap} {gs : Array GenState} {dr : Drawn} {tk : Nat} {os : OsState}
variable {cn qn : Str} {C N : Addr} {bases up upB : List Value} {hasD : Bool} {sl : List Str} {subs : List Value} {abst : Bool} {coll : Option Bool} {od : Option Addr} {e0 e1 e2 e3 e5 : Option Value} {B nid iid : String}
variable {mN : Str → Option Value} {us : List Value} {fI : Addr} {oI : Obj}
theorem exc_typecall_initT {Q : Fin → Shared → Prop} (F : ExcBaseFacts B nid iid upB) (T : OwnTail h upB up) (atC : h.get? C = some (excClassObj cn qn C N bases up hasD sl subs abst coll od e0 e1 e2 e3 e5 nid)) (nsN : h.Ns N mN)
    (hi : mN "__init__" = some (.ref fI)) (atI : h.get? fI = some oI) (fnI : oI.cls = .type "function") (few : us.length ≤ sizeLine)
    (run : wpAny (model P w) A (call (.ref fI) (.ref (h.objs.size + 1) :: us)) (fun r s' => r = .none ∧ Q (.done (.ret (.ref (h.objs.size + 1)))) s') E ⟨excNew h C us, gs, dr, tk, os⟩) :
    wpAny (model P w) A (Builtin.«type.__call__» ⟨.ref C :: us, []⟩) Q E ⟨h, gs, dr, tk, os⟩ := by
  repeat (first | with_reducible refine wpAny_loadPart_at atC ?_ | with_reducible refine wpAny_madeBy_exc atC ?_ | wp_step)
  refine codeAny_call_builtin_code (Code.quiet_builtin _ F.quiet) (wpAny_check_new_subT F T atC (codeAny_exc_new_subT F T atC ?_ few))
  show wpAny _ _ _ _ _ (⟨excNew h C us, gs, dr, tk, os⟩ : Shared)
  have atC' : (excNew h C us).get? C = _ := excNew_keep atC
  have atE : (excNew h C us).get? (h.objs.size + 1) = _ := excNew_at
  have has : (Value.ref C :: up).contains (.ref C) = true := List.contains_iff_mem.mpr List.mem_cons_self
  unfold isInstance
  repeat (first | with_reducible refine wpAny_loadPart_at atE ?_ | (with_reducible refine wpAny_isSubtype_exc atC' ?_; rw [has]) | wp_step)
  refine wpAny_typeLookup_tail (mN := mN) atC' (nsN.keeps fun _ _ e => excNew_keep e) (T.keeps fun _ _ e => excNew_keep e) F.mroIs F.init.lookup ?_
  rw [hi]
  refine wpAny_holding (wpAny_bind (show wpAny _ _ (bindSpecial _ _) _ _ _ from ?_))
  unfold bindSpecial
  refine wpAny_bind (wpAny_typeOf (T := "function") ⟨oI, excNew_keep atI, fnI⟩ ?_)
  rw [if_pos (show _ from by decide)]
  refine wpAny_pure (wpAny_bind (thn run fun r s' hr => ?_))
  obtain ⟨rfl, q⟩ := hr
  wp_walk
  exact q
theorem exc_call_initT {Q : Value → Shared → Prop} (F : ExcBaseFacts B nid iid upB) (T : OwnTail h upB up) (atC : h.get? C = some (excClassObj cn qn C N bases up hasD sl subs abst coll od e0 e1 e2 e3 e5 nid)) (nsN : h.Ns N mN)
    (hi : mN "__init__" = some (.ref fI)) (atI : h.get? fI = some oI) (fnI : oI.cls = .type "function") (few : us.length ≤ sizeLine)
    (run : wpAny (model P w) (A.under (.builtin "type.__call__" ⟨.ref C :: us, []⟩)) (call (.ref fI) (.ref (h.objs.size + 1) :: us)) (fun r s' => r = .none ∧ Q (.ref (h.objs.size + 1)) s') E ⟨excNew h C us, gs, dr, tk, os⟩) :
    wpAny (model P w) A (call (.ref C) us) Q E ⟨h, gs, dr, tk, os⟩ := by
  have l1 := tc_lookup
  have l2 := tc_bind (.ref C)
  have ty : (⟨h, gs, dr, tk, os⟩ : Shared).TypeIs (.ref C) "type" := ⟨_, atC, rfl⟩
  refine wpAny_call (codeAny_of_tree (show wpAny _ _ (callAny (.ref C) _) _ _ _ from ?_))
  repeat (any_goals (first | assumption | with_reducible refine wpAny_loadPart_at atC ?_ | wp_step))
  exact ⟨rfl, codeAny_call_builtin_at (Code.quiet_builtin _ (by decide +kernel)) entry_typeCall (wpAny_check_type_call_sub atC (exc_typecall_initT F T atC nsN hi atI fnI few run))⟩
end

/-! ### what the fragment says of such a class -/
abbrev bmV : List Value := [.type "ValueError", .type "Exception", .type "BaseException", .type "object"]
/-- C is such a class; i: its own __init__, or none -/
def excInI (K : Frag) (C : Addr) (i : Option Value) : Bool :=
  match K.lookup C with
  | some ⟨.type "type", _, .cls cls, slots⟩ =>
    (match cls.mro, slots.toList with
     | .ref C' :: up, [_, _, _, _, some (.builtin n), _] => C' == C && (n == "ValueError.__new__" && (!cls.hasDel && (tailIn K bmV up && (nsOkIn K cls.ns && nsIn K cls.ns "__init__" == some i))))
     | _, _ => false)
  | _ => false
theorem ns_some_of {K : Frag} {h : Heap} {N : Addr} {mp : Str → Option Value} {n : Str} {v : Value} (X : K.In h) (G : h.Ns N mp) (e : nsIn K N n = some (some v)) : mp n = some v := by
  obtain ⟨ob, ens, _, at_, da, _, look⟩ := G
  unfold nsIn at e
  split at e
  next _ _ _ _ _ q =>
    have two := X _ _ q
    rw [at_] at two
    cases two; cases da
    split at e
    next en he =>
      cases e
      rw [← look, nsFind, findBy, ← Array.find?_toList, he]; rfl
    next => split at e <;> cases e
  next => cases e
structure ExcAt (h : Heap) (C : Addr) (i : Option Value) : Prop where
  ex : ∃ bm N nm q bs hdct sn sub ab col dd k0 k1 k2 k3 k5 mN, h.get? C = some (excClassObj nm q C N bs bm hdct sn sub ab col dd k0 k1 k2 k3 k5 "ValueError.__new__") ∧ h.Ns N mN ∧ mN "__init__" = i ∧ OwnTail h bmV bm
theorem exc_of_in {K : Frag} {h : Heap} {C : Addr} {i : Option Value} (X : K.In h) (q : excInI K C i = true) : ExcAt h C i := by
  unfold excInI at q
  split at q
  next od cls slots at_ =>
    split at q
    next C' up a0 a1 a2 a3 n a5 em es =>
      obtain ⟨p1, q⟩ := Bool.and_eq_true_iff.mp q
      obtain ⟨p2, q⟩ := Bool.and_eq_true_iff.mp q
      obtain ⟨p3, q⟩ := Bool.and_eq_true_iff.mp q
      obtain ⟨p4, q⟩ := Bool.and_eq_true_iff.mp q
      obtain ⟨p5, p6⟩ := Bool.and_eq_true_iff.mp q
      have e1 := beq_iff_eq.mp p1
      have e2 := beq_iff_eq.mp p2
      have e3 : cls.hasDel = false := by simpa using p3
      have e6 := beq_iff_eq.mp p6
      subst e1 e2
      obtain ⟨nm, bs, mro, ns, qn, hd, sn, sb, ab, col, del⟩ := cls
      have em' : mro = _ := em
      have e3' : del = false := e3
      subst em' e3'
      obtain rfl : slots = #[a0, a1, a2, a3, some (.builtin "ValueError.__new__"), a5] := by cases slots; exact congrArg Array.mk es
      refine ⟨⟨up, ns, nm, qn, bs, hd, sn, sb, ab, col, od, a0, a1, a2, a3, a5, h.nsMap ns, X _ _ at_, .of_isNs (isNs_of_in X p5), ?_, tail_of_in X p4⟩⟩
      cases i with
      | none => exact nsMap_none_of_in X p5 e6
      | some v => exact ns_some_of X (.of_isNs (isNs_of_in X p5)) e6
    next => cases q
  next => cases q

/-! ### an attribute of such an object is stored, read -/
def overE : List Value → Bool
  | .ref _ :: r => overE r
  | l => l == bmV
theorem overE_cases : ∀ {l : List Value}, overE l = true → l = bmV ∨ ∃ a r, l = .ref a :: r ∧ overE r = true
  | [], e => .inl (beq_iff_eq.mp e)
  | .ref a :: r, e => .inr ⟨a, r, rfl, e⟩
  | .none :: r, e => .inl (beq_iff_eq.mp e)
  | .bool b :: r, e => .inl (beq_iff_eq.mp e)
  | .int i t :: r, e => .inl (beq_iff_eq.mp e)
  | .float i t :: r, e => .inl (beq_iff_eq.mp e)
  | .str i t :: r, e => .inl (beq_iff_eq.mp e)
  | .bytes i t :: r, e => .inl (beq_iff_eq.mp e)
  | .type i :: r, e => .inl (beq_iff_eq.mp e)
  | .builtin i :: r, e => .inl (beq_iff_eq.mp e)

theorem refuse_E (self : Value) (l : List Value) : overE l = true → refuseLoop self "__setattr__" l = pure () := by
  induction l with
  | nil => intro e; exact absurd e (by decide)
  | cons v r ih =>
    intro e
    rcases overE_cases e with q | ⟨a, r', q, e'⟩
    · rw [q]; kernel_rfl
    · cases q
      rw [refuseLoop_ref]
      exact ih e'
/-- an own error class, as the fragment has it -/
structure XCls (K : Frag) (C : Addr) : Prop where
  ga : findIn K (.ref C) "__getattribute__" = some (some (.builtin "BaseException.__getattribute__"))
  gh : findIn K (.ref C) "__getattr__" = some none
  sa : findIn K (.ref C) "__setattr__" = some (some (.builtin "object.__setattr__"))
  hd : hasDictIn K C = true
  ov : ((clsIn K C).any fun cd => overE cd.mro) = true
  be : mroIn K C (.type "BaseException") = some true
  ve : mroIn K C (.type "ValueError") = some true
  ob : mroIn K C (.type "object") = some true
  ka : findIn K (.ref C) "__class__" = some (some (.builtin "object.__class__"))
  kn : specialIn K (.builtin "object.__class__") "__get__" = some (some (.builtin "getset_descriptor.__get__"))
  kt : takesIn K (.builtin "object.__class__") = some true
section
variable {prog : Program} {w : World} {A : Around} {E : Value → Shared → Prop} {s : Shared} {K : Frag} {x C : Addr} {ox : Obj} {od : Option Obj} {name : Str}
theorem osa_openE {R : Result → Shared → Prop} {tk : Tok} {v : Value} (X : K.In s.heap) (I : InstAt s.heap x ox C od) (c : XCls K C) (no : findIn K (.ref C) name = some none)
    (go : wpAny (model prog w) A.in1 (storeInOwnDict (.ref x) (.ref C) (.str name tk) name v false) (fun fin s' => match fin with | .done f => R (.ok f) s' | .again c' => c'.quiet = true ∧ codeAny (model prog w) A c' R s') (fun e s' => R (.error e) s') s) :
    codeAny (model prog w) A (.call (.builtin "object.__setattr__") ⟨[.ref x, .str name tk, v], []⟩) R s := by
  obtain ⟨cls, ic, ok⟩ := any_some c.ov
  have ty : Looks (model prog w) s.heap (typeOf (.ref x)) (.ref C) := I.type
  have up : Looks (model prog w) s.heap (mroOf (.ref C)) cls.mro := Looks.andThen (looks_clsIn X ic) Looks.now
  have none' : Looks (model prog w) s.heap (typeLookup (.ref C) name) none := looks_findIn X no
  refine codeAny_call_builtin PySem.F.store_object.slot.plain PySem.F.store_object.entry (@check_slot (model prog w) _ _ s _ _ _ (.ref x) [.str name tk, v] [] _ PySem.F.store_object.kind PySem.F.store_object.split (ty.andThen (looks_mroIn X c.ob)) (PySem.F.store_object.args _ _ _) ?_)
  rw [osa_eq, refuse_eq]
  refine wpAny_bind (wpAny_bind (ty.here (wpAny_bind (up.here ?_))))
  rw [refuse_E _ _ ok]
  refine wpAny_pure (show wpAny _ _ _ _ _ s from ?_)
  exact wpAny_bind (ty.here (wpAny_bind (none'.here (wpAny_bind (wpAny_pure go)))))
/-- the road to BaseException.__getattribute__ -/
theorem exc_getBy {tk : Tok} {fill expr : Bool} {Q : Value → Shared → Prop} (X : K.In s.heap) (I : InstAt s.heap x ox C od) (c : XCls K C)
    (h : wpAny (model prog w) A.in1 (Builtin.«object.__getattribute__» ⟨[.ref x, .str name tk], []⟩) (fun fin s' => match fin with | .done (.ret v) => wpAny (model prog w) A (handedOut v) Q E s' | _ => False) (fun _ _ => False) s) :
    wpAny (model prog w) A (getAttrBy (.ref x) (.str name tk) fill expr) Q E s := by
  have L0 := I.type (M := model prog w)
  have L1 := looks_findIn (M := model prog w) X c.ga
  have L2 := looks_findIn (M := model prog w) X c.gh
  have sub : Looks (model prog w) s.heap (isInstance (.ref x) (.type "BaseException")) true := I.type.andThen (looks_mroIn X c.be)
  have hx2 : (Value.builtin "BaseException.__getattribute__" == Value.builtin "object.__getattribute__") = false := by decide +kernel
  have hx1 : (onTheHeap (Value.ref C) && Value.builtin "BaseException.__getattribute__" == Value.builtin "object.__getattribute__") = false := by rw [hx2]; rfl
  have hk : builtinKind "BaseException.__getattribute__" = some .slot := by decide +kernel
  have hsplit : splitId "BaseException.__getattribute__" = some ("BaseException", "__getattribute__") := by decide +kernel
  unfold getAttrBy
  refine wpAny_holding (wpAny_bind (L0.here (wpAny_bind (L1.here ?_))))
  dsimp only
  rw [hx1]
  show wpAny _ _ (getAttrByItsOwn _ _ _ _ _ _) _ _ _
  unfold getAttrByItsOwn hookBefore
  refine wpAny_bind ?_
  rw [if_pos (show onTheHeap (Value.ref C) = true from rfl)]
  refine L2.here (wpAny_bind (wpAny_attempt (wpAny_holding ?_)))
  unfold callGetattribute
  rw [if_neg (show ¬ (expr && onTheHeap (Value.builtin "BaseException.__getattribute__")) = true by cases expr <;> decide)]
  unfold boundAndCalled
  rw [PySem.F.attrBase_ValueError.ga.bind]
  refine wpAny_bind (wpAny_pure (wpAny_call (codeAny_call_builtin PySem.F.attrBase_ValueError.ga.plain PySem.F.entry_bexc_ga (@check_slot (model prog w) _ _ s "BaseException.__getattribute__" "BaseException" "__getattribute__" (.ref x) [.str name tk] [] _ hk hsplit sub (PySem.F.args_bexc_ga _ _) ?_))))
  refine wpAny_mono h (fun fin s' z => ?_) fun _ _ z => z.elim
  rcases fin with (_ | _ | _ | _) | _ <;> first | exact z | exact z.elim
theorem oga_value {tk : Tok} {v : Value} {Q : Fin → Shared → Prop} (X : K.In s.heap) (I : InstAt s.heap x ox C od) (hf : findObj K C od name = some (.value v)) (h : Q (.done (.ret v)) s) :
    wpAny (model prog w) A (Builtin.«object.__getattribute__» ⟨[.ref x, .str name tk], []⟩) Q E s := by
  have L0 := I.type (M := model prog w)
  have L1 := looks_find (M := model prog w) X I hf
  refine wpAny_bind (wpAny_pure (wpAny_bind (wpAny_pure (wpAny_bind (L0.here (wpAny_bind (L1.here ?_)))))))
  exact wpAny_pure h
theorem exc_get {expr : Bool} {v : Value} {Q : Value → Shared → Prop} (X : K.In s.heap) (I : InstAt s.heap x ox C od) (c : XCls K C) (hf : findObj K C od name = some (.value v)) (hh : handedIn v = true)
    (h : Q v { s with toks := s.toks + 1 }) : wpAny (model prog w) A (getAttr (.ref x) name expr) Q E s := by
  unfold getAttr
  refine wpAny_bind (wpAny_mkText ?_)
  exact exc_getBy (s := { s with toks := s.toks + 1 }) X I c (oga_value (s := { s with toks := s.toks + 1 }) X I hf (handed_on hh h))
theorem exc_class {Q : Option Value → Shared → Prop} (X : K.In s.heap) (I : InstAt s.heap x ox C od) (c : XCls K C) (h : Q (some (.ref C)) { s with toks := s.toks + 1 }) : wpAny (model prog w) A (getAttr? (.ref x) "__class__") Q E s := by
  have hf : findObj K C od "__class__" = some (.bind (.builtin "getset_descriptor.__get__") (.builtin "object.__class__")) := by
    obtain ⟨cd, hc, _⟩ := any_some c.hd
    unfold findObj
    rw [hc, Option.bind_some, c.ka, Option.bind_some]
    dsimp only
    rw [c.kn, Option.bind_some]
    dsimp only
    rw [c.kt, Option.bind_some]
  unfold getAttr? getAttrBy?
  refine wpAny_bind (wpAny_mkText (wpAny_bind (wpAny_attempt ?_)))
  have L0 := I.type (M := model prog w)
  have L1 := looks_find (M := model prog w) X I hf
  refine exc_getBy (s := { s with toks := s.toks + 1 }) X I c ?_
  refine wpAny_bind (wpAny_pure (wpAny_bind (wpAny_pure (wpAny_bind (Looks.here (s := { s with toks := s.toks + 1 }) L0 (wpAny_bind (Looks.here (s := { s with toks := s.toks + 1 }) L1 ?_)))))))
  show wpAny _ _ (holding [.builtin "object.__class__"] (call (.builtin "getset_descriptor.__get__") [.builtin "object.__class__", .ref x, .ref C]) >>= ret) _ _ _
  refine wpAny_bind (wpAny_holding (wpAny_call (class_get (s := { s with toks := s.toks + 1 }) (ox := ox) (od := od) X I c.ob ?_)))
  exact wpAny_pure (handed_on rfl (wpAny_pure h))
theorem cls_isType {M : Model} {h : Heap} (X : K.In h) (c : XCls K C) : Looks M h (isType (.ref C)) true := by
  obtain ⟨cls, ic, _⟩ := any_some c.hd
  unfold clsIn at ic
  split at ic
  next at_ =>
    intro A' Q' E' s' k q
    exact wpAny_bind (wpAny_loadPart (part := some headPart) (k _ _ (X _ _ at_)) (wpAny_pure q))
  next => cases ic
theorem kitx_exc (c : XCls K C) : KitX K (.ref x) (.ref C) (fun h => InstAt h x ox C od) where
  ty := fun _ _ _ I => I.type
  it := fun _ _ X _ => cls_isType X c
  ne := fun h tp _ _ _ _ X tup => by
    obtain ⟨cls, ic, _⟩ := any_some c.hd
    cases q : (Value.ref C == .ref tp) with
    | false => rfl
    | true =>
      have e : C = tp := Value.ref.inj (beq_iff_eq.mp q)
      unfold clsIn at ic
      split at ic
      next at_ =>
        have two := (X _ _ at_).symm
        rw [e, tup] at two
        cases two
      next => cases ic
  ca := fun X I k => exc_class X I c k
end
end L2
namespace L2
open PySem PySem.Spec PyProof.Rows PySem.W PySem.Builtin.ObjectAttr

/-! ### a new object at any free place -/
theorem ObjOk.there {P : Program} {w : World} {H : Hp} {h : Heap} {a : Addr} {o : HO} (x : ObjOk P w H h a o) : ∃ ob, h.get? a = some ob := by
  cases o with
  | lst xs => obtain ⟨_, _, _, _, e⟩ := x; exact ⟨_, e⟩
  | tup xs => obtain ⟨_, _, _, ob, e, _⟩ := x; exact ⟨_, e⟩
  | dK kvs => obtain ⟨_, _, _, _, o, _, _, e, _⟩ := x; exact ⟨_, e⟩
  | dT kvs => obtain ⟨_, _, _, _, o, _, _, e, _⟩ := x; exact ⟨_, e⟩
  | set S n => obtain ⟨o, _, _, _, e, _⟩ := x; exact ⟨_, e⟩
  | ins C dx fs => obtain ⟨_, _, _, e, _⟩ := x; exact ⟨_, e⟩
  | own y => exact x
  | xd fs => obtain ⟨_, ⟨_, _, _, e, _⟩, _⟩ := x; exact ⟨_, e⟩
  | rng lo hi => obtain ⟨_, _, _, e⟩ := x; exact ⟨_, e⟩
  | frz ob u => obtain ⟨e, _⟩ := x; exact ⟨_, e⟩
  | tbl ps => exact ⟨_, x⟩
  | met f y => exact ⟨_, x⟩
  | ext φ => exact x.2.1
section
variable {X : Cx} {pins : List (Addr × Obj)} {σ : St} {H : Hp} {s : Shared} {h' : Heap} {a : Addr} {o : HO}
theorem Inv.noneAt (I : Inv X pins σ H s) (e : s.heap.get? a = none) : H a = none := by
  cases q : H a with
  | none => rfl
  | some u =>
    obtain ⟨ob, z⟩ := (I.hok a u q).there
    rw [e] at z; cases z
theorem Inv.put (I : Inv X pins σ H s) (k : ∀ b u, s.heap.get? b = some u → h'.get? b = some u) (e : s.heap.get? a = none) (new : ObjOk X.prog X.w (upd H a o) h' a o) : Inv X pins σ (upd H a o) { s with heap := h' } := by
  have hn := I.noneAt e
  have ne : ∀ b u, s.heap.get? b = some u → b ≠ a := fun b u q z => by rw [z, e] at q; cases q
  refine I.un (t' := s.toks) ⟨fun b u q n _ _ => k b u q, fun b u q n _ _ => ⟨u.slots, k b u q⟩, fun b u q n _ => by rw [upd_ne (ne b u q)]; exact n, fun b u q _ => ⟨u, k b u q⟩, fun b xs q => by rw [upd_ne (ne_of_none q hn)]; exact q,
    fun b u v q => by rw [upd_ne (ne_of_none q hn)]; exact q, fun b ps q => ⟨#[], by rw [upd_ne (ne_of_none q hn), q]; simp⟩⟩ fun b u q => ?_
  by_cases hb : b = a
  · subst hb; rw [upd_same] at q; cases q; exact new
  · rw [upd_ne hb] at q
    exact (I.hok b u q).stay (fun c v _ z => k c v z) (fun c z => by rw [upd_ne (ne_of_none z hn)]; exact z) fun c xs z => by rw [upd_ne (ne_of_none z hn)]; exact z
end

/-! ### an error, tracked: its class, its dict -/
def ExcO (C : Addr) (dx : Option Addr) (a : Addr) : HO := .ext fun h => ∃ t, h.get? a = some { cls := .ref C, dict := dx, data := .fields #[.ref t, .none, .none, .none, .bool false, .none] }
def ExcD (d : Addr) (fs : List (Str × V)) : HO := .ext fun h => fs.length ≤ 100 ∧ ∃ mA, h.Ns1 d mA ∧ (∀ f, RelO (fs.lookup f) (mA f)) ∧ PySem.Within mA (fs.map (·.1))
section
variable {P : Program} {w : World} {H : Hp} {h : Heap} {a d C : Addr} {dx : Option Addr} {fs : List (Str × V)}
theorem excO_mk {t : Addr} (e : h.get? a = some { cls := .ref C, dict := dx, data := .fields #[.ref t, .none, .none, .none, .bool false, .none] }) : ObjOk P w H h a (ExcO C dx a) :=
  ⟨⟨t, e⟩, ⟨_, e⟩, fun _ _ ⟨t, q⟩ k => ⟨t, k _ q⟩⟩
theorem excD_mk {mA : Str → Option Value} (z : fs.length ≤ 100) (n : h.Ns1 d mA) (r : ∀ f, RelO (fs.lookup f) (mA f)) (wi : PySem.Within mA (fs.map (·.1))) : ObjOk P w H h d (ExcD d fs) :=
  ⟨⟨z, mA, n, r, wi⟩, (let ⟨o, _, _, e, _⟩ := n; ⟨o, e⟩), fun _ _ ⟨z, mA, n, r⟩ k => ⟨z, mA, n.at k, r⟩⟩
end
section
variable {X : Cx} {pins : List (Addr × Obj)} {σ : St} {H : Hp} {s : Shared} {A : Around} {E : Value → Shared → Prop} {a d C : Addr} {dx : Option Addr} {fs : List (Str × V)} {f : Str}
theorem Inv.excAt (I : Inv X pins σ H s) (e : H a = some (ExcO C dx a)) : ∃ t, s.heap.get? a = some { cls := .ref C, dict := dx, data := .fields #[.ref t, .none, .none, .none, .bool false, .none] } := (I.hok a _ e).1
theorem Inv.excDict (I : Inv X pins σ H s) (e : H d = some (ExcD d fs)) : fs.length ≤ 100 ∧ ∃ mA, s.heap.Ns1 d mA ∧ (∀ f, RelO (fs.lookup f) (mA f)) ∧ PySem.Within mA (fs.map (·.1)) := (I.hok d _ e).1

/-- its first attribute is stored: the dict is made -/
theorem excset_new {y : V} {u : Value} {Q : Unit → Shared → Prop} (I : Inv X pins σ H s) (e : H a = some (ExcO C none a)) (c : XCls X.K C) (no : findIn X.K (.ref C) f = some none) (ry : RelV y u)
    (h : ∀ d s', H d = none → d ≠ a → Inv X pins σ (upd (upd H d (ExcD d [(f, y)])) a (ExcO C (some d) a)) s' → Q () s') : wpAny (model X.prog X.w) A (setAttr (.ref a) f u) Q E s := by
  obtain ⟨t, at_⟩ := I.excAt e
  have J : InstAt s.heap a _ C none := ⟨at_, rfl, rfl, True.intro⟩
  refine PySem.W.set_plain I.kIn J c.sa (osa_openE (s := { s with toks := s.toks + 1 }) I.kIn J c no ?_)
  obtain ⟨cls, ic, hasD⟩ := any_some c.hd
  refine wpAny_bind (wpAny_pure (wpAny_bind (show wpAny _ _ (instanceDict a true) _ _ _ from ?_)))
  refine wpAny_bind (wpAny_loadPart (s := { s with toks := s.toks + 1 }) at_ (wpAny_bind (Looks.here (s := { s with toks := s.toks + 1 }) (looks_clsIn I.kIn ic) ?_)))
  rw [hasD]
  refine wpAny_bind (wpAny_alloc ?_)
  have fresh : s.heap.get? s.heap.objs.size = none := Heap.get?_none_of_le (Nat.le_refl _)
  have na : a ≠ s.heap.objs.size := Nat.ne_of_lt (Heap.lt_size at_)
  have at1 : (s.heap.push { cls := .type "dict", data := .dict #[] }).get? a = _ := Heap.get?_push_of_some _ at_
  refine wpAny_bind (wpAny_update (s := { s with heap := s.heap.push { cls := .type "dict", data := .dict #[] }, toks := s.toks + 1 }) at1 (wpAny_pure ?_))
  generalize eh : (s.heap.push { cls := .type "dict", data := .dict #[] }).update a (fun o => { o with dict := some s.heap.objs.size }) = h1
  have at2 : h1.get? a = some { cls := .ref C, dict := some s.heap.objs.size, data := .fields #[.ref t, .none, .none, .none, .bool false, .none] } := by
    rw [← eh]; exact Heap.get?_update_self _ at1 rfl
  have oth : ∀ b o, b ≠ a → s.heap.get? b = some o → h1.get? b = some o := fun b o hb q => by
    rw [← eh, Heap.get?_update_other _ _ (Ne.symm hb)]; exact Heap.get?_push_of_some _ q
  have dAt : h1.get? s.heap.objs.size = some { cls := .type "dict", data := .dict #[] } := by
    rw [← eh, Heap.get?_update_other _ _ na]; exact Heap.get?_push_size _ rfl
  have n0 : h1.Ns1 s.heap.objs.size (fun _ => none) := Heap.Ns1.of_empty ⟨_, #[], _, dAt, rfl, (fun e he => absurd he (by simp)), fun _ => rfl⟩
  refine wpAny_bind (wpAny_pure (wpAny_bind (wpAny_nsSet1 (s := { s with heap := h1, toks := s.toks + 1 }) n0 fun h2 n2 sb => ?_)))
  have w0 : PySem.Within (fun _ => none) ([] : List Str) := fun g hg => absurd rfl hg
  obtain ⟨oD, esD, epD, hoD, hdD, hcD⟩ := n2.count (PySem.Within.cons f u w0)
  refine wpAny_bind (wpAny_lookBehind hoD (by rw [hdD]; exact pastItsLine_dict (Nat.le_trans hcD (by rw [List.length_cons, List.length_nil, sizeLine_eq]; decide))) (wpAny_pure ?_))
  refine h s.heap.objs.size _ (I.noneAt fresh) (Ne.symm na) ?_
  have hd0 := I.noneAt fresh
  have keep2 : ∀ b o, b ≠ a → s.heap.get? b = some o → h2.get? b = some o := fun b o hb q => (sb.2 b (fun z => by rw [z, fresh] at q; cases q)).trans (oth b o hb q)
  have at3 : h2.get? a = _ := (sb.2 a na).trans at2
  have heD : upd H s.heap.objs.size (ExcD s.heap.objs.size [(f, y)]) a = some (ExcO C none a) := by rw [upd_ne na]; exact e
  -- the dict is laid, then the error is written
  have I1 : Inv X pins σ (upd H a (ExcO C (some s.heap.objs.size) a)) { s with heap := h1, toks := s.toks + 1 } := by
    refine I.write (x := a) (e := a) (by rw [e]; exact True.intro) (.inl rfl) (fun b u hb q => oth b u hb q) ⟨_, at2⟩ (excO_mk at2)
  have hda : upd H a (ExcO C (some s.heap.objs.size) a) s.heap.objs.size = none := by rw [upd_ne (Ne.symm na)]; exact hd0
  have cm : upd (upd H s.heap.objs.size (ExcD s.heap.objs.size [(f, y)])) a (ExcO C (some s.heap.objs.size) a) = upd (upd H a (ExcO C (some s.heap.objs.size) a)) s.heap.objs.size (ExcD s.heap.objs.size [(f, y)]) := by
    funext b
    unfold upd
    by_cases h1 : b = a
    · subst h1; rw [if_pos rfl, if_neg na, if_pos rfl]
    · rw [if_neg h1]
      by_cases h2 : b = s.heap.objs.size
      · rw [if_pos h2, if_pos h2]
      · rw [if_neg h2, if_neg h2, if_neg h1]
  rw [cm]
  have hal : upd H a (ExcO C (some s.heap.objs.size) a) a = some (ExcO C (some s.heap.objs.size) a) := upd_same
  -- the dict is not tracked yet and is not the frame's: it is turned, then tracked
  have fp : FpOk X pins (upd H a (ExcO C (some s.heap.objs.size) a)) s.heap.objs.size := by
    have z := I.fpOk (H' := upd H a (ExcO C (some s.heap.objs.size) a)) (Nat.le_refl _) hda
    exact z
  have I2 : Inv X pins σ (upd H a (ExcO C (some s.heap.objs.size) a)) { s with heap := h2, toks := s.toks + 2 } :=
    Inv.turned (s := { s with heap := h1, toks := s.toks + 1 }) (h' := h2) I1 (it := s.heap.objs.size) (t' := s.toks + 2) (fun b o hb q => (sb.2 b hb).trans q) fp.1 fp.2.1 fp.2.2.2.1 fp.2.2.2.2.1 fp.2.2.2.2.2
  refine ⟨I2.ok, I2.os, I2.bare, ?_, I2.loc, I2.cell, ?_, ?_, ?_, ?_, I2.len⟩
  · have B := I2.base
    have nb : ∀ b o, X.s₀.heap.get? b = some o → b ∉ X.ex → b ≠ s.heap.objs.size := fun b o q hx z => by
      obtain ⟨o', q'⟩ := I.base.there b o q hx
      rw [z, fresh] at q'; cases q'
    refine ⟨B.keep, B.slot, fun b o q n hx => by rw [upd_ne (nb b o q hx)]; exact B.free b o q n hx, B.there, fun b xs q => ?_, fun b o u q => ?_, fun b ps q => ?_⟩
    · have z := B.tups b xs q; rw [upd_ne (ne_of_none z hda)]; exact z
    · have z := B.frzs b o u q; rw [upd_ne (ne_of_none z hda)]; exact z
    · obtain ⟨m, z⟩ := B.tbls b ps q; exact ⟨m, by rw [upd_ne (ne_of_none z hda)]; exact z⟩
  · rw [upd_ne (Ne.symm fp.2.1)]; exact I2.free
  · intro x c q; rw [upd_ne (fp.2.2.2.2.1 x c q)]; exact I2.freeC x c q
  · intro p hp
    obtain ⟨p1, p2, p3, p4, p5⟩ := I2.pin p hp
    exact ⟨p1, by rw [upd_ne (fp.2.2.2.2.2 p hp)]; exact p2, p3, p4, p5⟩
  · intro b o q
    by_cases hb : b = s.heap.objs.size
    · subst hb
      rw [upd_same] at q; cases q
      refine excD_mk (by simp) n2 (fun g => ?_) (fun g hg => ?_)
      · show RelO (List.lookup g [(f, y)]) (if g = f then some u else none)
        rw [List.lookup_cons]
        by_cases q : g = f
        · rw [if_pos q, beq_iff_eq.mpr q]; exact ry
        · rw [if_neg q, beq_eq_false_iff_ne.mpr q]; exact True.intro
      · by_cases q : g = f
        · rw [q]; simp
        · exact absurd (if_neg q) hg
    · rw [upd_ne hb] at q
      exact (I2.hok b o q).stay (fun _ _ _ z => z) (fun c z => by rw [upd_ne (ne_of_none z hda)]; exact z) fun c xs z => by rw [upd_ne (ne_of_none z hda)]; exact z
/-- a further attribute is stored -/
theorem excset_more {y : V} {u : Value} {Q : Unit → Shared → Prop} (I : Inv X pins σ H s) (e : H a = some (ExcO C (some d) a)) (ed : H d = some (ExcD d fs)) (c : XCls X.K C) (no : findIn X.K (.ref C) f = some none) (ry : RelV y u) (few : fs.length < 100)
    (h : ∀ s', Inv X pins σ (upd H d (ExcD d (putF f y fs))) s' → Q () s') : wpAny (model X.prog X.w) A (setAttr (.ref a) f u) Q E s := by
  obtain ⟨t, at_⟩ := I.excAt e
  obtain ⟨_, mA, n, r, wi⟩ := I.excDict ed
  obtain ⟨od, hod, look⟩ := lookIn_ns n
  have J : InstAt s.heap a _ C (some od) := ⟨at_, rfl, rfl, hod⟩
  refine PySem.W.set_plain I.kIn J c.sa (osa_openE (s := { s with toks := s.toks + 1 }) I.kIn J c no ?_)
  obtain ⟨cls, ic, hasD⟩ := any_some c.hd
  refine wpAny_bind (wpAny_pure (wpAny_bind (show wpAny _ _ (instanceDict a true) _ _ _ from ?_)))
  refine wpAny_bind (wpAny_loadPart (s := { s with toks := s.toks + 1 }) at_ (wpAny_bind (Looks.here (s := { s with toks := s.toks + 1 }) (looks_clsIn I.kIn ic) ?_)))
  rw [hasD]
  refine wpAny_pure (a := some d) (wpAny_bind (wpAny_pure (wpAny_bind (wpAny_nsSet1 (s := { s with toks := s.toks + 1 }) n fun h2 n2 sb => ?_))))
  obtain ⟨oD, esD, epD, hoD, hdD, hcD⟩ := n2.count (PySem.Within.cons f u wi)
  refine wpAny_bind (wpAny_lookBehind hoD (by rw [hdD]; exact pastItsLine_dict (Nat.le_trans hcD (by rw [List.length_cons, List.length_map, sizeLine_eq]; omega))) (wpAny_pure ?_))
  refine h _ (I.write (t' := s.toks + 2) (x := d) (e := d) (by rw [ed]; exact True.intro) (.inl rfl) (fun b o hb q => (sb.2 b hb).trans q) ⟨oD, hoD⟩ ?_)
  refine excD_mk (by have := length_putF f y fs; omega) n2 (fun g => ?_) (fun g hg => ?_)
  · show RelO ((putF f y fs).lookup g) (if g = f then some u else mA g)
    rw [lookup_putF]
    by_cases q : g = f
    · rw [if_pos q, if_pos q]; exact ry
    · rw [if_neg q, if_neg q]; exact r g
  · by_cases q : g = f
    · rw [q]; exact (keys_putF f y fs).1
    · exact (keys_putF f y fs).2 g (wi g fun z => hg ((if_neg q).trans z))
end
end L2
namespace L2
open PySem PySem.Spec PyProof.Rows PySem.W

/-! ### data -/
mutual
inductive Rep (H : Hp) : V → PyData → Prop where
  | non : Rep H .non .none
  | bl (b : Bool) : Rep H (.bl b) (.bool b)
  | int (i : Int) : Rep H (.int i) (.int i)
  | str (x : Str) : Rep H (.str x) (.str x)
  | lst {a : Addr} {xs : List V} {ds : List PyData} : H a = some (.lst xs) → RepAll H xs ds → Rep H (.ref a) (.list ds)
  | tup {a : Addr} {xs : List V} {ds : List PyData} : H a = some (.tup xs) → RepAll H xs ds → Rep H (.ref a) (.tuple ds)
inductive RepAll (H : Hp) : List V → List PyData → Prop where
  | nil : RepAll H [] []
  | cons {x : V} {d : PyData} {xs : List V} {ds : List PyData} : Rep H x d → RepAll H xs ds → RepAll H (x :: xs) (d :: ds)
end
section
variable {X : Cx} {pins : List (Addr × Obj)} {σ : St} {H H' : Hp} {s : Shared}
mutual
theorem Rep.reads (I : Inv X pins σ H s) : ∀ {v : V} {d : PyData} {u : Value}, Rep H v d → RelV v u → ∃ as, Reads s.heap u d as
  | _, _, _, .non, r => by cases r; exact ⟨_, .none⟩
  | _, _, _, .bl b, r => by cases r; exact ⟨_, .bool b⟩
  | _, _, _, .int i, r => by obtain ⟨t, rfl⟩ := r; exact ⟨_, .int i t⟩
  | _, _, _, .str x, r => by obtain ⟨t, rfl⟩ := r; exact ⟨_, .str x t⟩
  | _, _, _, .lst (a := a) (xs := xs) e rs, r => by
    cases r
    obtain ⟨_, its, n, rv, at_⟩ := (show ObjOk X.prog X.w H s.heap a (.lst xs) from I.hok a _ e)
    obtain ⟨as, ra⟩ := RepAll.reads I rs rv
    exact ⟨_, .list at_ rfl rfl ra⟩
  | _, _, _, .tup (a := a) (xs := xs) e rs, r => by
    cases r
    obtain ⟨_, its, rv, ob, at_, hc, n, hd, _⟩ := (show ObjOk X.prog X.w H s.heap a (.tup xs) from I.hok a _ e)
    obtain ⟨as, ra⟩ := RepAll.reads I rs rv
    exact ⟨_, .tuple at_ hc hd ra⟩
theorem RepAll.reads (I : Inv X pins σ H s) : ∀ {vs : List V} {ds : List PyData} {us : List Value}, RepAll H vs ds → Vals vs us → ∃ as, ReadsAll s.heap us ds as
  | _, _, _, .nil, r => by cases r; exact ⟨_, .nil⟩
  | _, _, _, .cons r rs, rv => by
    cases rv with
    | cons q qs =>
      obtain ⟨as, h1⟩ := Rep.reads I r q
      obtain ⟨bs, h2⟩ := RepAll.reads I rs qs
      exact ⟨_, .cons h1 h2⟩
end
mutual
theorem Rep.same : ∀ {v : V} {d : PyData}, Rep H v d → Same H H' → Rep H' v d
  | _, _, .non, _ => .non
  | _, _, .bl b, _ => .bl b
  | _, _, .int i, _ => .int i
  | _, _, .str x, _ => .str x
  | _, _, .lst e rs, k => .lst (k _ _ e) (RepAll.same rs k)
  | _, _, .tup e rs, k => .tup (k _ _ e) (RepAll.same rs k)
theorem RepAll.same : ∀ {vs : List V} {ds : List PyData}, RepAll H vs ds → Same H H' → RepAll H' vs ds
  | _, _, .nil, _ => .nil
  | _, _, .cons r rs, k => .cons (Rep.same r k) (RepAll.same rs k)
end
end
section
variable {X : Cx}
/-- == and != of data -/
def rEqD : R2 := fun x y H Q => ∃ da db, Rep H x da ∧ Rep H y db ∧ da.canLay0 = true ∧ db.canLay0 = true ∧ da.depth ≤ 60 ∧ Q (.bl (PyData.eqv da db)) H
def rNeD : R2 := fun x y H Q => ∃ da db, Rep H x da ∧ Rep H y db ∧ da.canLay0 = true ∧ db.canLay0 = true ∧ da.depth ≤ 60 ∧ Q (.bl (!PyData.eqv da db)) H
theorem op_eqD (hu : X.A.units + 64 < cLine) : OpR X (compareOp .Eq) rEqD := by
  intro pins s σ H x y v u Q I rx ry h
  obtain ⟨da, db, r1, r2, l1, l2, dp, q⟩ := h
  obtain ⟨as, h1⟩ := r1.reads I rx
  obtain ⟨bs, h2⟩ := r2.reads I ry
  exact SeqAt.compareEq_reads h1 h2 l1 l2 (by omega) ⟨.bl _, H, I, rfl, q⟩
theorem op_neD (hu : X.A.units + 64 < cLine) : OpR X (compareOp .NotEq) rNeD := by
  intro pins s σ H x y v u Q I rx ry h
  obtain ⟨da, db, r1, r2, l1, l2, dp, q⟩ := h
  obtain ⟨as, h1⟩ := r1.reads I rx
  obtain ⟨bs, h2⟩ := r2.reads I ry
  exact SeqAt.compareNe_reads h1 h2 l1 l2 (by omega) ⟨.bl _, H, I, rfl, q⟩
/-- in, not in, of data -/
def rInD (neg : Bool) : R2 := fun x y H Q => ∃ d ds, Rep H x d ∧ (Rep H y (.list ds) ∨ Rep H y (.tuple ds)) ∧ d.canLay0 = true ∧ PyData.canLayAll0 ds = true ∧ d.depth ≤ 60 ∧
  Q (.bl (if neg then !(ds.any fun y => PyData.eqv y d) else ds.any fun y => PyData.eqv y d)) H
/-! ### f-strings: a text comes, of so many signs at most -/
def FmtOk (H : Hp) (x : V) : Prop := (∃ z : Str, x = .str z ∧ z.length ≤ 100000) ∨ x = .non ∨ ∃ a d, x = .ref a ∧ Rep H x d ∧ d.showable = true ∧ d.hasDict = false ∧ d.depth ≤ 50 ∧ d.shown.length ≤ 100000
def tFmt (te : TE) : TE := fun σ H Q => te σ H fun x H1 => FmtOk H1 x ∧ ∀ y : Str, y.length ≤ 100000 → Q (.str y) H1
theorem pe_fmt {e : Expr} {te : TE} {pos : Pos} (hu : X.A.units + 64 < cLine) (hg : X.A.guards = some []) (he : PE X e te) : PE X (.FormattedValue e (-1) none pos) (tFmt te) := by
  intro pins s σ H Q I h
  refine wpAny_FormattedValue_plain (thn (he pins s σ H _ I h) fun v s1 ⟨x, H1, I1, rx, f, q⟩ => ?_)
  rcases f with ⟨z, rfl, hz⟩ | rfl | ⟨a, d, rfl, rd, hs, hd, hp, hl⟩
  · obtain ⟨t, rfl⟩ := rx
    exact wpAny_formatField_str ⟨.str z, H1, I1, ⟨_, rfl⟩, q z hz⟩ ⟨.str z, H1, I1.tok _, ⟨_, rfl⟩, q z hz⟩ (by rw [sizeLine_eq]; omega)
  · cases rx
    exact wpAny_formatField_none ⟨.str "None", H1, I1.tok _, ⟨_, rfl⟩, q _ (by decide)⟩
  · obtain ⟨as, r⟩ := rd.reads I1 rx
    cases rx
    exact formatField_of_reads r hs (fun z => by rw [hd] at z; cases z) hg (by omega) (fun _ _ z => z) (fun h' u tk k => ⟨.str d.shown, H1, I1.kept k, ⟨_, rfl⟩, q _ hl⟩) (by rw [sizeLine_eq]; omega)
/-- the parts of an f-string, from the left; only that they are texts is kept -/
def PJ (X : Cx) (vs : List Expr) (n : Nat) (t : St → Hp → (Hp → Prop) → Prop) : Prop :=
  ∀ (pins : List (Addr × Obj)) (s : Shared) (σ : St) (H : Hp) (acc : Str) (Q : Hp → Prop), acc.length + n * 100000 ≤ 2000000 → Inv X pins σ H s → t σ H Q →
    Joins (model X.prog X.w) X.A X.xe (evalEach vs X.env) acc (fun out s1 => out.length ≤ 2000000 ∧ ∃ H1, Inv X pins σ H1 s1 ∧ Q H1) s
def tPart1 (te : TE) (tr : St → Hp → (Hp → Prop) → Prop) : St → Hp → (Hp → Prop) → Prop := fun σ H Q => te σ H fun x H1 => (∃ y : Str, x = .str y ∧ y.length ≤ 100000) ∧ tr σ H1 Q
def tPart0 : St → Hp → (Hp → Prop) → Prop := fun _ H Q => Q H
theorem pj_nil : PJ X [] 0 tPart0 := fun pins s σ H acc Q hz I h => ⟨by omega, H, I, h⟩
theorem pj_cons {v : Expr} {vs : List Expr} {n : Nat} {te : TE} {tr : St → Hp → (Hp → Prop) → Prop} (hv : PE X v te) (hr : PJ X vs n tr) : PJ X (v :: vs) (n + 1) (tPart1 te tr) := by
  intro pins s σ H acc Q hz I h
  refine thn (hv pins s σ H _ I h) fun u s1 ⟨x, H1, I1, rx, ⟨y, e, hy⟩, q⟩ => ?_
  subst e
  obtain ⟨t, rfl⟩ := rx
  have hl : (acc ++ y).length = acc.length + y.length := strLen_append ..
  exact ⟨y, t, rfl, by rw [hl, sizeLine_eq]; omega, hr pins s1 σ H1 (acc ++ y) Q (by rw [hl]; omega) I1 q⟩
def tFstr (tr : St → Hp → (Hp → Prop) → Prop) : TE := fun σ H Q => tr σ H fun H1 => ∀ y : Str, y.length ≤ 2000000 → Q (.str y) H1
theorem pe_fstr {v1 v2 : Expr} {rest : List Expr} {pos : Pos} {n : Nat} {tr : St → Hp → (Hp → Prop) → Prop} (hr : PJ X (v1 :: v2 :: rest) n tr) (hn : n ≤ 20 := by decide) : PE X (.JoinedStr (v1 :: v2 :: rest) pos) (tFstr tr) := by
  intro pins s σ H Q I h
  have z := hr pins s σ H Str.empty _ (by have : Str.empty.length = 0 := rfl; omega) I h
  refine wpAny_JoinedStr ?_
  have mono : ∀ (l : List (Sem Value)) (acc : Str) (P P' : Str → Shared → Prop) (s : Shared), (∀ o s, P o s → P' o s) → Joins (model X.prog X.w) X.A X.xe l acc P s → Joins (model X.prog X.w) X.A X.xe l acc P' s := by
    intro l
    induction l with
    | nil => intro acc P P' s k q; exact k _ _ q
    | cons a l ih => intro acc P P' s k q; exact thn q fun v s1 ⟨y, t, e, hz, q'⟩ => ⟨y, t, e, hz, ih _ P P' s1 k q'⟩
  refine mono _ _ _ _ _ ?_ z
  rintro o s1 ⟨hz, H1, I1, q⟩
  exact ⟨by rw [sizeLine_eq]; omega, .str o, H1, I1.tok _, ⟨_, rfl⟩, q o hz⟩
end
end L2
namespace L2
open PySem PySem.Spec PyProof.Rows PySem.W

/-! ### errors are made -/
section
variable {X : Cx} {pins : List (Addr × Obj)} {σ : St} {H : Hp} {s : Shared} {C fI : Addr} {us : List Value} {vs : List V} {Q : VK} {CX : CXT} {k : Nat} {fd : FuncData} {ps : List Str} {sp : Sp} {E : XK} {x : Str} {p pos : Pos} {e : Expr} {es : List Expr} {t : TA}
def tExc0 (C : Addr) (t : TA) : TE := fun σ H Q => t σ H fun vs H1 => vs.length ≤ 100 ∧ ∀ e, H1 e = none → Q (.ref e) (upd H1 e (ExcO C none e))
theorem run_excI (q : excInI X.K C (some (.ref fI)) = true) (fn : isFn X.K (.ref fI) = true) (F : FnOk X.prog X.w X.K X.mg X.base CX k fI fd ps sp) (hr : Room (k + 1) X.A) (hb : Binds X.K fd ps []) (hx : Passes CX X E) (I : Inv X pins σ H s) (r : Vals vs us) (few : us.length ≤ 100)
    (h : ∀ e, H e = none → sp (.ref e :: vs) (upd H e (ExcO C none e)) (fun v H2 => v = .non ∧ Q (.ref e) H2) E) : wpAny (model X.prog X.w) X.A (call (.ref C) us) (EP X pins σ Q) X.xe s := by
  obtain ⟨⟨up, N, nm, qn, bs, hd, sn, sb, ab, col, od, a0, a1, a2, a3, a5, mN, at_, ns, ni, T⟩⟩ := exc_of_in I.kIn q
  obtain ⟨oI, lk, oc⟩ := Option.map_eq_some_iff.mp (show (X.K.lookup fI).map (·.cls) = some (.type "function") from beq_iff_eq.mp fn)
  have h1 := h (s.heap.objs.size + 1) (I.hok.fresh (Nat.le_succ _))
  have kIn := I.kIn
  have I2 : Inv X pins σ (upd H (s.heap.objs.size + 1) (ExcO C none (s.heap.objs.size + 1))) { s with heap := excNew s.heap C us } := I.put (fun _ _ z => excNew_keep z) (Heap.get?_none_of_le (Nat.le_succ _)) (excO_mk excNew_at)
  have e0 := I2.env0.make C us []
  have hr' := hr.make C us []
  have r2 : Vals (V.ref (s.heap.objs.size + 1) :: vs) (Value.ref (s.heap.objs.size + 1) :: us) := .cons rfl r
  have hl : (Value.ref (s.heap.objs.size + 1) :: us).length = ps.length := by rw [← r2.length]; exact F.len _ _ _ _ h1
  have hbd := hb { s with heap := excNew s.heap C us } (Value.ref (s.heap.objs.size + 1) :: us) I2.kIn (by rw [List.append_nil]; exact hl)
  rw [List.append_nil] at hbd
  have run := F.run _ X.stack _ _ ⟨Value.ref (s.heap.objs.size + 1) :: us, []⟩ (Value.ref (s.heap.objs.size + 1) :: us) _ _ E hr' e0 hbd r2 h1
  obtain ⟨hp, g, d, tk, os⟩ := s
  refine exc_call_initT PySem.F.excBase_ValueError T at_ ns ni (kIn _ _ lk) oc (by rw [sizeLine_eq]; omega) (wpAny_call (codeAny_mono run fun r s' hq => ?_))
  cases r with
  | error e => exact hx pins σ _ _ e s' I2 hq
  | ok fl =>
    cases fl with
    | ret u =>
      obtain ⟨v, H', I3, rv, ev, q3⟩ := I2.after hq
      subst ev
      exact ⟨rv, .ref (hp.objs.size + 1), H', I3, rfl, q3⟩
    | next => exact False.elim hq
    | brk => exact False.elim hq
    | cont => exact False.elim hq
def tExcI (C : Addr) (sp : Sp) (E : XK) (t : TA) : TE := fun σ H Q => t σ H fun vs H1 => vs.length ≤ 100 ∧ ∀ e, H1 e = none → sp (.ref e :: vs) (upd H1 e (ExcO C none e)) (fun v H2 => v = .non ∧ Q (.ref e) H2) E
theorem pe_excI (q : excInI X.K C (some (.ref fI)) = true) (fn : isFn X.K (.ref fI) = true) (kp : keepIn X.K (.ref C) = true) (F : FnOk X.prog X.w X.K X.mg X.base CX k fI fd ps sp) (hr : Room (k + 1) X.A) (hb : Binds X.K fd ps []) (hx : Passes CX X E)
    (hg : Gl X x) (hm : X.mg x = some (.ref C)) (ha : PA X (e :: es) t) (hdb : (x == ("__debug__" : Str)) = false := by decide)
    (he : starEach (e :: es) X.env = (false, eval e X.env) :: starEach es X.env := by rfl) (hpl : (backTo pos (starEach es X.env)).any (·.1) = false := by rfl) : PE X (.Call (.Name x p) (e :: es) [] pos) (tExcI C sp E t) := by
  intro pins s σ H Q I h
  refine wpAny_Call_Name_kw (ld_glob I hg hm ?_ hdb)
  refine callWith_K (h₀ := X.base) I.ok.mod.kin kp (thn (ha pos pins s σ H _ I h) fun us s1 ⟨vs, H1, I1, r, few, q1⟩ => ⟨I1.kIn, ?_⟩) he hpl
  exact run_excI q fn F hr hb hx I1 r (by show us.length ≤ 100; rw [← r.length]; exact few) q1

/-! ### Base.__init__(self, text) -/
structure BaseIn (K : Frag) (B : Addr) : Prop where
  rd : readsIn K B (.type "type") = true
  ga : specialIn K (.ref B) "__getattribute__" = some (some (.builtin "type.__getattribute__"))
  fi : findCls K (.ref B) (.type "type") "__init__" = some (.val (.builtin "ValueError.__init__"))
theorem run_baseInit {a : Addr} {dx : Option Addr} {u : Value} {i : Option Value} (c : XCls X.K C) (q : excInI X.K C i = true) (I : Inv X pins σ H s) (e : H a = some (ExcO C dx a)) (h : Q .non H) :
    wpAny (model X.prog X.w) X.A (call (.builtin "ValueError.__init__") [.ref a, u]) (EP X pins σ Q) X.xe s := by
  obtain ⟨t, at_⟩ := I.excAt e
  obtain ⟨⟨up, N, nm, qn, bs, hd, sn, sb, ab, col, od, a0, a1, a2, a3, a5, mN, atC, ns, ni, T⟩⟩ := exc_of_in I.kIn q
  have FI := PySem.F.excBase_ValueError
  obtain ⟨hp, g, d, tk, os⟩ := s
  refine wpAny_call (codeAny_call_builtin FI.init.plain FI.initEntry (wpAny_check_init_subT (rest := [u]) FI T atC at_ rfl ?_))
  have at1 : (hp.push { cls := .type "tuple", data := .seq #[u] }).get? a = some { cls := .ref C, dict := dx, data := .fields #[.ref t, .none, .none, .none, .bool false, .none] } := Heap.get?_push_of_some _ at_
  have at2 : ((hp.push { cls := .type "tuple", data := .seq #[u] }).update a (Obj.mapFields fun z => z.setIfInBounds 0 (.ref hp.objs.size))).get? a = some { cls := .ref C, dict := dx, data := .fields #[.ref hp.objs.size, .none, .none, .none, .bool false, .none] } := Heap.get?_update_self _ at1 rfl
  have fin : ∀ tk', EP X pins σ Q .none ⟨(hp.push { cls := .type "tuple", data := .seq #[u] }).update a (Obj.mapFields fun z => z.setIfInBounds 0 (.ref hp.objs.size)), g, d, tk', os⟩ := fun tk' => by
    refine ⟨.non, upd H a (ExcO C dx a), ?_, rfl, ?_⟩
    · exact Inv.write (s := ⟨hp, g, d, tk, os⟩) I (x := a) (e := a) (t' := tk') (by rw [e]; exact True.intro) (.inl rfl) (fun b o hb z => by rw [Heap.get?_update_other _ _ (Ne.symm hb)]; exact Heap.get?_push_of_some _ z) ⟨_, at2⟩ (excO_mk at2)
    · have : upd H a (ExcO C dx a) = H := by
        funext b; unfold upd
        by_cases hb : b = a
        · rw [if_pos hb, hb, e]
        · rw [if_neg hb]
      rw [this]; exact h
  wp_walk
  exact fin _
def tBaseInit (X : Cx) (t : TA) : TE := fun σ H Q => t σ H fun vs H1 => ∃ a C dx y i, vs = [.ref a, y] ∧ H1 a = some (ExcO C dx a) ∧ XCls X.K C ∧ excInI X.K C i = true ∧ Q .non H1
theorem pe_baseInit {B : Addr} {apos : Pos} {pl : Sem Bool} (b : BaseIn X.K B) (hg : Gl X x) (hm : X.mg x = some (.ref B)) (ha : PA X (e :: es) t) (hdb : (x == ("__debug__" : Str)) = false := by decide)
    (he : starEach (e :: es) X.env = (false, eval e X.env) :: starEach es X.env := by rfl) (hpl : (backTo pos (starEach es X.env)).any (·.1) = false := by rfl)
    (ht : eval (.Call (.Attribute (.Name x p) "__init__" apos) (e :: es) [] pos) X.env = (do
      let ov ← eval (.Name x p) X.env
      standAt apos.atName
      let (f, first) ← holding [ov] (getMethod ov "__init__" pl)
      callWith pos f first (backTo pos (starEach (e :: es) X.env)) (backToKw pos (keywordEach [] X.env))) := by rfl) :
    PE X (.Call (.Attribute (.Name x p) "__init__" apos) (e :: es) [] pos) (tBaseInit X t) := by
  intro pins s σ H Q I h
  refine methodCall_KW (pl := pl) (ld_glob I hg hm ?_ hdb) ht
  refine method_cls I.kIn b.ga (cls_value I.kIn b.rd b.fi rfl ?_)
  refine PyProof.Rows.callWith_builtin1 (thn (ha pos pins { s with toks := s.toks + 1 } σ H _ (I.tok _) h) fun us s1 ⟨vs, H1, I1, r1, q1⟩ => ?_) he hpl
  obtain ⟨a, C, dx, y, i, rfl, ea, c, qi, q⟩ := q1
  obtain ⟨u1, u2, rfl, r2, r3⟩ := r1.two
  cases r2
  exact run_baseInit c qi I1 ea q
end

/-! ### self.f = value, e.f, of an error -/
section
variable {X : Cx} {o value e : Expr} {f : Str} {pos pos' : Pos} {ta tv : TE}
def sXnew (X : Cx) (ta tv : TE) (f : Str) : TS := fun D σ H => tv σ H fun y H1 => ta σ H1 fun x H2 => ∃ a C, x = .ref a ∧ H2 a = some (ExcO C none a) ∧ XCls X.K C ∧ findIn X.K (.ref C) f = some none ∧
  ∀ d, H2 d = none → d ≠ a → D.nx σ (upd (upd H2 d (ExcD d [(f, y)])) a (ExcO C (some d) a))
theorem ps_xnew (ha : PE X o ta) (hv : PE X value tv) (hs : swapsWith value (some (.Attribute o f pos')) pos.line X.env = pure false := by rfl) : PS X (.Assign [.Attribute o f pos'] value pos) (sXnew X ta tv f) := by
  intro pins s σ H D I h
  refine plainObj_wpAny_Assign_Attribute (thn (hv pins s σ H _ I h) fun u s1 ⟨y, H1, I1, ry, q⟩ => thn (ha pins s1 σ H1 _ I1 q) fun ov s2 ⟨x, H2, I2, rx, a, C, ex, ea, c, n, q2⟩ => ?_) hs
  subst ex
  obtain rfl : ov = Value.ref a := rx
  exact excset_new I2 ea c n ry fun d s3 h1 h2 I3 => ⟨σ, _, I3, q2 d h1 h2⟩
def sXmore (X : Cx) (ta tv : TE) (f : Str) : TS := fun D σ H => tv σ H fun y H1 => ta σ H1 fun x H2 => ∃ a C d fs, x = .ref a ∧ H2 a = some (ExcO C (some d) a) ∧ H2 d = some (ExcD d fs) ∧ XCls X.K C ∧ findIn X.K (.ref C) f = some none ∧ fs.length < 100 ∧
  D.nx σ (upd H2 d (ExcD d (putF f y fs)))
theorem ps_xmore (ha : PE X o ta) (hv : PE X value tv) (hs : swapsWith value (some (.Attribute o f pos')) pos.line X.env = pure false := by rfl) : PS X (.Assign [.Attribute o f pos'] value pos) (sXmore X ta tv f) := by
  intro pins s σ H D I h
  refine plainObj_wpAny_Assign_Attribute (thn (hv pins s σ H _ I h) fun u s1 ⟨y, H1, I1, ry, q⟩ => thn (ha pins s1 σ H1 _ I1 q) fun ov s2 ⟨x, H2, I2, rx, a, C, d, fs, ex, ea, ed, c, n, few, q2⟩ => ?_) hs
  subst ex
  obtain rfl : ov = Value.ref a := rx
  exact excset_more I2 ea ed c n ry few fun s3 I3 => ⟨σ, _, I3, q2⟩
def tXget (X : Cx) (ta : TE) (f : Str) : TE := fun σ H Q => ta σ H fun x H1 => ∃ a C d fs v, x = .ref a ∧ H1 a = some (ExcO C (some d) a) ∧ H1 d = some (ExcD d fs) ∧ XCls X.K C ∧ findIn X.K (.ref C) f = some none ∧ fs.lookup f = some v ∧ Q v H1
/-! ### isinstance(x, C) -/
def rIsi (K : Frag) : List V → Hp → VK → Prop := fun xs H Q => ∃ x c t cv b, xs = [x, c] ∧ RelV c cv ∧ (TyOf K H x t ∨ ∃ a C dx, x = .ref a ∧ t = .ref C ∧ H a = some (ExcO C dx a) ∧ XCls K C ∧ (∀ d, dx = some d → ∃ fs, H d = some (ExcD d fs))) ∧ kitOne K t cv = some b ∧ Q (.bl b) H
theorem call_isi : CallR X (.builtin "isinstance") (fun xs H Q => (∃ x, (∃ C, xs = [x, .ref C]) ∨ (∃ T, xs = [x, .ty T])) ∧ rIsi X.K xs H Q) := by
  intro pins s σ H xs us Q I r h
  obtain ⟨hx, x, c, t, cv, b, rfl, rc, ty, e, q⟩ := h
  obtain ⟨u, w', rfl, ru, rw'⟩ := r.two
  have ecv : w' = cv := by
    obtain ⟨x', ⟨C, z⟩ | ⟨T, z⟩⟩ := hx
    · cases z; cases rc; cases rw'; rfl
    · cases z; cases rc; cases rw'; rfl
  subst ecv
  rcases ty with ty | ⟨a, C, dx, rfl, rfl, ea, c, hd⟩
  · exact isinst_ok I ru ty e fun tk => ⟨.bl b, H, I.tok _, rfl, q⟩
  · cases ru
    obtain ⟨t, at_⟩ := I.excAt ea
    cases dx with
    | none =>
      have J : InstAt s.heap a _ C none := ⟨at_, rfl, rfl, True.intro⟩
      exact kia_one (kitx_exc c) I.kIn J e (fun z => nomatch z) fun tk => ⟨.bl b, H, I.tok _, rfl, q⟩
    | some d =>
      obtain ⟨fs, ed⟩ := hd d rfl
      obtain ⟨_, mA, n, _⟩ := I.excDict ed
      obtain ⟨od, hod, _⟩ := lookIn_ns n
      have J : InstAt s.heap a _ C (some od) := ⟨at_, rfl, rfl, hod⟩
      exact kia_one (kitx_exc c) I.kIn J e (fun z => nomatch z) fun tk => ⟨.bl b, H, I.tok _, rfl, q⟩
end
end L2
namespace L2
open PySem PySem.Spec PyProof.Rows PySem.W

/-! ### enumerate over a list -/
def Ite (K : Frag) (l : Addr) : It :=
  ⟨fun i H => ∃ xs x, SqL K H l xs ∧ xs[i]? = some x, fun i H x H' => ∃ t v, H t = none ∧ x = .ref t ∧ (∀ xs, SqL K H l xs → xs[i]? = some v) ∧ H' = upd H t (.tup [.int i, v]), fun i H => ∃ xs, SqL K H l xs ∧ xs.length ≤ i⟩
theorem turn_enum {P : Program} {w : World} {K : Frag} {elts : List Expr} {n1 : Nat} {tp : Pos} (l e it : Addr) (hne : e ≠ it) :
    Turn P w K (.Tuple elts n1 tp) (Ite K l) [e, it] e (fun i h => (∃ old, IsEnum h e it i old) ∧ h.IsListIter it l i) where
  mem := by simp
  obj := fun i h st b hb => by
    obtain ⟨⟨old, h1⟩, h2⟩ := st
    rcases List.mem_cons.mp hb with z | z
    · subst z; exact ⟨_, h1, fun v q => by cases q⟩
    · have z' : b = it := by simpa using z
      subst z'
      obtain ⟨o, q, _, d⟩ := h2
      exact ⟨o, q, fun v z => by rw [d] at z; cases z⟩
  keep := fun i h h' st k => by
    obtain ⟨⟨old, h1⟩, h2⟩ := st
    exact ⟨⟨old, k e (by simp) _ h1⟩, h2.at fun o q => k it (by simp) o q⟩
  item := by
    intro X hP hw hK hc i pins s σ H E I hf st hg
    subst hP hw hK
    obtain ⟨xs, x, hq, hx⟩ := hg
    obtain ⟨its, rv, p, hz⟩ := I.list hq
    obtain ⟨u, hu, ru⟩ := rv.get hx
    obtain ⟨⟨old, h1⟩, h2⟩ := st
    have fe := hf e (by simp)
    have fi := hf it (by simp)
    refine wpAny_pyNext_enum_item h1 h2 p.isList (x := u) (by simpa using hu) hne fun h' e1 i1 t1 z1 k1 => ⟨_, rfl, ?_⟩
    refine wpAny_letOwnedTupleGo_enum (s := { s with heap := h', toks := s.toks + 1 }) e1 fun h'' e2 sb => ?_
    have eS : e ≠ s.heap.objs.size := Nat.ne_of_lt (Heap.lt_size h1)
    have k2 : ∀ b o, b ≠ e → b ≠ it → s.heap.get? b = some o → h''.get? b = some o := fun b o n1 n2 q => (sb.2 b n1).trans (k1 b o n1 n2 q)
    have t2 : h''.get? s.heap.objs.size = some { cls := .type "tuple", data := .seq #[.int i s.toks, u] } := (sb.2 _ (Ne.symm eS)).trans t1
    have hn : H s.heap.objs.size = none := I.hok.fresh (Nat.le_refl _)
    have lt : ∀ b o, s.heap.get? b = some o → b ≠ s.heap.objs.size := fun b o q => Nat.ne_of_lt (Heap.lt_size q)
    have trk : ∀ b o, H b = some o → b ≠ e ∧ b ≠ it := fun b o q => ⟨(fun z => by rw [z, fe.1] at q; cases q), (fun z => by rw [z, fi.1] at q; cases q)⟩
    have nch : ∀ b, b ∉ [e, it] → b ≠ e ∧ b ≠ it := fun b hb => ⟨fun z => hb (by simp [z]), fun z => hb (by simp [z])⟩
    have J : Inv X pins σ (upd H s.heap.objs.size (.tup [.int i, x])) { s with heap := h'', toks := s.toks + 1 } := by
      refine I.step (g' := s.gens) (d' := s.drawn) (t' := s.toks + 1) (ch := [e, it]) (fun b hb => ?_) (fun b o _ _ hc q _ => k2 b o (nch b hc).1 (nch b hc).2 q) (fun b o _ _ hc q _ => ⟨o.slots, k2 b o (nch b hc).1 (nch b hc).2 q⟩)
        (fun b o _ q n => by rw [upd_ne (lt b o q)]; exact n) (fun b o hc q => ⟨o, k2 b o (nch b hc).1 (nch b hc).2 q⟩) (fun b ys q => by rw [upd_ne (ne_of_none q hn)]; exact q) (fun b o v q => by rw [upd_ne (ne_of_none q hn)]; exact q)
        (fun b ps q => ⟨#[], by rw [upd_ne (ne_of_none q hn), q]; simp⟩) (fun m hm => ?_) (fun b o q => ?_) I.bare
      · rcases List.mem_cons.mp hb with z | z
        · subst z; exact ⟨fe.2.2.2.1, fe.2.1, fe.2.2.2.2.1, fe.2.2.2.2.2⟩
        · have z' : b = it := by simpa using z
          subst z'; exact ⟨fi.2.2.2.1, fi.2.1, fi.2.2.2.2.1, fi.2.2.2.2.2⟩
      · obtain ⟨o, es, ep, ho, r⟩ := hm
        exact ⟨o, es, ep, k2 _ o (Ne.symm fe.2.1) (Ne.symm fi.2.1) ho, r⟩
      · by_cases hb : b = s.heap.objs.size
        · subst hb
          rw [upd_same] at q; cases q
          exact ⟨by rw [sizeLine_eq]; show 2 ≤ _; decide, [.int i s.toks, u], .cons ⟨_, rfl⟩ (.cons ru .nil), _, t2, rfl, _, rfl, rfl⟩
        · rw [upd_ne hb] at q
          refine (I.hok b o q).stay (fun c v hc z => ?_) (fun c z => by rw [upd_ne (ne_of_none z hn)]; exact z) fun c ys z => by rw [upd_ne (ne_of_none z hn)]; exact z
          rcases hc with hc | hc
          · subst hc; exact k2 _ v (trk _ _ q).1 (trk _ _ q).2 z
          · exact k2 c v (trk _ _ hc).1 (trk _ _ hc).2 z
    refine ⟨.ref s.heap.objs.size, _, J, rfl, ⟨s.heap.objs.size, x, hn, rfl, fun ys hy => by rw [I.list_inj hy hq]; exact hx, rfl⟩, ⟨⟨u, e2⟩, ?_⟩, fun b hb => ?_⟩
    · exact i1.extBut sb.extBut (Ne.symm hne)
    · have : b ≠ s.heap.objs.size := by
        rcases List.mem_cons.mp hb with z | z
        · rw [z]; exact eS
        · have z' : b = it := by simpa using z
          obtain ⟨o, q, _⟩ := h2
          rw [z']; exact lt _ _ q
      rw [upd_ne this]; exact (hf b hb).1
  done := by
    intro X hP hw hK hc i pins s σ H E I hf st hg
    subst hP hw hK
    obtain ⟨xs, hq, hx⟩ := hg
    obtain ⟨its, rv, p, hz⟩ := I.list hq
    obtain ⟨⟨old, h1⟩, h2⟩ := st
    have fi := hf it (by simp)
    have hl := rv.length
    exact wpAny_pyNext_enum_end (I.ok.hd hc) h1 h2 p.isList (by simp; omega) fun h' eb => ⟨rfl, I.turned (t' := s.toks) (fun b o hb q => eb b o hb q) fi.1 fi.2.1 fi.2.2.2.1 fi.2.2.2.2.1 fi.2.2.2.2.2⟩
  self := fun _ _ _ _ _ st h => let ⟨⟨_, h1⟩, _⟩ := st; wpAny_pyIter_enum h1 h
section
variable {X : Cx}
def iEnum (K : Frag) (ta : TA) : TI := fun σ H R => ta σ H fun vs H1 => ∃ a, vs = [.ref a] ∧ (∃ xs, SqL K H1 a xs) ∧ R (Ite K a) H1
theorem pi_enum {a : Expr} {ta : TA} {p pos tp : Pos} {elts : List Expr} {n1 : Nat} (hg : Gl X "enumerate") (hm : X.mg "enumerate" = none) (ha : PA X [a] ta) (hs : starEach [a] X.env = [(false, eval a X.env)] := by rfl) :
    PI X (.Tuple elts n1 tp) (.Call (.Name "enumerate" p) [a] [] pos) (iEnum X.K ta) := by
  intro pins s σ H R I h
  refine Call_ (ld_blt I hg hm (show bootBuiltins "enumerate" = some (.type "enumerate") by decide +kernel) (PyProof.Rows.callWith_type1 (thn (ha pos pins s σ H _ I h) fun us s1 ⟨vs, H1, I1, r1, q1⟩ => ?_) hs rfl))
  obtain ⟨l, e, ⟨xs, hq⟩, q⟩ := q1
  subst e
  obtain ⟨u, rfl, ru⟩ := r1.one
  cases ru
  obtain ⟨its, rv, pl, hz⟩ := I1.list hq
  refine call_enumerate_list pl.isList fun h' e1 i1 z1 k1 => ?_
  have I2 : Inv X pins σ H1 { s1 with heap := h' } := I1.kept (t' := s1.toks) k1
  refine wpAny_pyIter_enum (s := { s1 with heap := h' }) e1 ?_
  refine ⟨s1.heap.objs.size + 1, [s1.heap.objs.size + 1, s1.heap.objs.size], _, _, H1, rfl, I2, turn_enum l (s1.heap.objs.size + 1) s1.heap.objs.size (Nat.succ_ne_self _), ⟨⟨.none, e1⟩, i1⟩, fun b hb => ?_, q⟩
  rcases List.mem_cons.mp hb with z | z
  · subst z; exact I1.fpOk (Nat.le_succ _) (I1.hok.fresh (Nat.le_succ _))
  · have z' : b = s1.heap.objs.size := by simpa using z
    subst z'; exact I1.fpOk (Nat.le_refl _) (I1.hok.fresh (Nat.le_refl _))

/-! ### texts: join, slices -/
theorem strsAre_of : ∀ {ys : List Str} {us : List Value}, Vals (ys.map V.str) us → StrsAre us ys := by
  intro ys
  induction ys with
  | nil => intro us r; cases r; exact .nil
  | cons y ys ih =>
    intro us r
    cases r with
    | cons q qs =>
      obtain ⟨t, rfl⟩ := q
      exact .cons _ _ (ih qs)
def rJoin (K : Frag) : V → List V → Hp → VK → Prop := fun x vs H Q => ∃ (z : Str) (p : Addr) (ys : List Str), x = .str z ∧ vs = [.ref p] ∧ (SqL K H p (ys.map V.str) ∨ SqT K H p (ys.map V.str)) ∧ (ys.map (·.length)).sum + ys.length * z.length ≤ 1000000 ∧ Q (.str (Txt.join z ys)) H
theorem mt_join : MtR X "str.join" (rJoin X.K) := by
  intro pins s σ H x xs v us Q I rx rv h
  obtain ⟨z, p, ys, rfl, rfl, hp, hz, q⟩ := h
  obtain ⟨t, rfl⟩ := rx
  obtain ⟨u, rfl, ru⟩ := rv.one
  cases ru
  rcases hp with hp | hp
  · obtain ⟨its, r, pl, _⟩ := I.list hp
    exact join_list pl.isList (by simpa using strsAre_of r) (by omega) fun t' k => ⟨.str _, H, I.tok _, ⟨_, rfl⟩, q⟩
  · obtain ⟨its, r, pl, _⟩ := I.tuple hp
    exact join_tuple pl (by simpa using strsAre_of r) (by omega) fun t' k => ⟨.str _, H, I.tok _, ⟨_, rfl⟩, q⟩
def rSlS : V → Option Int → Option Int → Hp → VK → Prop := fun x lo hi H Q => ∃ z : Str, x = .str z ∧ z.length ≤ 1000000 ∧ Q (.str (Txt.slice z lo hi)) H
theorem sl_str : SlR X rSlS := by
  intro pins s σ H x v vl vu lo hi sl Q I rx hs pl pu h
  obtain ⟨z, rfl, hz, q⟩ := h
  obtain ⟨t, rfl⟩ := rx
  have fz : (Txt.slice z lo hi).length ≤ sizeLine := Nat.le_trans (Txt.slice_le z _ _) (by rw [sizeLine_eq]; omega)
  refine ⟨"str", _, PySem.F.slot_str_getitem.lookup, typeIs_str _ _ _, ?_⟩
  cases pl with
  | none =>
    cases pu with
    | none => exact wpAny_getItem_str_slice (l := none) (u := none) (st := none) hs rfl (post_val_or_str ⟨fz, fun t' k => ⟨.str _, H, I.tok _, ⟨_, rfl⟩, q⟩⟩)
    | int j tj => exact wpAny_getItem_str_slice (l := none) (u := some (j, tj)) (st := none) hs rfl (post_val_or_str ⟨fz, fun t' k => ⟨.str _, H, I.tok _, ⟨_, rfl⟩, q⟩⟩)
  | int i ti =>
    cases pu with
    | none => exact wpAny_getItem_str_slice (l := some (i, ti)) (u := none) (st := none) hs rfl (post_val_or_str ⟨fz, fun t' k => ⟨.str _, H, I.tok _, ⟨_, rfl⟩, q⟩⟩)
    | int j tj => exact wpAny_getItem_str_slice (l := some (i, ti)) (u := some (j, tj)) (st := none) hs rfl (post_val_or_str ⟨fz, fun t' k => ⟨.str _, H, I.tok _, ⟨_, rfl⟩, q⟩⟩)
end

/-! ### the forms one uses of a comprehension -/
def CW (Pv : Nat → List V → St → Hp → Prop) (n i m : Nat) (ys : List V) (τ : St) (H : Hp) : Prop := m = n - i ∧ i ≤ n ∧ Pv i ys τ H
theorem cw_next {Pv : Nat → List V → St → Hp → Prop} {n i : Nat} {ys : List V} {τ : St} {H : Hp} (h : i < n) (p : Pv (i + 1) ys τ H) : ∃ m', m' < n - i ∧ CW Pv n (i + 1) m' ys τ H := ⟨n - (i + 1), by omega, rfl, h, p⟩
/-- over a range -/
theorem comp_range {lo : Int} {n : Nat} {g : TG} {ti : TT} {te : TE} {τ0 : St} {Q : VK} {p : Addr} {H1 : Hp} (Pv : Nat → List V → St → Hp → Prop) (h0 : Pv 0 [] τ0 (upd H1 p (.lst []))) (hl : ∀ i ys τ H, Pv i ys τ H → H p = some (.lst ys))
    (hs : ∀ i ys τ H, i < n → Pv i ys τ H → g (.int (lo + i)) τ H fun τ4 H4 => ti τ4 H4 fun b H5 => if b = true then te τ4 H5 fun y H6 => H6 p = some (.lst ys) ∧ ys.length < sizeLine ∧ ∃ m', m' < n - i ∧ CW Pv n (i + 1) m' (ys ++ [y]) τ4 (upd H6 p (.lst (ys ++ [y]))) else ∃ m', m' < n - i ∧ CW Pv n (i + 1) m' ys τ4 H5)
    (hd : ∀ ys τ H, Pv n ys τ H → Q (.ref p) H) : CompW (Itr lo n) g ti te τ0 Q p H1 := by
  refine ⟨CW Pv n, ⟨n, by simp, Nat.zero_le _, h0⟩, ?_⟩
  rintro i m ys τ H ⟨rfl, hi, pv⟩
  refine ⟨hl i ys τ H pv, ?_⟩
  by_cases hlt : i < n
  · refine .inr ⟨hlt, fun x H3 y3 => ?_⟩
    obtain ⟨e3, ex⟩ := y3
    subst e3 ex
    exact hs i ys τ _ hlt pv
  · have e : i = n := by omega
    subst e
    exact .inl ⟨Nat.le_refl _, hd ys τ H pv⟩
/-- over a list, over a tuple, that the block leaves as it is -/
theorem comp_list {K : Frag} {a : Addr} {xs : List V} {g : TG} {ti : TT} {te : TE} {τ0 : St} {Q : VK} {p : Addr} {H1 : Hp} (Pv : Nat → List V → St → Hp → Prop) (h0 : Pv 0 [] τ0 (upd H1 p (.lst []))) (hl : ∀ i ys τ H, Pv i ys τ H → H p = some (.lst ys) ∧ SqL K H a xs)
    (hs : ∀ i x ys τ H, xs[i]? = some x → Pv i ys τ H → g x τ H fun τ4 H4 => ti τ4 H4 fun b H5 => if b = true then te τ4 H5 fun y H6 => H6 p = some (.lst ys) ∧ ys.length < sizeLine ∧ ∃ m', m' < xs.length - i ∧ CW Pv xs.length (i + 1) m' (ys ++ [y]) τ4 (upd H6 p (.lst (ys ++ [y]))) else ∃ m', m' < xs.length - i ∧ CW Pv xs.length (i + 1) m' ys τ4 H5)
    (hd : ∀ ys τ H, Pv xs.length ys τ H → Q (.ref p) H) : CompW (Itl K a) g ti te τ0 Q p H1 := by
  refine ⟨CW Pv xs.length, ⟨xs.length, by simp, Nat.zero_le _, h0⟩, ?_⟩
  rintro i m ys τ H ⟨rfl, hi, pv⟩
  obtain ⟨hp, hq⟩ := hl i ys τ H pv
  refine ⟨hp, ?_⟩
  by_cases hlt : i < xs.length
  · refine .inr ⟨⟨xs, xs[i], hq, by simp [hlt]⟩, fun x H3 y3 => ?_⟩
    obtain ⟨e3, ex⟩ := y3
    subst e3
    exact hs i x ys τ _ (ex xs hq) pv
  · have e : i = xs.length := by omega
    subst e
    exact .inl ⟨⟨xs, hq, Nat.le_refl _⟩, hd ys τ H pv⟩
theorem comp_tup {K : Frag} {a : Addr} {xs : List V} {g : TG} {ti : TT} {te : TE} {τ0 : St} {Q : VK} {p : Addr} {H1 : Hp} (Pv : Nat → List V → St → Hp → Prop) (h0 : Pv 0 [] τ0 (upd H1 p (.lst []))) (hl : ∀ i ys τ H, Pv i ys τ H → H p = some (.lst ys) ∧ SqT K H a xs)
    (hs : ∀ i x ys τ H, xs[i]? = some x → Pv i ys τ H → g x τ H fun τ4 H4 => ti τ4 H4 fun b H5 => if b = true then te τ4 H5 fun y H6 => H6 p = some (.lst ys) ∧ ys.length < sizeLine ∧ ∃ m', m' < xs.length - i ∧ CW Pv xs.length (i + 1) m' (ys ++ [y]) τ4 (upd H6 p (.lst (ys ++ [y]))) else ∃ m', m' < xs.length - i ∧ CW Pv xs.length (i + 1) m' ys τ4 H5)
    (hd : ∀ ys τ H, Pv xs.length ys τ H → Q (.ref p) H) : CompW (Itt K a) g ti te τ0 Q p H1 := by
  refine ⟨CW Pv xs.length, ⟨xs.length, by simp, Nat.zero_le _, h0⟩, ?_⟩
  rintro i m ys τ H ⟨rfl, hi, pv⟩
  obtain ⟨hp, hq⟩ := hl i ys τ H pv
  refine ⟨hp, ?_⟩
  by_cases hlt : i < xs.length
  · refine .inr ⟨⟨xs, xs[i], hq, by simp [hlt]⟩, fun x H3 y3 => ?_⟩
    obtain ⟨e3, ex⟩ := y3
    subst e3
    exact hs i x ys τ _ (ex xs hq) pv
  · have e : i = xs.length := by omega
    subst e
    exact .inl ⟨⟨xs, hq, Nat.le_refl _⟩, hd ys τ H pv⟩
/-- the free names of a block, checked -/
def fvOk (N N' : List Str) (ixs : List (Option Nat)) (sc : Scope) : Bool := (List.range ixs.length).all fun j => match ixs[j]? with
  | some (some i) => (match N[i]? with | some x => N'[j]? == some x && sc.names.lookup x == some .free | none => false)
  | _ => true
theorem fv_of {N N' : List Str} {ixs : List (Option Nat)} {sc : Scope} (h : fvOk N N' ixs sc = true) (j i : Nat) (e : ixs[j]? = some (some i)) : ∃ x, N[i]? = some x ∧ N'[j]? = some x ∧ sc.names.lookup x = some .free := by
  have hj : j < ixs.length := (List.getElem?_eq_some_iff.mp e).1
  have z := List.all_eq_true.mp h j (List.mem_range.mpr hj)
  rw [e] at z
  dsimp only at z
  split at z
  · rename_i x q
    obtain ⟨z1, z2⟩ := Bool.and_eq_true_iff.mp z
    exact ⟨x, q, beq_iff_eq.mp z1, beq_iff_eq.mp z2⟩
  · cases z

/-! ### names -/
structure Nm (x : Str) : Prop where
  lo : 1 ≤ x.length
  hi : x.length ≤ 8
  az : ∀ c ∈ x.cps.toList, 97 ≤ c ∧ c ≤ 122
def sign (c : Nat) : Str := ⟨#[c]⟩
theorem fold_signs : ∀ (cs : List Nat) (acc : Array Nat), (cs.map sign).foldl (fun acc p => acc ++ ("" : Str).cps ++ p.cps) acc = acc ++ cs.toArray
  | [], acc => by simp
  | c :: cs, acc => by
    rw [List.map_cons, List.foldl_cons, fold_signs cs]
    have e : ("" : Str).cps = #[] := rfl
    rw [e]
    apply Array.toList_inj.mp
    simp [sign]
theorem join_signs (cs : List Nat) : Txt.join ("" : Str) (cs.map sign) = ⟨cs.toArray⟩ := by
  unfold Txt.join Builtin.Str.glued
  cases cs with
  | nil => rfl
  | cons c cs =>
    rw [List.map_cons]
    show (⟨(cs.map sign).foldl _ (sign c).cps⟩ : Str) = _
    rw [fold_signs]
    apply congrArg Str.mk
    apply Array.toList_inj.mp
    simp [sign]
theorem slice6_mem {z : Str} {c : Nat} (h : c ∈ (Txt.slice z none (some 6)).cps.toList) : c ∈ z.cps.toList := by
  unfold Txt.slice at h
  split at h
  · exact h
  · simp only [List.mem_filterMap] at h
    obtain ⟨i, _, e⟩ := h
    obtain ⟨_, e2⟩ := Array.getElem?_eq_some_iff.mp e
    rw [← e2]; simp
theorem slice6_len (z : Str) : (Txt.slice z none (some 6)).length ≤ 6 := by
  have hi : (Builtin.Str.strSliceIndices none (some 6) 1 z.length).length ≤ 6 := by
    unfold Builtin.Str.strSliceIndices sliceRange
    simp only [show (1 : Int) > 0 by decide, if_true, List.length_map, List.length_range]
    split <;> (try split) <;> omega
  unfold Txt.slice
  split
  · rename_i h
    have e : (Builtin.Str.strSliceIndices none (some 6) 1 z.length).length = z.length := by simpa using h
    omega
  · show (List.filterMap _ _).toArray.size ≤ 6
    rw [List.size_toArray]
    exact Nat.le_trans (List.length_filterMap_le _ _) hi
theorem strApp (a b : Str) : (a ++ b).cps = a.cps ++ b.cps := rfl
theorem cand_nm {z : Str} {c : Nat} (hz : ∀ c ∈ z.cps.toList, 97 ≤ c ∧ c ≤ 122) (hc : 97 ≤ c ∧ c ≤ 122) : Nm (Txt.slice z none (some 6) ++ sign c ++ ("q" : Str)) := by
  have hq : ("q" : Str).cps = #[113] := by decide +kernel
  have hl := slice6_len z
  have e : (Txt.slice z none (some 6) ++ sign c ++ ("q" : Str)).length = (Txt.slice z none (some 6)).length + 2 := by
    show (_ : Array Nat).size = _
    rw [strApp, strApp, hq]
    show (_ ++ #[c] ++ #[113]).size = _
    rw [Array.size_append, Array.size_append]; rfl
  refine ⟨by omega, by omega, fun d hd => ?_⟩
  rw [strApp, strApp, hq] at hd
  have hd' : d ∈ (Txt.slice z none (some 6)).cps.toList ∨ d = c ∨ d = 113 := by
    have : d ∈ ((Txt.slice z none (some 6)).cps ++ #[c] ++ #[113]).toList := hd
    simp at this
    rcases this with h | h | h
    · exact .inl (by simpa using h)
    · exact .inr (.inl h)
    · exact .inr (.inr h)
  rcases hd' with h | h | h
  · exact hz d (slice6_mem h)
  · rw [h]; exact hc
  · rw [h]; omega
theorem cand_inj {p : Str} {c d : Nat} (h : p ++ sign c ++ ("q" : Str) = p ++ sign d ++ ("q" : Str)) : c = d := by
  have h1 := congrArg (fun s : Str => s.cps.toList) h
  simp only [strApp] at h1
  have h2 : p.cps.toList ++ ([c] ++ ("q" : Str).cps.toList) = p.cps.toList ++ ([d] ++ ("q" : Str).cps.toList) := by
    simpa [sign, Array.toList_append] using h1
  have h3 := List.append_cancel_left h2
  simpa using h3
theorem pigeon : ∀ {ys found : List Str}, ys.Nodup → found.length < ys.length → ∃ y ∈ ys, y ∉ found
  | [], found, _, h => by simp at h
  | y :: ys, found, nd, h => by
    obtain ⟨n1, n2⟩ := List.nodup_cons.mp nd
    by_cases hy : y ∈ found
    · have hl := List.length_erase_of_mem hy
      have hp := List.length_pos_of_mem hy
      obtain ⟨z, hz, hn⟩ := pigeon (found := found.erase y) n2 (by rw [hl]; rw [List.length_cons] at h; omega)
      refine ⟨z, List.mem_cons_of_mem _ hz, fun q => hn ?_⟩
      have ne : z ≠ y := fun e => n1 (by rw [← e]; exact hz)
      exact (List.mem_erase_of_ne ne).mpr q
    · exact ⟨y, List.mem_cons_self, hy⟩
end L2
namespace L2
open PySem PySem.Spec PyProof.Rows PySem.W
/-! ### the rules with the fragment named (within a comprehension's block) -/
section
variable {X : Cx}
theorem op_in_K (K : Frag) (h : X.K = K) : OpR X (compareOp .In) (rIn K false) := by subst h; exact op_in_seq
theorem op_notIn_K (K : Frag) (h : X.K = K) : OpR X (compareOp .NotIn) (rIn K true) := by subst h; exact op_notIn_seq
theorem ix_tup_K (K : Frag) (h : X.K = K) : IxR X (rIxT K) := by subst h; exact ix_tup
theorem pi_tup_K {tg l : Expr} {tl : TE} (K : Frag) (h : X.K = K) (hl : PE X l tl) : PI X tg l (iTup K tl) := by subst h; exact pi_tup hl
theorem call_isi_K (K : Frag) (h : X.K = K) : CallR X (.builtin "isinstance") (fun xs H Q => (∃ x, (∃ C, xs = [x, .ref C]) ∨ (∃ T, xs = [x, .ty T])) ∧ rIsi K xs H Q) := by subst h; exact call_isi
end
theorem inV_strs (x : Str) (ys : List Str) : inV (.str x) (ys.map V.str) = decide (x ∈ ys) := by
  unfold inV
  rw [List.any_map]
  induction ys with
  | nil => simp
  | cons y ys ih =>
    rw [List.any_cons, ih]
    show ((y == x) || decide (x ∈ ys)) = decide (x ∈ y :: ys)
    by_cases h : y = x
    · subst h; simp
    · have h' : (y == x) = false := beq_eq_false_iff_ne.mpr h
      rw [h', Bool.false_or]
      have : x ∈ y :: ys ↔ x ∈ ys := by simp [Ne.symm h]
      simp [this]
theorem flat_strs (ys : List Str) : (ys.map V.str).all flatV = true := by
  rw [List.all_eq_true]
  intro v hv
  obtain ⟨y, _, rfl⟩ := List.mem_map.mp hv
  rfl
end L2
namespace L2
open PySem PySem.Spec PyProof.Rows PySem.W

/-! ### an own error that is raised, leaves its def, and is caught by the caller -/
/-- the error itself is let go out of what is tracked -/
def dropA (H : Hp) (a : Addr) : Hp := fun b => if b = a then none else H b
theorem dropA_ne {H : Hp} {a b : Addr} (n : b ≠ a) : dropA H a b = H b := by unfold dropA; rw [if_neg n]
theorem dropA_some {H : Hp} {a b : Addr} {o : HO} (e : dropA H a b = some o) : b ≠ a ∧ H b = some o := by
  unfold dropA at e
  split at e
  · cases e
  next n => exact ⟨n, e⟩
theorem dropA_none {H : Hp} {a b : Addr} (e : H b = none) : dropA H a b = none := by
  unfold dropA; split
  · rfl
  · exact e
/-- how such an error flies: whatever comes next keeps what B has, and of the rest at least all but the slots -/
def CXR (P : Program) (w : World) : CXT := fun outer H s E e s' => ∃ (a : Addr) (cls a0 : Value) (H' : Hp) (B : Heap), e = .ref a ∧ s'.os = s.os ∧ AllBare s'.gens ∧ Heap.FlyingW B outer a cls a0 s'.heap ∧
  (∀ h', B.StaysIn h' → s'.heap.UpToSlots h' → Un (frs outer) [] H H' s.heap h' ∧ HOk P w H' h') ∧ E cls none H'

section
variable {X : Cx} {pins : List (Addr × Obj)} {σ : St} {H H1 : Hp} {s s1 : Shared} {a C : Addr} {dx : Option Addr}
/-- an own error as an instance -/
theorem Inv.excInst (I : Inv X pins σ H s) (e : H a = some (ExcO C dx a)) (hd : ∀ d, dx = some d → ∃ fs, H d = some (ExcD d fs)) : ∃ ox od t, InstAt s.heap a ox C od ∧ ox = { cls := .ref C, dict := dx, data := .fields #[.ref t, .none, .none, .none, .bool false, .none] } := by
  obtain ⟨t, at_⟩ := I.excAt e
  cases dx with
  | none => exact ⟨_, none, t, ⟨at_, rfl, rfl, True.intro⟩, rfl⟩
  | some d =>
    obtain ⟨fs, ed⟩ := hd d rfl
    obtain ⟨_, mA, n, r, _⟩ := I.excDict ed
    obtain ⟨od, hod, _⟩ := lookIn_ns n
    exact ⟨_, some od, t, ⟨at_, rfl, rfl, hod⟩, rfl⟩
/-- what is tracked behind the frames' and the error's hiding -/
theorem Inv.hidden (I : Inv X pins σ H s) (hx : X.ex = []) (hs : X.stack = X.env :: X.outer) (hf : X.env.frame = some X.env.locals) (ha : H a = some (ExcO C dx a)) (h0 : X.H₀ a = none) {h' : Heap}
    (k : (hideAll s.heap (a :: frs X.stack)).StaysIn h') (up : s.heap.UpToSlots h') : Un X.fs [] X.H₀ (dropA H a) X.s₀.heap h' ∧ HOk X.prog X.w (dropA H a) h' := by
  have ub : Un X.fs [] X.H₀ H X.s₀.heap s.heap := by have := I.base; rw [hx] at this; exact this
  have memS : ∀ b, b ∈ frs X.stack → b = X.env.locals ∨ b ∈ X.fs := fun b hb => by
    have := I.stkSub b hb
    rcases List.mem_cons.mp this with z | z
    · exact .inl z
    · exact .inr z
  have nA : ∀ {b : Addr}, H b = none → b ≠ a := fun e z => by subst z; rw [ha] at e; cases e
  have get : ∀ b o, s.heap.get? b = some o → b ≠ a → b ∉ frs X.stack → h'.get? b = some o := fun b o e n m => k b o (hideAll_get _ e fun z => by
    rcases List.mem_cons.mp z with z | z
    · exact n z
    · exact m z)
  have oldL : ∀ b o, X.s₀.heap.get? b = some o → b ≠ X.env.locals := fun b o e z => by
    have h1 := Heap.lt_size e
    have h2 := I.ok.above
    subst z
    exact absurd h1 (Nat.not_lt.mpr h2)
  have slotU : ∀ b o, b ∈ X.fs → s.heap.get? b = some o → ∃ sl, h'.get? b = some { o with slots := sl } := fun b o m e => by
    obtain ⟨_, o', e', nf⟩ := (I.funs).mem m
    rw [e] at e'
    cases e'
    exact up b o e nf
  refine ⟨⟨fun b o e n m _ => ?_, fun b o e n m _ => ?_, fun b o e n _ => dropA_none (ub.free b o e n (by simp)), fun b o e _ => ?_, fun b xs e => ?_, fun b o u e => ?_, fun b ps e => ?_⟩, fun b o e => ?_⟩
  · have e1 := ub.keep b o e n m (by simp)
    refine get b o e1 (nA (ub.free b o e n (by simp))) fun z => ?_
    rcases memS b z with z | z
    · exact oldL b o e z
    · exact m z
  · obtain ⟨sl, e1⟩ := ub.slot b o e n m (by simp)
    obtain ⟨sl', e2⟩ := slotU b _ m e1
    exact ⟨sl', e2⟩
  · obtain ⟨o', e1⟩ := ub.there b o e (by simp)
    by_cases m : b ∈ X.fs
    · obtain ⟨sl, e2⟩ := slotU b _ m e1
      exact ⟨_, e2⟩
    · refine ⟨o', get b o' e1 (fun z => ?_) fun z => ?_⟩
      · subst z
        have := ub.free b o e h0 (by simp)
        rw [ha] at this; cases this
      · rcases memS b z with z | z
        · exact oldL b o e z
        · exact m z
  · have e1 := ub.tups b xs e
    rw [dropA_ne (ne_of e1 ha (by intro z; cases z))]; exact e1
  · have e1 := ub.frzs b o u e
    rw [dropA_ne (ne_of e1 ha (by intro z; cases z))]; exact e1
  · obtain ⟨mo, e1⟩ := ub.tbls b ps e
    exact ⟨mo, by rw [dropA_ne (ne_of e1 ha (by intro z; cases z))]; exact e1⟩
  · obtain ⟨n, e1⟩ := dropA_some e
    have nofr : ∀ {c : Addr} {u : HO}, H c = some u → c ∉ frs X.stack := fun q m => by
      have := I.stkFree _ m
      rw [q] at this; cases this
    refine (I.hok b o e1).stay (fun c u hc q => ?_) (fun c q => ?_) fun c xs q => ?_
    · rcases hc with rfl | q1
      · exact get _ u q n (nofr e1)
      · exact get c u q (ne_of q1 ha (by intro z; cases z)) (nofr q1)
    · rw [dropA_ne (ne_of q ha (by intro z; cases z))]; exact q
    · rw [dropA_ne (ne_of q ha (by intro z; cases z))]; exact q
end

section
variable {X : Cx} {pins : List (Addr × Obj)} {σ : St} {H H1 : Hp} {s s1 : Shared} {a C : Addr} {dx : Option Addr}
end

section
variable {P : Program} {w : World} {K : Frag} {mg : Str → Option Value} {base : Heap} {N : List Str} {qual : Str} {scope : Scope} {f : Addr} {cd : Value} {A : Around} {outer : List Env} {s : Shared} {H : Hp} {E : XK}
/-- raise in a def's own body -/
def sRaise (K : Frag) (H0 : Hp) (E : XK) (te : TE) : TS := fun _ σ H => te σ H fun v H1 => ∃ a C dx i, v = .ref a ∧ H1 a = some (ExcO C dx a) ∧ (∀ d, dx = some d → ∃ fs, H1 d = some (ExcD d fs)) ∧ XCls K C ∧ excInI K C i = true ∧ H0 a = none ∧ E (.ref C) none (dropA H1 a)
end

/-! ### try: x = f(..) except C: .. -/
/-- within the except suite -/
def Cx.caught (X : Cx) (a : Addr) : Cx := { X with A := X.A.mark (some (.ref a)), calm := false, xe := fun _ _ => False }
section
variable {X : Cx} {pins : List (Addr × Obj)} {σ : St} {H : Hp} {s : Shared} {a C : Addr}
theorem Inv.caught (I : Inv X pins σ H s) (a : Addr) : Inv (X.caught a) pins σ H s :=
  ⟨⟨I.ok.mod, I.ok.kind, I.ok.glob, I.ok.blt, I.ok.above, I.ok.inj, I.ok.has, I.ok.cab, (fun z => Bool.noConfusion (show false = true from z)), I.ok.frames, I.ok.stk, I.ok.exf, I.ok.bs, I.ok.bsz, I.ok.noex, I.ok.exfs, I.ok.funs, I.ok.frf⟩, I.os, I.bare, I.base, I.loc, I.cell, I.free, I.freeC, I.pin, I.hok, I.len⟩
theorem Inv.uncaught {Y : Cx} (ok : X.Ok) (I : Inv (X.caught a) pins σ H s) : Inv X pins σ H s :=
  ⟨ok, I.os, I.bare, I.base, I.loc, I.cell, I.free, I.freeC, I.pin, I.hok, I.len⟩
theorem SP.uncaught {D : Ends} {f : Flow} (ok : X.Ok) (h : SP (X.caught a) pins D f s) : SP X pins D f s := by
  cases f with
  | next => obtain ⟨σ', H', I, q⟩ := h; exact ⟨σ', H', I.uncaught (Y := X) ok, q⟩
  | brk => obtain ⟨σ', H', I, q⟩ := h; exact ⟨σ', H', I.uncaught (Y := X) ok, q⟩
  | cont => obtain ⟨σ', H', I, q⟩ := h; exact ⟨σ', H', I.uncaught (Y := X) ok, q⟩
  | ret u => obtain ⟨v, σ', H', I, r, q⟩ := h; exact ⟨v, σ', H', I.uncaught (Y := X) ok, r, q⟩
/-- an own error meets a clause that names its class -/
theorem exc_matches {A : Around} {E : Value → Shared → Prop} {Q : Bool → Shared → Prop} {P : Program} {w : World} {K : Frag} {ox : Obj} {i : Option Value} (X : K.In s.heap) (c : XCls K C) (me : mroIn K C (.ref C) = some true) (q : excInI K C i = true) (at_ : s.heap.get? a = some ox) (cl : ox.cls = .ref C) (h : Q true s) :
    wpAny (model P w) A (excMatches (.ref a) (.ref C)) Q E s := by
  obtain ⟨bm, N, nm, qn, bs, hdct, sn, sub, ab, col, dd, k0, k1, k2, k3, k5, mN, hC, _, _, T⟩ := (exc_of_in X q).ex
  obtain ⟨hh, g, d, tk, os⟩ := s
  exact wpAny_excMatches_sub_self hC at_ cl (T.hasType (by decide)) h
end

section
variable {X : Cx} {k i : Nat} {f C : Addr} {fd : FuncData} {ps : List Str} {sp : Sp} {x fn cn : Str} {p1 p2 p3 p4 p5 p6 p7 : Pos} {e : Expr} {es : List Expr} {t : TA} {b0 : Stmt} {suite : List Stmt} {th : TS} {ci : Option Value}
def sTryCall (C : Addr) (sp : Sp) (i : Nat) (t : TA) (th : TS) : TS := fun D σ H => t σ H fun vs H1 => sp vs H1 (fun v H2 => D.nx (σ.set i (some v)) H2) fun cls _ H2 => cls = .ref C ∧ th D σ H2
end
end L2
namespace L2
open PySem PySem.Spec PyProof.Rows PySem.W

/-! ### any(rows): a list of tuples -/
section
variable {P : Program} {w : World} {A : Around} {R : Result → Shared → Prop}
theorem any_tups {it l : Addr} {its : Array Value} {g : Heap} (tr : Nat → Bool) (hh : A.in1.handled = none) (hne : l ≠ it) (hl : g.IsList l its)
    (ht : ∀ i v, its[i]? = some v → ∃ a ws, v = .ref a ∧ a ≠ it ∧ IsTup g a ws ∧ ws.size ≤ sizeLine ∧ tr i = !ws.isEmpty) : ∀ (k i : Nat) (s : Shared), its.size - i = k → i ≤ its.size → (∀ b o, b ≠ it → g.get? b = some o → s.heap.get? b = some o) → s.heap.IsListIter it l i →
    (∀ h' tk, (∀ b o, b ≠ it → g.get? b = some o → h'.get? b = some o) → R (.ok (.ret (.bool (((List.range its.size).drop i).any tr)))) { s with heap := h', toks := tk }) →
    codeAny (model P w) A (.builtin "any.loop" ⟨[.ref it], []⟩) R s := by
  intro k
  induction k with
  | zero =>
    intro i s hk hi kp hit hR
    obtain rfl : i = its.size := by omega
    refine codeAny_builtin F.entry_any_loop (?_ : wpAny _ _ _ _ _ _)
    rw [show A.under (.builtin "any.loop" ⟨[.ref it], []⟩) = A.in1 from Around.under_plainId F.plain_any_loop _]
    show wpAny _ _ (pyNext (.ref it) >>= _) _ _ s
    have hl' : s.heap.IsList l its := hl.at fun o e => kp l o hne e
    refine wpAny_bind (wpAny_pyNext_list_end hh hit hl' (by simp) fun h' ex => wpAny_bind (wpAny_rule (wpAny_pure ?_)))
    have := hR h' s.toks fun b o n e => ex b o n (kp b o n e)
    rw [List.drop_of_length_le (by simp)] at this
    exact this
  | succ k ih =>
    intro i s hk hi kp hit hR
    have hlt : i < its.size := by omega
    have hd : (List.range its.size).drop i = i :: (List.range its.size).drop (i + 1) := by rw [List.drop_eq_getElem_cons (by simpa using hlt), List.getElem_range]
    refine codeAny_builtin F.entry_any_loop (?_ : wpAny _ _ _ _ _ _)
    rw [show A.under (.builtin "any.loop" ⟨[.ref it], []⟩) = A.in1 from Around.under_plainId F.plain_any_loop _]
    show wpAny _ _ (pyNext (.ref it) >>= _) _ _ s
    have hl' : s.heap.IsList l its := hl.at fun o e => kp l o hne e
    have hx : its[i]? = some its[i] := by simp [hlt]
    obtain ⟨a, ws, ea, na, htup, hz, htr⟩ := ht i _ hx
    refine wpAny_bind (wpAny_pyNext_list_item hit hl' hx fun h' hit' sb => ?_)
    have kp' : ∀ b o, b ≠ it → g.get? b = some o → h'.get? b = some o := fun b o n e => sb.extBut b o n (kp b o n e)
    have htup' : IsTup h' a ws := by
      obtain ⟨o, ho, r⟩ := htup
      exact ⟨o, kp' a o na ho, r⟩
    rw [ea]
    refine wpAny_bind (wpAny_holding (truthy_tuple (s := { s with heap := h' }) htup' (by rw [sizeLine_eq] at hz; omega) (wpAny_bind (wpAny_letGo ?_))))
    rw [← htr]
    cases hb : tr i with
    | false =>
      refine wpAny_pure ⟨plainId_quiet F.plain_any_loop _, ih (i + 1) _ (by omega) hlt kp' hit' fun h2 tk2 k2 => ?_⟩
      have := hR h2 tk2 k2
      rw [hd, List.any_cons, hb, Bool.false_or] at this
      exact this
    | true =>
      refine wpAny_bind (wpAny_rule (wpAny_pure ?_))
      have := hR h' (s.toks + 1 + 1) kp'
      rw [hd, List.any_cons, hb, Bool.true_or] at this
      exact this
end
section
variable {X : Cx}
/-- any(list of tuples) -/
theorem call_anyT (hc : X.calm = true) : CallR X (.builtin "any") (fun xs H Q => ∃ (p : Addr) (ys : List V) (rs : List (List V)), xs = [.ref p] ∧ SqL X.K H p ys ∧ Paired (fun y r => ∃ a, y = V.ref a ∧ SqT X.K H a r) ys rs ∧ Q (.bl (rs.any fun r => !r.isEmpty)) H) := by
  intro pins s σ H xs us Q I r h
  obtain ⟨p, ys, rs, rfl, hq, pr, q⟩ := h
  obtain ⟨u, rfl, rx⟩ := vals1 r
  cases rx
  obtain ⟨its, rv, pl, hz⟩ := I.list hq
  have hlen := rv.length
  have all : ∀ i v, its[i]? = some v → ∃ a ws, v = .ref a ∧ IsTup s.heap a ws ∧ ws.size ≤ sizeLine ∧ (rs.map fun r => !r.isEmpty).getD i false = !ws.isEmpty := by
    intro i v e
    clear q hq pl hz r
    induction rv generalizing rs i with
    | nil => simp at e
    | cons r1 rt ih =>
      cases pr with
      | cons p1 pt =>
        cases i with
        | zero =>
          simp at e
          subst e
          obtain ⟨a, rfl, ha⟩ := p1
          cases r1
          obtain ⟨ws, r2, ht, hz2⟩ := I.tuple ha
          have hl2 := r2.length
          exact ⟨a, _, rfl, ht, by rw [List.size_toArray]; omega, by rw [isEmpty_of r2]; rfl⟩
        | succ i => exact ih _ pt (by simpa using hlen) i (by simpa using e)
  have hsz : its.toArray.size = rs.length := by rw [List.size_toArray, ← hlen]; exact Paired.length pr
  have fin : (List.range its.toArray.size).any (fun i => (rs.map fun r => !r.isEmpty).getD i false) = rs.any fun r => !r.isEmpty := by
    rw [hsz]
    apply Bool.eq_iff_iff.mpr
    simp only [List.any_eq_true, List.mem_range]
    constructor
    · rintro ⟨i, hi, e⟩
      refine ⟨rs[i], List.getElem_mem hi, ?_⟩
      simpa [List.getD, hi] using e
    · rintro ⟨r, hr, e⟩
      obtain ⟨i, hi, rfl⟩ := List.getElem_of_mem hr
      exact ⟨i, hi, by simpa [List.getD, hi] using e⟩
  refine call_function_tree F.kind_any F.plain_any F.entry_any (F.args_any1 (.ref p)) (?_ : wpAny _ _ _ _ _ _)
  unfold Builtin.«any»
  refine wpAny_bind (m := oneArg "any" _) (wpAny_pure (wpAny_bind (wpAny_pyIter_list pl.isList ?_)))
  have new : ∀ b o, s.heap.get? b = some o → b ≠ s.heap.objs.size := fun b o e => Nat.ne_of_lt (Heap.lt_size e)
  obtain ⟨ol, hol, _⟩ := id pl.isList
  refine wpAny_pure ⟨plainId_quiet F.plain_any_loop _, any_tups (g := s.heap) (fun i => (rs.map fun r => !r.isEmpty).getD i false) (I.ok.hd hc) (new p ol hol) pl.isList (fun i v e => ?_) _ 0 _ rfl (Nat.zero_le _) (fun b o n e => Heap.get?_push_of_some _ e) ⟨_, Heap.get?_push_size _ rfl, rfl, rfl⟩ fun h' tk kp => ?_⟩
  · obtain ⟨a, ws, ea, ht, hz2, e2⟩ := all i v (by simpa using e)
    obtain ⟨o, ho, _⟩ := id ht
    exact ⟨a, ws, ea, new a o ho, ht, hz2, e2⟩
  · rw [List.drop_zero, fin]
    exact ⟨.bl _, H, I.kept (t' := tk) fun b o e => kp b o (new b o e) e, rfl, q⟩
end

section
variable {X : Cx}
/-- all(list of bools) -/
theorem call_allB (hc : X.calm = true) : CallR X (.builtin "all") (fun xs H Q => ∃ (p : Addr) (bs : List Bool), xs = [.ref p] ∧ SqL X.K H p (bs.map V.bl) ∧ Q (.bl (bs.all id)) H) := by
  intro pins s σ H xs us Q I r h
  obtain ⟨p, bs, rfl, hq, q⟩ := h
  obtain ⟨u, rfl, rx⟩ := vals1 r
  cases rx
  obtain ⟨its, rv, pl, hz⟩ := I.list hq
  have hlen := rv.length
  have vals : its = bs.map Value.bool := by
    clear q hq pl hz r hlen
    induction bs generalizing its with
    | nil => cases rv; rfl
    | cons b bs ih =>
      cases rv with
      | cons r1 rt => cases r1; rw [ih _ rt]; rfl
  have new : ∀ b o, s.heap.get? b = some o → b ≠ s.heap.objs.size := fun b o e => Nat.ne_of_lt (Heap.lt_size e)
  obtain ⟨ol, hol, _⟩ := id pl.isList
  refine call_all_walk (wpAny_pyIter_list pl.isList ?_)
  refine ⟨s.heap.objs.size, _, _, _, _, _, fun i => bs.getD i true, rfl, Walks.list (A := X.A.in1) (I.ok.hd hc) s.heap.objs.size p (new p ol hol) its.toArray, ⟨⟨_, Heap.get?_push_size _ rfl, rfl, rfl⟩, pl.isList.at fun o e => Heap.get?_push_of_some _ e⟩, fun i v s2 Q2 E2 hv hq2 => ?_, fun h' tk kp => ?_⟩
  · rw [vals] at hv
    have : bs[i]?.map Value.bool = some v := by simpa using hv
    obtain ⟨b, hb, rfl⟩ := Option.map_eq_some_iff.mp this
    refine wpAny_truthy_bool ?_
    have e : bs.getD i true = b := by rw [List.getD_eq_getElem?_getD, hb]; rfl
    exact e ▸ hq2
  · have fin : (List.range its.toArray.size).all (fun i => bs.getD i true) = bs.all id := by
      have hs : its.toArray.size = bs.length := by rw [vals]; simp
      rw [hs]
      apply Bool.eq_iff_iff.mpr
      simp only [List.all_eq_true, List.mem_range]
      constructor
      · intro h b hb
        obtain ⟨i, hi, rfl⟩ := List.getElem_of_mem hb
        simpa [List.getD, hi] using h i hi
      · intro h i hi
        simpa [List.getD, hi] using h bs[i] (List.getElem_mem hi)
    rw [fin]
    exact ⟨.bl _, H, I.kept (t' := tk) fun b o e => kp b o (by simpa using new b o e) (Heap.get?_push_of_some _ e), rfl, q⟩
/-- xs.index(x), a list of texts -/
def rIndexL : V → List V → Hp → VK → Prop := fun x vs H Q => ∃ (l : Addr) (ys : List Str) (y : Str) (j : Nat), x = .ref l ∧ vs = [.str y] ∧ H l = some (.lst (ys.map V.str)) ∧ ys[j]? = some y ∧ (∀ m, m < j → ys[m]? ≠ some y) ∧ Q (.int j) H
theorem mt_index : MtM X "list.index" rIndexL := by
  intro pins s σ H x vs v us Q I rx rv h
  obtain ⟨l, ys, y, j, rfl, rfl, hH, hj, hno, q⟩ := h
  cases rx
  obtain ⟨u, rfl, t, rfl⟩ := rv.one
  obtain ⟨z, its, n, r, hl, e⟩ := I.lstM hH
  have hjl : j < its.length := by
    have := (List.getElem?_eq_some_iff.mp hj).1
    rw [← hl, List.length_map]; exact this
  have at_ : ∀ m (hm : m < its.length), ∃ (w : Str) (t' : Tok), ys[m]? = some w ∧ its[m] = .str w t' := fun m hm => by
    have hm' : m < ys.length := by rw [← hl, List.length_map] at hm; exact hm
    obtain ⟨u, hu, t', ht⟩ := r.get (i := m) (x := .str ys[m]) (by rw [List.getElem?_map, List.getElem?_eq_getElem hm']; rfl)
    rw [List.getElem?_eq_getElem hm] at hu
    exact ⟨ys[m], t', List.getElem?_eq_getElem hm', by rw [Option.some.inj hu]; exact ht⟩
  have fl : (ys.map V.str).all flatV = true := flat_strs ys
  refine call_meets F.slot_list_index ⟨_, e, rfl⟩ F.entry_list_index (F.args_list_index_2 _ _) (SeqAt.list_indexAt l its.toArray n none #[] (.str y t) (eqU (.str y)) j (by simpa using hjl) ?_ ?_ ?_) ⟨e, ?_, ?_⟩
  · rw [sizeLine_eq] at z; have := hl; omega
  · obtain ⟨w, t', hw, ew⟩ := at_ j hjl
    rw [hj] at hw; cases hw
    show eqU (.str y) (its.toArray[j]) = true
    rw [List.getElem_toArray, ew, eqU_of (y := .str y) ⟨t', rfl⟩ rfl]
    show decide _ = true
    exact decide_eq_true rfl
  · intro m hm hmj
    have hm' : m < its.length := by simpa using hm
    obtain ⟨w, t', hw, ew⟩ := at_ m hm'
    show eqU (.str y) (its.toArray[m]) = false
    rw [List.getElem_toArray, ew, eqU_of (y := .str w) ⟨t', rfl⟩ rfl]
    have ne := hno m hmj
    rw [hw] at ne
    show decide _ = false
    exact decide_eq_false fun z => ne (by rw [z])
  · intro u hu
    exact mem_eqAt (x := .str y) ⟨t, rfl⟩ rfl r fl u (by simpa using hu)
  · exact ⟨.int j, H, I.tok _, ⟨_, rfl⟩, q⟩
end

section
variable {X : Cx} {e : Expr} {te : TE} {pos p2 p3 p4 : Pos} {k : Nat}
/-- xs[::-1], a list -/
def tRev (K : Frag) (te : TE) : TE := fun σ H Q => te σ H fun x H2 => ∃ (l : Addr) (xs : List V), x = .ref l ∧ SqL K H2 l xs ∧ ∀ p, H2 p = none → Q (.ref p) (upd H2 p (.lst xs.reverse))
theorem pe_rev (he : PE X e te) : PE X (.Subscript e (.Slice none none (some (.UnaryOp .USub (.Constant (.int 1) k p3) p4)) p2) pos) (tRev X.K te) := by
  intro pins s σ H Q I h
  refine Subscript_ (thn (he pins s σ H _ I h) fun v s1 ⟨x, H1, I1, r1, l, xs, ex, hx, q⟩ => ?_)
  subst ex
  cases r1
  refine wpAny_Slice ?_
  rw [evalPart_none]
  refine wpAny_pure (wpAny_pure ?_)
  refine thn (po_some (pe_un un_neg pe_int) pins s1 σ H1 (fun o H' => o = some (-1) ∧ H' = H1) I1 ⟨_, rfl, _, rfl, rfl, rfl⟩) fun vs s4 ⟨o, H4, I4, ps, eo, eH⟩ => ?_
  subst eo eH
  have I5 : Inv X pins σ H4 { s4 with heap := s4.heap.push { cls := .type "slice", data := .fields #[.none, .none, vs] } } := I4.kept (t' := s4.toks) fun b ob z => Heap.get?_push_of_some _ z
  obtain ⟨its, r, ht, hz⟩ := I5.list hx
  have hlen := r.length
  refine tail_any (ops := _) ht.isList.typeIs slot_list_getitem.lookup ?_ (by with_unfolding_all rfl)
  refine wpAny_getItem_list_slice ht.isList (Heap.IsSliceOf.new ..) .none .none ps (by decide) ?_ (by rw [List.size_toArray]; omega)
  rw [krv_pick]
  refine ⟨.ref _, _, I5.laid (t' := s4.toks) (o := .lst xs.reverse) (fun b ob z => Heap.get?_push_of_some _ z) (Nat.le_refl _) ?_, rfl, q _ (I5.hok.fresh (Nat.le_refl _))⟩
  exact ⟨by rw [List.length_reverse]; exact hz, its.reverse, 0, r.reverse, Heap.get?_push_size _ rfl⟩
end
end L2
/-! ### an own error keeps its attributes while it flies -/
namespace L2
open PySem PySem.Spec PyProof.Rows PySem.W
/-- nothing that a tree does touches an object's dict -/
def KD {α : Type} : Sem α → Prop
  | .pure _ => True
  | .raise _ => True
  | .unsupported _ => True
  | .finish _ => True
  | .rule _ k => KD (k ())
  | .at _ k => KD (k ())
  | .load _ _ k => ∀ o, KD (k o)
  | .update _ _ f k => (∀ o, (f o).dict = o.dict) ∧ KD (k ())
  | .alloc _ k => ∀ a, KD (k a)
  | .loadIfAlive _ k => ∀ o, KD (k o)
  | .point _ k => KD (k ())
  | .register _ _ => False
  | .fresh k => ∀ t, KD (k t)
  | .ask k => ∀ x, KD (k x)
  | .choose _ _ k => ∀ n, KD (k n)
  | .os _ _ k => ∀ r, KD (k r)
  | .call _ _ _ _ _ => False
  | .handled _ k => ∀ v, KD (k v)
  | .newGen _ k => ∀ n, KD (k n)
  | .genState _ k => ∀ x, KD (k x)
  | .resume _ _ _ _ => False
  | .yield _ _ _ _ => False
  | .stack k => ∀ l, KD (k l)
  | .fork _ _ => False
  | .thread k => ∀ n, KD (k n)
  | .await _ _ _ _ _ => False
/-- each object stays, with its dict -/
def RD (h h' : Heap) : Prop := ∀ (a : Addr) (o : Obj), h.objs[a]? = some o → ∃ o', h'.objs[a]? = some o' ∧ o'.dict = o.dict
theorem RD.refl (h : Heap) : RD h h := fun a o e => ⟨o, e, rfl⟩
theorem RD.trans {h1 h2 h3 : Heap} (a : RD h1 h2) (b : RD h2 h3) : RD h1 h3 := fun x o e => by
  obtain ⟨o1, e1, d1⟩ := a x o e
  obtain ⟨o2, e2, d2⟩ := b x o1 e1
  exact ⟨o2, e2, d2.trans d1⟩
theorem RD.push {h0 h : Heap} (r : RD h0 h) (o : Obj) : RD h0 (h.push o) := r.trans fun x u e => ⟨u, by
  obtain ⟨objs, l⟩ := h
  show (objs.push o)[x]? = some u
  have hx : x < objs.size := (Array.getElem?_eq_some_iff.mp e).1
  rw [Array.getElem?_push, if_neg (Nat.ne_of_lt hx)]; exact e, rfl⟩
theorem RD.update {h0 h : Heap} (r : RD h0 h) {a : Addr} {f : Obj → Obj} (hf : ∀ o, (f o).dict = o.dict) : RD h0 (h.update a f) := r.trans fun x u e => by
  obtain ⟨objs, l⟩ := h
  show ∃ o', (objs.modify a f)[x]? = some o' ∧ _
  rw [Array.getElem?_modify]
  have e' : objs[x]? = some u := e
  by_cases c : a = x
  · rw [if_pos c, e']; exact ⟨f u, rfl, hf u⟩
  · rw [if_neg c]; exact ⟨u, e', rfl⟩
theorem RD.dict {h h' : Heap} (r : RD h h') {a : Addr} {o o' : Obj} (e : h.get? a = some o) (e' : h'.get? a = some o') : o'.dict = o.dict := by
  have raw : ∀ {g : Heap} {u : Obj}, g.get? a = some u → g.objs[a]? = some u := fun {g u} q => by
    unfold Heap.get? at q
    split at q
    · cases q
    · exact q
  obtain ⟨o2, e2, d⟩ := r a o (raw e)
  rw [raw e'] at e2
  cases e2
  exact d
theorem kd_wp {α : Type} {M : Model} {Γ : PySem.Ctx} {h0 : Heap} : ∀ {t : Sem α} {Q : α → Pos → Shared → Prop} {E : Value → Pos → Shared → Prop} {p : Pos} {s : Shared}, KD t → RD h0 s.heap → Sem.wp M Γ t Q E p s →
    Sem.wp M Γ t (fun v p s' => Q v p s' ∧ RD h0 s'.heap) (fun v p s' => E v p s' ∧ RD h0 s'.heap) p s := by
  intro t
  induction t with
  | pure a => intro Q E p s _ r h; exact ⟨h, r⟩
  | raise e => intro Q E p s _ r h; exact ⟨h, r⟩
  | unsupported w => intro Q E p s _ r h; exact h
  | finish e => intro Q E p s _ r h; exact h
  | rule t k ih => intro Q E p s kd r h; exact ih () kd r h
  | «at» q k ih => intro Q E p s kd r h; exact ih () kd r h
  | load a q k ih => intro Q E p s kd r h; obtain ⟨o, e, h⟩ := h; exact ⟨o, e, ih o (kd o) r h⟩
  | update a q f k ih => intro Q E p s kd r h; exact ⟨h.1, ih () kd.2 (r.update kd.1) h.2⟩
  | alloc o k ih => intro Q E p s kd r h; exact ih _ (kd _) (r.push o) h
  | loadIfAlive a k ih => intro Q E p s kd r h; exact ih _ (kd _) r h
  | point l k ih => intro Q E p s kd r h; exact ih () kd r h
  | register a k ih => intro Q E p s kd r h; exact h
  | fresh k ih => intro Q E p s kd r h; exact ih _ (kd _) r h
  | ask k ih => intro Q E p s kd r h; exact ih _ (kd _) r h
  | choose src n k ih => intro Q E p s kd r h; exact ⟨h.1, ih _ (kd _) r h.2⟩
  | os q l k ih => intro Q E p s kd r h; exact ih _ (kd _) r h
  | call c hd g l k ih => intro Q E p s kd r h; exact False.elim kd
  | handled own k ih => intro Q E p s kd r h; exact ih _ (kd _) r h
  | newGen c k ih => intro Q E p s kd r h; exact ih _ (kd _) r h
  | genState g k ih => intro Q E p s kd r h; obtain ⟨st, e, h⟩ := h; exact ⟨st, e, ih _ (kd _) r h⟩
  | resume g rs l k ih => intro Q E p s kd r h; exact False.elim kd
  | yield v g l k ih => intro Q E p s kd r h; exact False.elim kd
  | stack k ih => intro Q E p s kd r h; exact ih _ (kd _) r h
  | fork c k ih => intro Q E p s kd r h; exact False.elim kd
  | thread k ih => intro Q E p s kd r h; exact ih _ (kd _) r h
  | await a t b l k ih => intro Q E p s kd r h; exact False.elim kd
theorem kd_any {α : Type} {M : Model} {A : Around} {t : Sem α} {Q : α → Shared → Prop} {E : Value → Shared → Prop} {s : Shared} (k : KD t) (h : wpAny M A t Q E s) :
    wpAny M A t (fun v s' => Q v s' ∧ RD s.heap s'.heap) (fun v s' => E v s' ∧ RD s.heap s'.heap) s := fun Γ p hi => kd_wp k (RD.refl _) (h Γ p hi)
theorem KD.bind {α β : Type} {f : α → Sem β} (hf : ∀ x, KD (f x)) : ∀ {t : Sem α}, KD t → KD (t.bind f) := by
  intro t
  induction t with
  | pure a => intro _; exact hf a
  | raise e => intro _; trivial
  | unsupported w => intro _; trivial
  | finish e => intro _; trivial
  | rule t k ih => intro kd; exact ih () kd
  | «at» q k ih => intro kd; exact ih () kd
  | load a q k ih => intro kd o; exact ih o (kd o)
  | update a q g k ih => intro kd; exact ⟨kd.1, ih () kd.2⟩
  | alloc o k ih => intro kd a; exact ih a (kd a)
  | loadIfAlive a k ih => intro kd o; exact ih o (kd o)
  | point l k ih => intro kd; exact ih () kd
  | register a k ih => intro kd; exact False.elim kd
  | fresh k ih => intro kd o; exact ih o (kd o)
  | ask k ih => intro kd o; exact ih o (kd o)
  | choose src n k ih => intro kd o; exact ih o (kd o)
  | os q l k ih => intro kd o; exact ih o (kd o)
  | call c hd g l k ih => intro kd; exact False.elim kd
  | handled own k ih => intro kd o; exact ih o (kd o)
  | newGen c k ih => intro kd o; exact ih o (kd o)
  | genState g k ih => intro kd o; exact ih o (kd o)
  | resume g rs l k ih => intro kd; exact False.elim kd
  | yield v g l k ih => intro kd; exact False.elim kd
  | stack k ih => intro kd o; exact ih o (kd o)
  | fork c k ih => intro kd; exact False.elim kd
  | thread k ih => intro kd o; exact ih o (kd o)
  | await a t b l k ih => intro kd; exact False.elim kd
theorem KD.bnd {α β : Type} {t : Sem α} {f : α → Sem β} (h : KD t) (hf : ∀ x, KD (f x)) : KD (t >>= f) := KD.bind hf h
theorem KD.pure {α : Type} {x : α} : KD (Pure.pure x : Sem α) := True.intro
theorem KD.uns {α : Type} {w : String} : KD (PySem.unsupported w : Sem α) := True.intro
theorem kd_stack : KD PySem.stack := fun _ => True.intro
theorem kd_load {a : Addr} : KD (PySem.load a) := fun _ => True.intro
theorem kd_update {a : Addr} {f : Obj → Obj} (h : ∀ o, (f o).dict = o.dict) : KD (PySem.update a f) := ⟨h, True.intro⟩
theorem kd_fieldsOf {v : Value} : KD (fieldsOf v) := by
  unfold fieldsOf
  split
  · refine KD.bnd kd_load fun o => ?_
    split
    · exact KD.pure
    · exact KD.uns
  · exact KD.uns
theorem kd_field {v : Value} {i : Nat} : KD (field v i) := by
  unfold field
  refine KD.bnd kd_fieldsOf fun o => ?_
  split
  · exact KD.pure
  · exact KD.uns
theorem mapFields_dict {f : Array Value → Array Value} : ∀ o : Obj, (Obj.mapFields f o).dict = o.dict := fun ⟨c, d, dt, s⟩ => by
  cases dt <;> rfl
theorem kd_setField {v x : Value} {i : Nat} : KD (setField v i x) := by
  unfold setField
  split
  · unfold updateField
    refine KD.bnd kd_load fun o => ?_
    split
    · split
      · exact kd_update mapFields_dict
      · exact KD.uns
    · exact KD.uns
  · exact KD.uns
theorem kd_newFields {ty : String} {vs : List Value} : KD (newFields ty vs) := by
  unfold newFields newObj
  dsimp only
  split
  · exact KD.uns
  · show KD (newObjAsIs _ _ _)
    unfold newObjAsIs
    exact KD.bnd (fun _ => True.intro) fun _ => KD.pure
theorem kd_keptBack {env : Env} {b : Bool} {l : List Env} : KD (keptBack env b l) := by
  unfold keptBack
  split
  · split
    · exact KD.pure
    · unfold underTheClaimsCaller
      exact KD.bnd (KD.bnd kd_stack fun _ => KD.pure) fun _ => by split <;> exact KD.pure
  · exact KD.pure
theorem kd_behind {env : Env} {l : List Env} : KD (behindIsImport env l) := by
  unfold behindIsImport
  split
  · exact KD.pure
  · split
    · exact KD.pure
    · exact KD.bnd kd_field fun _ => KD.pure
theorem kd_ready : ∀ l : List Env, KD (readyFrames l)
  | [] => by unfold readyFrames; exact KD.pure
  | env :: outer => by
    unfold readyFrames
    split
    · refine KD.bnd kd_load fun o => ?_
      split
      · exact KD.pure
      · exact KD.bnd kd_behind fun _ => KD.bnd kd_keptBack fun _ => KD.bnd (kd_update fun _ => rfl) fun _ => kd_ready outer
    · exact KD.uns
theorem kd_frameOf {env : Env} : KD (PySem.frameOf env) := by
  unfold PySem.frameOf
  refine KD.bnd ?_ fun l => KD.bnd ?_ fun r => ?_
  · unfold frameEnvs
    exact KD.bnd kd_stack fun _ => KD.pure
  · unfold frameObject
    split
    · exact KD.pure
    · exact KD.bnd (kd_ready _) fun _ => KD.pure
  · split
    · exact KD.pure
    · exact KD.uns
theorem kd_place {f : Addr} {b : Bool} : KD (entryPlaceOf f b) := by
  unfold entryPlaceOf
  refine KD.bnd kd_stack fun l => ?_
  split
  · exact KD.pure
  · exact KD.pure
theorem kd_note {e : Value} {env : Env} : KD (noteFrame e env) := by
  unfold noteFrame
  split
  · refine KD.bnd kd_field fun hd => ?_
    have last : ∀ f b, KD (setField e 1 =<< (do EntryCells.newEntry hd (← PySem.frameOf env) .none (rawInt f) .none (← entryPlaceOf f b))) := fun f b => KD.bnd (KD.bnd kd_frameOf fun _ => KD.bnd kd_place fun _ => kd_newFields) fun _ => kd_setField
    split
    · refine KD.bnd kd_field fun x => ?_
      split
      · exact KD.pure
      · exact KD.bnd kd_setField fun _ => KD.bnd kd_frameOf fun _ => KD.bnd kd_place fun _ => KD.bnd kd_newFields fun _ => kd_setField
    · exact KD.bnd kd_frameOf fun _ => KD.bnd kd_place fun _ => KD.bnd kd_newFields fun _ => kd_setField
  · exact KD.uns
theorem kd_setFlight {e : Value} {f : Option Addr} : KD (setFlight e f) := by
  unfold setFlight
  refine KD.bnd kd_field fun tb => ?_
  split
  · exact kd_setField
  · exact KD.pure
theorem kd_leaving {env : Env} {e : Value} : KD (leaving env e) := by
  unfold leaving
  exact KD.bnd kd_note fun _ => kd_setFlight
end L2
namespace L2
open PySem PySem.Spec PyProof.Rows PySem.W
/-! ### a caught error: its class and its attributes are known -/
def CgtO (C : Addr) (dx : Option Addr) (a : Addr) : HO := .ext fun h => ∃ ox vs, h.get? a = some ox ∧ ox.cls = .ref C ∧ ox.dict = dx ∧ ox.data = .fields vs
section
variable {P : Program} {w : World} {H : Hp} {h : Heap} {a C : Addr} {dx : Option Addr}
theorem cgtO_mk {ox : Obj} {vs : Array Value} (e : h.get? a = some ox) (c : ox.cls = .ref C) (d : ox.dict = dx) (f : ox.data = .fields vs) : ObjOk P w H h a (CgtO C dx a) :=
  ⟨⟨ox, vs, e, c, d, f⟩, ⟨_, e⟩, fun _ _ ⟨ox, vs, q, r⟩ k => ⟨ox, vs, k _ q, r⟩⟩
theorem fly_cgt {B : Heap} {l : List Env} {a0 : Value} (f : Heap.FlyingW B l a (.ref C) a0 h) (r : ∃ ox, h.get? a = some ox ∧ ox.dict = dx) : ObjOk P w H h a (CgtO C dx a) := by
  obtain ⟨_, _, _, oe, vs, _, _, _, he, hc, hd, _⟩ := f
  obtain ⟨ox, e, d⟩ := r
  rw [he] at e; cases e
  exact cgtO_mk he hc.1 d hd
theorem hok_add {O : HO} (ok : HOk P w H h) (n : H a = none) (o : ObjOk P w (upd H a O) h a O) : HOk P w (upd H a O) h := fun b u e => by
  by_cases c : b = a
  · subst c
    rw [upd_same] at e; cases e
    exact o
  · rw [upd_ne c] at e
    exact (ok b u e).stay (fun _ _ _ q => q) (fun x q => by rw [upd_ne (ne_of_none q n)]; exact q) fun x xs q => by rw [upd_ne (ne_of_none q n)]; exact q
theorem Un.add {fs ex : List Addr} {H' : Hp} {h' : Heap} {O : HO} (u : Un fs ex H H' h h') (n' : H' a = none) (n : h.get? a = none) : Un fs ex H (upd H' a O) h h' :=
  ⟨u.keep, u.slot, fun b o e q x => by
    have : b ≠ a := by rintro rfl; rw [n] at e; cases e
    rw [upd_ne this]; exact u.free b o e q x, u.there, fun b xs e => by
    have q := u.tups b xs e
    rw [upd_ne (ne_of_none q n')]; exact q, fun b o v e => by
    have q := u.frzs b o v e
    rw [upd_ne (ne_of_none q n')]; exact q, fun b ps e => by
    obtain ⟨m, q⟩ := u.tbls b ps e
    exact ⟨m, by rw [upd_ne (ne_of_none q n')]; exact q⟩⟩
theorem upd_drop {O : HO} : upd (dropA H a) a O = upd H a O := by
  funext b; unfold upd
  by_cases c : b = a
  · rw [if_pos c, if_pos c]
  · rw [if_neg c, if_neg c, dropA_ne c]
end
section
variable {X : Cx} {pins : List (Addr × Obj)} {σ : St} {H : Hp} {s : Shared} {A : Around} {E : Value → Shared → Prop} {a d C : Addr} {dx : Option Addr} {fs : List (Str × V)} {f : Str}
theorem cgtget_ok {b : Bool} {v : V} {Q : Value → Shared → Prop} (I : Inv X pins σ H s) (e : H a = some (CgtO C (some d) a)) (ed : H d = some (ExcD d fs)) (c : XCls X.K C) (no : findIn X.K (.ref C) f = some none) (l : fs.lookup f = some v)
    (h : ∀ u s', Inv X pins σ H s' → RelV v u → Q u s') : wpAny (model X.prog X.w) A (getAttr (.ref a) f b) Q E s := by
  obtain ⟨ox, vs, at_, hc, hd, hf⟩ := (I.hok a _ e).1
  obtain ⟨_, mA, n, r, _⟩ := I.excDict ed
  obtain ⟨od, hod, look⟩ := lookIn_ns n
  have rf := r f
  rw [l] at rf
  obtain ⟨u, hu, ru⟩ := RelO.some_of rf
  have J : InstAt s.heap a ox C (some od) := ⟨at_, hc, by unfold notCls; rw [hf], by rw [hd]; exact hod⟩
  exact exc_get I.kIn J c (findObj_own c.hd no rfl (by rw [look, hu])) (handed_of ru) (h u _ (I.tok _) ru)
end
section
variable {X : Cx} {e : Expr} {f : Str} {pos : Pos} {ta : TE}
def tCget (X : Cx) (ta : TE) (f : Str) : TE := fun σ H Q => ta σ H fun x H1 => ∃ a C d fs v, x = .ref a ∧ H1 a = some (CgtO C (some d) a) ∧ H1 d = some (ExcD d fs) ∧ XCls X.K C ∧ findIn X.K (.ref C) f = some none ∧ fs.lookup f = some v ∧ Q v H1
theorem pe_cget (he : PE X e ta) (hb : attributeBase e f X.env (eval e X.env) = eval e X.env := by rfl) : PE X (.Attribute e f pos) (tCget X ta f) := by
  intro pins s σ H Q I h
  refine attr_of hb (thn (he pins s σ H _ I h) fun u s1 ⟨x, H1, I1, rx, a, C, d, fs, v, ex, ea, ed, c, n, l, q⟩ => ?_)
  subst ex
  obtain rfl : u = Value.ref a := rx
  exact cgtget_ok I1 ea ed c n l fun u' s2 I2 ru => ⟨v, H1, I2, ru, q⟩
end
section
variable {X : Cx} {pins : List (Addr × Obj)} {σ : St} {H H1 : Hp} {s s1 : Shared} {a C : Addr} {dx : Option Addr}
/-- raise of an instance, its dict told -/
theorem raise_instD {e : Expr} {pos : Pos} {te : TE} {D : Ends} {R : Addr → Addr → Option Addr → Hp → Prop} (I : Inv X pins σ H s) (hc : X.calm = true) (he : PE X e te)
    (h : te σ H fun v H1 => ∃ a C dx i, v = .ref a ∧ H1 a = some (ExcO C dx a) ∧ (∀ d, dx = some d → ∃ fs, H1 d = some (ExcD d fs)) ∧ XCls X.K C ∧ excInI X.K C i = true ∧ R a C dx H1)
    (fin : ∀ a C dx H1 s1, Inv X pins σ H1 s1 → H1 a = some (ExcO C dx a) → R a C dx H1 → X.xe (.ref a) s1) :
    wpAny (model X.prog X.w) X.A (exec (.Raise (some e) none pos) X.env) (SP X pins D) X.xe s := by
  rw [arm_exec_Raise]
  refine wpAny_bind (wpAny_standAt (show wpAny _ _ (raiseStmt X.env (some (do let v ← eval e X.env; standAt pos; pure v)) none) _ _ _ from ?_))
  unfold raiseStmt
  refine wpAny_bind (wpAny_bind (thn (he pins s σ H _ I h) fun u s1 ⟨v, H1, J, r, a, C, dx, i, ev, ea, hd, c, q, hR⟩ => wpAny_bind (wpAny_standAt (wpAny_pure ?_))))
  subst ev
  obtain rfl : u = .ref a := r
  obtain ⟨ox, od, t, inst, rfl⟩ := J.excInst ea hd
  have notTy : Looks (model X.prog X.w) s1.heap (isType (.ref a)) false := fun A' Q' E' s' k z => by
    simp only [isType, loadHead]
    exact wpAny_bind (wpAny_loadPart (k _ _ inst.at_) (wpAny_pure z))
  have isB : Looks (model X.prog X.w) s1.heap (isInstance (.ref a) (.type "BaseException")) true := inst.type.andThen (looks_mroIn J.kIn c.be)
  obtain ⟨bm, N, nm, qn, bs, hdct, sn, sub, ab, col, dd, k0, k1, k2, k3, k5, mN, hC, _⟩ := (exc_of_in J.kIn q).ex
  have tyC : s1.TypeIs (.ref C) "type" := ⟨_, hC, rfl⟩
  refine wpAny_bind (wpAny_pure (wpAny_bind (wpAny_holding ?_)))
  unfold excFromValue isExcClass
  refine wpAny_bind (wpAny_bind (notTy.here (wpAny_pure ?_)))
  refine wpAny_bind (isB.here (wpAny_pure ?_))
  refine wpAny_bind (notTy.here ?_)
  unfold raisedInstance
  refine wpAny_bind (wpAny_bind (inst.type.here (wpAny_bind (wpAny_typeOf tyC ?_))))
  rw [if_pos (show (Value.type "type" == Value.type "type") = true from by decide)]
  refine wpAny_pure ?_
  unfold setFlight raiseNew
  refine wpAny_bind (wpAny_bind (wpAny_field inst.at_ rfl (x := .none) rfl ?_))
  rw [if_neg (show ¬ ((Value.none != Value.none) = true) from by decide)]
  refine wpAny_pure (wpAny_bind (wpAny_handled_none (J.ok.hd hc) ?_))
  first
    | exact wpAny_throw (fin a C dx H1 s1 J ea hR)
    | exact wpAny_bind (wpAny_pure (wpAny_throw (fin a C dx H1 s1 J ea hR)))
end
/-! ### how an error flies that will be looked at -/
def CXD (P : Program) (w : World) : CXT := fun outer H s E e s' => ∃ (a C : Addr) (a0 : Value) (dx : Option Addr) (H' : Hp) (B : Heap), e = .ref a ∧ s'.os = s.os ∧ AllBare s'.gens ∧ Heap.FlyingW B outer a (.ref C) a0 s'.heap ∧
  (∃ ox, s'.heap.get? a = some ox ∧ ox.dict = dx) ∧ (∀ h', B.StaysIn h' → s'.heap.UpToSlots h' → Un (frs outer) [] H H' s.heap h' ∧ HOk P w H' h') ∧ H' a = none ∧ s.heap.get? a = none ∧ E (.ref C) (some a) (upd H' a (CgtO C dx a))
theorem kd_mono {α : Type} {M : Model} {A : Around} {t : Sem α} {Q Q' : α → Shared → Prop} {E : Value → Shared → Prop} {s : Shared} (k : KD t) (h : wpAny M A t Q E s) (q : ∀ v s', Q v s' → RD s.heap s'.heap → Q' v s') : wpAny M A t Q' E s :=
  wpAny_mono (kd_any k h) (fun v s' z => q v s' z.1 z.2) fun _ _ z => z.1
section
variable {P : Program} {w : World} {K : Frag} {mg : Str → Option Value} {base : Heap} {N : List Str} {qual : Str} {scope : Scope} {f : Addr} {cd : Value} {A : Around} {outer : List Env} {s : Shared} {H : Hp} {E : XK}
def sRaiseD (K : Frag) (H0 : Hp) (E : XK) (te : TE) : TS := fun _ σ H => te σ H fun v H1 => ∃ a C dx i, v = .ref a ∧ H1 a = some (ExcO C dx a) ∧ (∀ d, dx = some d → ∃ fs, H1 d = some (ExcD d fs)) ∧ XCls K C ∧ excInI K C i = true ∧ H0 a = none ∧ E (.ref C) (some a) (upd H1 a (CgtO C dx a))
theorem ps_raiseD {e : Expr} {pos : Pos} {te : TE} (he : PE (cxOf (CXD P w) P w K mg base N qual scope f cd A outer s H E) e te) :
    PS (cxOf (CXD P w) P w K mg base N qual scope f cd A outer s H E) (.Raise (some e) none pos) (sRaiseD K H E te) := by
  intro pins s1 σ H1 D I h
  refine raise_instD (R := fun a C dx H2 => H a = none ∧ E (.ref C) (some a) (upd H2 a (CgtO C dx a))) I rfl he h fun a C dx H2 s2 J ea ⟨h0, hE⟩ => ?_
  have fr : s2.heap.FunFrames base (envOfC qual scope s.heap.objs.size f cd :: outer) := J.stack
  have all : ∀ env ∈ (envOfC qual scope s.heap.objs.size f cd :: outer), ∀ b, env.frame = some b → b ∈ a :: frs (envOfC qual scope s.heap.objs.size f cd :: outer) := fun env m b hb => List.mem_cons_of_mem _ (List.mem_filterMap.mpr ⟨env, m, hb⟩)
  obtain ⟨t, at_⟩ := J.excAt ea
  have new : s.heap.get? a = none := by
    have ub : Un (frs outer) [] H H2 s.heap s2.heap := J.base
    cases q : s.heap.get? a with
    | none => rfl
    | some o =>
      have := ub.free a o q h0 (by simp)
      rw [ea] at this; cases this
  show wpAny (model P w) _ (leaving _ (.ref a)) _ _ _
  refine kd_mono kd_leaving (wpAny_leaving_firstW (Q := fun _ s' => ∃ h', s' = { s2 with heap := h' } ∧ Heap.LeftW (hideAll s2.heap (a :: frs (envOfC qual scope s.heap.objs.size f cd :: outer))) (envOfC qual scope s.heap.objs.size f cd :: outer) a (.ref C) (.ref t) s2.heap h') (base := hideAll s2.heap (a :: frs (envOfC qual scope s.heap.objs.size f cd :: outer))) (L := s.heap.objs.size) (a0 := .ref t) J.ok.frames (funFrames_hide fr all) rfl at_ (fun b o q => of_hideAll _ q) (hideAll_none _ List.mem_cons_self) rfl rfl rfl fun h' hL => ⟨h', rfl, hL⟩) fun _ s' ⟨h', es, hL⟩ rd => ?_
  subst es
  obtain ⟨k1, ⟨_, _, k2⟩, k3, k4⟩ := hL
  have fl : Heap.FlyingW (hideAll s2.heap (a :: frs (envOfC qual scope s.heap.objs.size f cd :: outer))) outer a (.ref C) (.ref t) h' := ⟨k1, hideAll_none _ List.mem_cons_self, k2, k3⟩
  obtain ⟨ox, hox, _⟩ := fl.there
  refine ⟨a, C, .ref t, dx, dropA H2 a, hideAll s2.heap (a :: frs (envOfC qual scope s.heap.objs.size f cd :: outer)), rfl, J.os, J.bare, fl, ⟨ox, hox, rd.dict at_ hox⟩, fun h'' kb up => ?_, by unfold dropA; rw [if_pos rfl], new, by rw [upd_drop]; exact hE⟩
  exact J.hidden rfl rfl rfl ea h0 kb (Heap.UpToSlots.trans k4 up)
end
section
variable {P : Program} {w : World} {K : Frag} {mg : Str → Option Value} {base : Heap} {N : List Str} {qual : Str} {f : Addr}
theorem Fun.okD {x : Str} {st : Stmt} {fd : FuncData} {ps : List Str} {k : Nat} {sp : Sp} (F : Fun K x qual st f fd) (S : FnScope N ps (defScope st)) (len : ∀ vs H Q E, sp vs H Q E → vs.length = ps.length)
    (hbody : ∀ (cdv : Value) (A : Around) (outer : List Env) (s : Shared) (H : Hp) (vs : List V) (Q : VK) (E : XK), Room k (A.deeper (envOfC qual (defScope st) s.heap.objs.size f cdv)) → sp vs H Q E →
      ∃ t, PSs (cxOf (CXD P w) P w K mg base N qual (defScope st) f cdv A outer s H E) (defBody st) t ∧ t { nx := fun _ H' => Q .non H', rt := Q } (start N vs) H) : FnOk P w K mg base (CXD P w) (k + 1) f fd ps sp := by
  obtain ⟨oc, od, kV, doc, pm, an, cdv, ct, osl, rfl, lk, hcd⟩ := F.ex
  exact fn_of lk hcd S len fun A outer s H vs Q E hr hsp => hbody cdv A outer s H vs Q E hr hsp
end
/-! ### try: .. except C as e: .. -/
/-- within the try suite: an error lands with what E says of the names then -/
def Cx.trying (X : Cx) (pins : List (Addr × Obj)) (E : St → XK) : Cx := { X with pn := X.pn ++ pins, xe := fun e s' => ∃ σ' H s1, Inv X pins σ' H s1 ∧ CXD X.prog X.w X.stack H s1 (E σ') e s' }
section
variable {X : Cx} {pins pins' : List (Addr × Obj)} {σ : St} {H : Hp} {s : Shared} {E : St → XK} {D : Ends}
theorem Inv.trying (I : Inv X pins σ H s) : Inv (X.trying pins E) [] σ H s :=
  ⟨⟨I.ok.mod, I.ok.kind, I.ok.glob, I.ok.blt, I.ok.above, I.ok.inj, I.ok.has, I.ok.cab, I.ok.hd, I.ok.frames, I.ok.stk, I.ok.exf, I.ok.bs, I.ok.bsz, I.ok.noex, I.ok.exfs, I.ok.funs, I.ok.frf⟩, I.os, I.bare, I.base, I.loc, I.cell, I.free, I.freeC, (fun p hp => I.pin p (by rw [List.append_nil] at hp; exact hp)), I.hok, I.len⟩
theorem Inv.tried (ok : X.Ok) (I : Inv (X.trying pins E) pins' σ H s) : Inv X pins σ H s :=
  ⟨ok, I.os, I.bare, I.base, I.loc, I.cell, I.free, I.freeC, (fun p hp => I.pin p (List.mem_append_left _ hp)), I.hok, I.len⟩
theorem Cx.Ok.untry (ok : (X.trying pins E).Ok) : X.Ok := ⟨ok.mod, ok.kind, ok.glob, ok.blt, ok.above, ok.inj, ok.has, ok.cab, ok.hd, ok.frames, ok.stk, ok.exf, ok.bs, ok.bsz, ok.noex, ok.exfs, ok.funs, ok.frf⟩
theorem SP.tried {f : Flow} (ok : X.Ok) (h : SP (X.trying pins E) pins' D f s) : SP X pins D f s := by
  cases f with
  | next => obtain ⟨σ', H', I, q⟩ := h; exact ⟨σ', H', I.tried ok, q⟩
  | brk => obtain ⟨σ', H', I, q⟩ := h; exact ⟨σ', H', I.tried ok, q⟩
  | cont => obtain ⟨σ', H', I, q⟩ := h; exact ⟨σ', H', I.tried ok, q⟩
  | ret u => obtain ⟨v, σ', H', I, r, q⟩ := h; exact ⟨v, σ', H', I.tried ok, r, q⟩
end
section
variable {X : Cx} {pins0 : List (Addr × Obj)} {EE : St → XK} {k : Nat} {f : Addr} {fd : FuncData} {ps : List Str} {sp : Sp} {x : Str} {p pos : Pos} {e : Expr} {es : List Expr} {t : TA}
/-- a call that may raise, in a try suite -/
def tCallT (sp : Sp) (EE : St → XK) (t : TA) : TE := fun σ H Q => t σ H fun vs H1 => sp vs H1 Q (EE σ)
theorem pe_callT (F : FnOk X.prog X.w X.K X.mg X.base (CXD X.prog X.w) k f fd ps sp) (hr : Room k X.A) (hg : Gl X x) (hm : X.mg x = some (.ref f)) (hk : keepIn X.K (.ref f) = true) (hb : Binds X.K fd ps [])
    (ha : PA (X.trying pins0 EE) (e :: es) t) (hdb : (x == ("__debug__" : Str)) = false := by decide) (he : starEach (e :: es) X.env = (false, eval e X.env) :: starEach es X.env := by rfl) (hpl : (backTo pos (starEach es X.env)).any (·.1) = false := by rfl) :
    PE (X.trying pins0 EE) (.Call (.Name x p) (e :: es) [] pos) (tCallT sp EE t) := by
  intro pins s σ H Q I h
  refine wpAny_Call_Name_kw (ld_glob I hg hm ?_ hdb)
  refine callWith_K (h₀ := X.base) I.ok.mod.kin hk (thn (ha pos pins s σ H _ I h) fun us s1 ⟨vs, H1, I1, r, q⟩ => ⟨I1.kIn, ?_⟩) he hpl
  have hl : us.length = ps.length := by rw [← r.length]; exact F.len _ _ _ _ q
  have hb' := hb s1 us I1.kIn (by rw [List.append_nil]; exact hl)
  rw [List.append_nil] at hb'
  refine wpAny_call (codeAny_mono (F.run X.A X.stack s1 H1 ⟨us, []⟩ us vs _ _ hr I1.env0 hb' r q) fun res s2 hq => ?_)
  cases res with
  | ok fl =>
    cases fl with
    | ret u => exact I1.after hq
    | next => exact False.elim hq
    | brk => exact False.elim hq
    | cont => exact False.elim hq
  | error ev => exact ⟨σ, H1, s1, I1.tried I1.ok.untry, hq⟩
end
section
variable {X : Cx} {pins : List (Addr × Obj)} {σ : St} {H : Hp} {s : Shared}
/-- the name of an except clause goes -/
theorem goes_ok {M : Model} {A : Around} {E : Value → Shared → Prop} {i : Nat} {x : Str} {pos : Pos} {Q : Unit → Shared → Prop} (I : Inv X pins σ H s) (hN : X.N.Nodup) (hi : X.N[i]? = some x) (hk : X.env.scope.names.lookup x = some .local)
    (h : ∀ s', Inv X pins (σ.set i none) H s' → Q () s') : wpAny M A (do bindName X.env x .none; unbindBehindTheSuite X.env x pos) Q E s := by
  obtain ⟨m, hn, hl⟩ := id I.loc
  have hcls : (X.env.scope.kind == .class || (X.env.scope.kind == .module && X.env.locals != X.env.globals)) = false := by rw [I.ok.kind]; rfl
  have cne := I.cne
  refine wpAny_nameGoes_keeps hk hn hcls fun h' v hn' hs => ?_
  obtain ⟨oL, _, _, hoL, _⟩ := id hn
  have tracked : HOk X.prog X.w H h' := fun b ob e => by
    refine (I.hok b ob e).stay (fun c w' hc q => (hs.2 c ?_).trans q) (fun _ q => q) fun _ _ q => q
    rintro rfl
    rcases hc with rfl | hc
    · rw [I.free] at e; cases e
    · rw [I.free] at hc; cases hc
  refine h _ ⟨I.ok, I.os, I.bare, ⟨fun b o e n hb hx => ?_, fun b o e n hb hx => ?_, I.base.free, fun b o e hx => ?_, I.base.tups, I.base.frzs, I.base.tbls⟩, ⟨_, hn', fun j y v' e1 e2 e3 => ?_⟩, fun y c e => ?_, I.free, I.freeC, fun p hp => ?_, tracked, by simpa using I.len⟩
  · exact (hs.2 b (Nat.ne_of_lt (Nat.lt_of_lt_of_le (Heap.lt_size e) I.ok.above))).trans (I.base.keep b o e n hb hx)
  · obtain ⟨sl, e1⟩ := I.base.slot b o e n hb hx
    exact ⟨sl, (hs.2 b (Nat.ne_of_lt (Nat.lt_of_lt_of_le (Heap.lt_size e) I.ok.above))).trans e1⟩
  · obtain ⟨o', e1⟩ := I.base.there b o e hx
    exact ⟨o', (hs.2 b (Nat.ne_of_lt (Nat.lt_of_lt_of_le (Heap.lt_size e) I.ok.above))).trans e1⟩
  · by_cases hj : j = i
    · subst hj
      by_cases hlt : j < σ.length
      · rw [List.getElem?_set_self hlt] at e2; cases e2
      · rw [List.getElem?_eq_none (by rw [List.length_set]; omega)] at e2; cases e2
    · rw [List.getElem?_set_ne (Ne.symm hj)] at e2
      obtain ⟨u', r', q⟩ := hl j y v' e1 e2 e3
      refine ⟨u', r', ?_⟩
      rcases q with ⟨k, e⟩ | ⟨k, c, e, z⟩
      · refine .inl ⟨k, ?_⟩
        have : y ≠ x := fun e => hj (nodup_ix hN e1 (e ▸ hi))
        simp [this, e]
      · exact .inr ⟨k, c, e, z.sameBut hs (cne y c e)⟩
  · obtain ⟨w', z⟩ := I.cell y c e
    exact ⟨w', z.sameBut hs (cne y c e)⟩
  · obtain ⟨e, n, ne, nf, d⟩ := I.pin p hp
    exact ⟨(hs.2 p.1 ne).trans e, n, ne, nf, d⟩
end
/-- the ends of an except suite: its name goes -/
def asD (j : Nat) (D : Ends) : Ends := { nx := fun σ H => D.nx (σ.set j none) H, rt := D.rt, bk := fun σ H => D.bk (σ.set j none) H, ct := fun σ H => D.ct (σ.set j none) H }
/-- what an error brings into the except suite -/
def asE (C : Addr) (j : Nat) (th : Addr → TS) (D : Ends) : St → XK := fun σ' cls oa H2 => cls = .ref C ∧ ∃ a, oa = some a ∧ th a (asD j D) (σ'.set j (some (.ref a))) H2
section
variable {X : Cx} {j : Nat} {C : Addr} {n cn : Str} {p5 p6 p7 : Pos} {b0 b1 : Stmt} {body suite : List Stmt} {tb : Ends → TS} {th : Addr → TS} {ci : Option Value}
def sTryAs (tb : Ends → TS) : TS := fun D σ H => tb D D σ H
theorem ps_tryAs (hb : ∀ pins D, PSs (X.trying pins (asE C j th D)) (b1 :: body) (tb D))
    (hN : X.N.Nodup) (hj : X.N[j]? = some n) (hn : X.env.scope.names.lookup n = some .local) (h0 : X.xe = fun _ _ => False) (hc : X.calm = true) (hs : X.stack = X.env :: X.outer) (hf : X.env.frame = some X.env.locals)
    (gc : Gl X cn) (mc : X.mg cn = some (.ref C)) (c : XCls X.K C) (me : mroIn X.K C (.ref C) = some true) (qc : excInI X.K C ci = true) (hh : ∀ a, PSs (X.caught a) (b0 :: suite) (th a)) (hdc : (cn == ("__debug__" : Str)) = false := by decide) :
    PS X (.Try (b1 :: body) [.ExceptHandler (some (.Name cn p5)) (some n) (b0 :: suite) p6] [] [] p7) (sTryAs tb) := by
  intro pins s σ H D I h
  refine wpAny_Try_except ?_
  refine wpAny_mono (hb pins D [] s σ H D I.trying h) (fun fl s1 z => ?_) fun ev s2 z => ?_
  · have z' := SP.tried I.ok z
    cases fl with
    | next => exact wpAny_execs_nil z'
    | brk => exact z'
    | cont => exact z'
    | ret u => exact z'
  · obtain ⟨σ', H0, s1, I1, a, C', a0, dx, H', B, rfl, os, bare, fly, ⟨ox, hox, hd⟩, fut, na, new, eC, a', ea, hth⟩ := z
    cases ea
    cases eC
    rw [hs] at fly
    refine kd_mono kd_note (wpAny_looks_onW (Q := fun _ s' => ∃ h', s' = { s2 with heap := h' } ∧ Heap.HeldW B (X.env :: X.outer) a (.ref C) a0 X.env.locals h' ∧ s2.heap.UpToSlots h') (by rw [← hs]; exact I1.ok.frames) hf fly fun h3 held up3 => ⟨h3, rfl, held, up3⟩) fun _ s3 ⟨h3, e3, held, up3⟩ rd3 => ?_
    subst e3
    refine kd_mono kd_setFlight (wpAny_landsW (Q := fun _ s' => ∃ h', s' = { s2 with heap := h' } ∧ Heap.FlyingW B (X.env :: X.outer) a (.ref C) a0 h' ∧ h3.UpToSlots h') held fun h4 fly4 up4 => ⟨h4, rfl, fly4, up4⟩) fun _ s4 ⟨h4, e4, fly4, up4⟩ rd4 => ?_
    subst e4
    have up : s2.heap.UpToSlots h4 := Heap.UpToSlots.trans up3 up4
    have rd : RD s2.heap h4 := rd3.trans rd4
    have lay : ∀ h5, Heap.FlyingW B (X.env :: X.outer) a (.ref C) a0 h5 → s2.heap.UpToSlots h5 → RD s2.heap h5 → Inv X pins σ' (upd H' a (CgtO C dx a)) { s2 with heap := h5 } := fun h5 f5 u5 r5 => by
      obtain ⟨u, ok⟩ := fut h5 f5.1 u5
      obtain ⟨o5, e5, _⟩ := f5.there
      exact I1.call' (s' := { s2 with heap := h5 }) os (u.add na new) (hok_add ok na (fly_cgt f5 ⟨o5, e5, (r5.dict hox e5).trans hd⟩)) bare (fun b z => absurd z (by simp))
    have J := lay h4 fly4 up rd
    obtain ⟨o4, ho4, hc4⟩ := fly4.there
    refine wpAny_handleBy_cons (codeAny_handlers_test ?_) (by intro z; cases z)
    refine ld_glob (J.caught a) gc mc ?_ hdc
    refine exc_matches (K := X.K) J.kIn c me qc ho4 hc4 ?_
    refine codeAny_handlers_suite_as ?_
    refine kd_mono kd_setFlight (lands_againW (Q := fun _ s' => ∃ h', s' = { s2 with heap := h' } ∧ Heap.FlyingW B (X.env :: X.outer) a (.ref C) a0 h' ∧ h4.UpToSlots h') fly4 fun h5 fly5 up5 => ⟨h5, rfl, fly5, up5⟩) fun _ s5 ⟨h5, e5, fly5, up5⟩ rd5 => ?_
    subst e5
    have J5 := lay h5 fly5 (Heap.UpToSlots.trans up up5) (rd.trans rd5)
    refine store_ok (X := X.caught a) (v := .ref a) (J5.caught a) hN hj (.inl hn) rfl (fun s6 I6 => ?_) (.inr hn)
    refine wpAny_noRaise (thn (hh a pins _ _ _ (asD j D) I6 hth) fun fl s7 z => ?_)
    cases fl with
    | next => obtain ⟨σ7, H7, I7, q⟩ := z; exact goes_ok (I7.uncaught (Y := X) J5.ok) hN hj hn fun s8 I8 => ⟨_, H7, I8, q⟩
    | brk => obtain ⟨σ7, H7, I7, q⟩ := z; exact goes_ok (I7.uncaught (Y := X) J5.ok) hN hj hn fun s8 I8 => ⟨_, H7, I8, q⟩
    | cont => obtain ⟨σ7, H7, I7, q⟩ := z; exact goes_ok (I7.uncaught (Y := X) J5.ok) hN hj hn fun s8 I8 => ⟨_, H7, I8, q⟩
    | ret u => obtain ⟨v, σ7, H7, I7, r, q⟩ := z; exact goes_ok (I7.uncaught (Y := X) J5.ok) hN hj hn fun s8 I8 => ⟨v, _, H7, I8, r, q⟩
end
end L2
namespace L2
open PySem PySem.Spec PyProof.Rows

/-! ### lists of pairs as tables -/
section
variable {κ : Type} [DecidableEq κ]
def valV (kvs : List (κ × V)) (k : κ) : Option V := (kvs.find? fun kv => decide (kv.1 = k)).map (·.2)
/-- in its place, or at the end -/
def putK (kvs : List (κ × V)) (k : κ) (v : V) : List (κ × V) :=
  if (kvs.any fun kv => decide (kv.1 = k)) = true then kvs.map (fun kv => if kv.1 = k then (kv.1, v) else kv) else kvs ++ [(k, v)]
def dropK (kvs : List (κ × V)) (k : κ) : List (κ × V) := kvs.filter fun kv => decide (kv.1 ≠ k)

theorem valV_pos {p : κ × V} {r : List (κ × V)} {k : κ} (e : p.1 = k) : valV (p :: r) k = some p.2 := by simp [valV, List.find?_cons, e]
theorem valV_neg {p : κ × V} {r : List (κ × V)} {k : κ} (e : ¬ p.1 = k) : valV (p :: r) k = valV r k := by simp [valV, List.find?_cons, e]
theorem valV_any (k : κ) : ∀ kvs : List (κ × V), (kvs.any fun kv => decide (kv.1 = k)) = (valV kvs k).isSome
  | [] => rfl
  | p :: r => by
    rw [List.any_cons]
    by_cases e : p.1 = k
    · simp only [valV_pos e, decide_eq_true e, Bool.true_or, Option.isSome_some]
    · rw [valV_neg e, decide_eq_false e, Bool.false_or]; exact valV_any k r
theorem length_putK (kvs : List (κ × V)) (k : κ) (v : V) : (putK kvs k v).length ≤ kvs.length + 1 := by
  unfold putK
  split
  · rw [List.length_map]; omega
  · rw [List.length_append, List.length_cons, List.length_nil]; omega
theorem RelO.isSome_eq {o : Option V} {u : Option Value} (r : RelO o u) : o.isSome = u.isSome := by
  cases o with
  | none => cases u with
    | none => rfl
    | some _ => exact (show False from r).elim
  | some _ => cases u with
    | none => exact (show False from r).elim
    | some _ => rfl
theorem RelO.getD {o : Option V} {u : Option Value} {d : V} {d' : Value} (r : RelO o u) (rd : RelV d d') : RelV (o.getD d) (u.getD d') := by
  cases o with
  | none => cases u with
    | none => exact rd
    | some _ => exact (show False from r).elim
  | some _ => cases u with
    | none => exact (show False from r).elim
    | some _ => exact r

/-- raw tables of the same keys -/
theorem KV.val {kvs : List (κ × V)} {vs : List (κ × Value)} (r : KV kvs vs) (k : κ) : RelO (valV kvs k) (valueAt vs k) := by
  unfold KV at r
  induction r with
  | nil => exact True.intro
  | @cons p q ps qs h t ih =>
    obtain ⟨h1, h2⟩ := h
    by_cases e : p.1 = k
    · have e' : q.1 = k := h1.symm.trans e
      have b : valueAt (q :: qs) k = some q.2 := by simp [valueAt, List.find?_cons, e']
      rw [valV_pos e, b]; exact h2
    · have e' : ¬ q.1 = k := fun z => e (h1.trans z)
      have b : valueAt (q :: qs) k = valueAt qs k := by simp [valueAt, List.find?_cons, e']
      rw [valV_neg e, b]; exact ih
theorem KV.any {kvs : List (κ × V)} {vs : List (κ × Value)} (r : KV kvs vs) (k : κ) : (kvs.any fun kv => decide (kv.1 = k)) = vs.any fun kv => decide (kv.1 = k) := by
  unfold KV at r
  induction r with
  | nil => rfl
  | cons h t ih => rw [List.any_cons, List.any_cons, ih, h.1]
theorem KV.repl {kvs : List (κ × V)} {vs : List (κ × Value)} (r : KV kvs vs) (k : κ) {y : V} {u : Value} (ry : RelV y u) :
    KV (kvs.map fun kv => if kv.1 = k then (kv.1, y) else kv) (vs.map fun kv => if kv.1 = k then (kv.1, u) else kv) := by
  unfold KV at r ⊢
  induction r with
  | nil => exact .nil
  | @cons p q ps qs h t ih =>
    rw [List.map_cons, List.map_cons]
    refine .cons ?_ ih
    obtain ⟨h1, h2⟩ := h
    by_cases e : p.1 = k
    · rw [if_pos e, if_pos (h1.symm.trans e)]; exact ⟨h1, ry⟩
    · rw [if_neg e, if_neg (fun z => e (h1.trans z))]; exact ⟨h1, h2⟩
theorem KV.put {kvs : List (κ × V)} {vs : List (κ × Value)} (r : KV kvs vs) (k : κ) {y : V} {u : Value} (ry : RelV y u) : KV (putK kvs k y) (stored vs k u) := by
  unfold putK stored
  rw [r.any k]
  by_cases e : (vs.any fun kv => decide (kv.1 = k)) = true
  · rw [if_pos e, if_pos e]; exact r.repl k ry
  · rw [if_neg e, if_neg e]; exact Paired.snoc r ⟨rfl, ry⟩
theorem KV.drop {kvs : List (κ × V)} {vs : List (κ × Value)} (r : KV kvs vs) (k : κ) : KV (dropK kvs k) (without vs k) := by
  unfold KV at r ⊢
  unfold dropK without
  induction r with
  | nil => exact .nil
  | @cons p q ps qs h t ih =>
    obtain ⟨h1, h2⟩ := h
    rw [List.filter_cons, List.filter_cons]
    by_cases e : p.1 = k
    · have a : ¬ decide (p.1 ≠ k) = true := by simp [e]
      have b : ¬ decide (q.1 ≠ k) = true := by simp [h1.symm.trans e]
      rw [if_neg a, if_neg b]; exact ih
    · have e' : ¬ q.1 = k := fun z => e (h1.trans z)
      have a : decide (p.1 ≠ k) = true := by simp [e]
      have b : decide (q.1 ≠ k) = true := by simp [e']
      rw [if_pos a, if_pos b]; exact .cons ⟨h1, h2⟩ ih
theorem KV.keys {kvs : List (κ × V)} {vs : List (κ × Value)} (r : KV kvs vs) : kvs.map (·.1) = vs.map (·.1) := by
  unfold KV at r
  induction r with
  | nil => rfl
  | cons h t ih => rw [List.map_cons, List.map_cons, ih, h.1]
theorem KV.length {kvs : List (κ × V)} {vs : List (κ × Value)} (r : KV kvs vs) : kvs.length = vs.length := Paired.length r
end


/-! ### a tracked dict, its keys ints and texts or tuples of these -/
theorem kV_is {P : Program} {w : World} {k : Key} {u : Value} (r : RelV (kV k) u) : (mixKind P w).is k u = true := by
  cases k with
  | inl i => obtain ⟨t, e⟩ := (show ∃ t, u = Value.int i t from r); subst e; exact mixKind_int P w i t
  | inr x => obtain ⟨t, e⟩ := (show ∃ t, u = Value.str x t from r); subst e; exact mixKind_str P w x t
theorem items_are {P : Program} {w : World} : ∀ {ks : List Key} {us : List Value}, Vals (ks.map kV) us → ItemsAre (mixKind P w) ks us
  | [], _, r => by rw [List.map_nil] at r; cases r; exact .nil
  | k :: ks, _, r => by
    rw [List.map_cons] at r
    cases r with
    | cons h t => exact .cons (kV_is h) (items_are t)

/-- raw entries of a dict with tuple keys -/
abbrev KT (H : Hp) : List (List Key × V) → List (List Key × Addr × Value) → Prop := Paired fun p q => p.1 = q.1 ∧ H q.2.1 = some (.tup (p.1.map kV)) ∧ RelV p.2 q.2.2
theorem KT.val {H : Hp} {kvs : List (List Key × V)} {xs : List (List Key × Addr × Value)} (r : KT H kvs xs) (k : List Key) : RelO (valV kvs k) ((atKey xs k).map (·.2)) := by
  induction r with
  | nil => exact True.intro
  | @cons p q ps qs h t ih =>
    obtain ⟨h1, _, h2⟩ := h
    by_cases e : p.1 = k
    · have e' : q.1 = k := h1.symm.trans e
      have b : atKey (q :: qs) k = some q.2 := by simp [atKey, List.find?_cons, e']
      rw [valV_pos e, b]; exact h2
    · have e' : ¬ q.1 = k := fun z => e (h1.trans z)
      have b : atKey (q :: qs) k = atKey qs k := by simp [atKey, List.find?_cons, e']
      rw [valV_neg e, b]; exact ih
theorem KT.repl {H : Hp} {kvs : List (List Key × V)} {xs : List (List Key × Addr × Value)} (r : KT H kvs xs) (k : List Key) {y : V} {u : Value} (ry : RelV y u) :
    KT H (kvs.map fun kv => if kv.1 = k then (kv.1, y) else kv) (xs.map (putAt k u)) := by
  induction r with
  | nil => exact .nil
  | @cons p q ps qs h t ih =>
    rw [List.map_cons, List.map_cons]
    refine .cons ?_ ih
    obtain ⟨h1, h2, h3⟩ := h
    unfold putAt
    by_cases e : p.1 = k
    · rw [if_pos e, if_pos (h1.symm.trans e)]; exact ⟨h1, h2, ry⟩
    · rw [if_neg e, if_neg (fun z => e (h1.trans z))]; exact ⟨h1, h2, h3⟩
theorem KT.put {H : Hp} {kvs : List (List Key × V)} {xs : List (List Key × Addr × Value)} (r : KT H kvs xs) (k : List Key) {b : Addr} {y : V} {u : Value} (hb : H b = some (.tup (k.map kV))) (ry : RelV y u) :
    KT H (putK kvs k y) (storedH xs k b u) := by
  have e : (kvs.any fun kv => decide (kv.1 = k)) = (atKey xs k).isSome := by
    rw [valV_any, (r.val k).isSome_eq, Option.isSome_map]
  unfold putK storedH
  rw [e]
  by_cases q : (atKey xs k).isSome = true
  · rw [if_pos q, if_pos q]; exact r.repl k ry
  · rw [if_neg q, if_neg q]; exact Paired.snoc r ⟨rfl, hb, ry⟩
theorem KT.keeps {H H' : Hp} {kvs : List (List Key × V)} {xs : List (List Key × Addr × Value)} (r : KT H kvs xs) (ht : ∀ b ys, H b = some (.tup ys) → H' b = some (.tup ys)) : KT H' kvs xs :=
  Paired.mapP r fun _ _ z => ⟨z.1, ht _ _ z.2.1, z.2.2⟩

section
variable {P : Program} {w : World} {H : Hp} {h : Heap} {a : Addr}
theorem rd_of {u : HO} (ok : HOk P w H h) (e : Rd H a u) : ObjOk P w H h a u := e.ok ok
theorem dk_rd {kvs : List (Key × V)} (ok : HOk P w H h) (e : Rd H a (.dK kvs)) : kvs.length ≤ sizeLine ∧ (a == sysModules) = false ∧ ∃ vs, KV kvs vs ∧ h.DictOf (mixKind P w) a vs :=
  show ObjOk P w H h a (.dK kvs) from rd_of ok e
theorem dk_of {kvs : List (Key × V)} (ok : HOk P w H h) (e : H a = some (.dK kvs)) : kvs.length ≤ sizeLine ∧ (a == sysModules) = false ∧ ∃ vs, KV kvs vs ∧ h.DictOf (mixKind P w) a vs := dk_rd ok (.inl e)
/-- a tracked tuple of ints and texts is a key -/
theorem key_of {ks : List Key} (ok : HOk P w H h) (e : H a = some (.tup (ks.map kV))) : (tupleKind (mixKind P w)).is h ks a := by
  obtain ⟨_, its, r, o, h1, h2, n, h3, _⟩ := (show ObjOk P w H h a (.tup (ks.map kV)) from ok a _ e)
  exact ⟨o, its.toArray, n, h1, h2, h3, by simpa using items_are r⟩
theorem dt_rd {kvs : List (List Key × V)} (ok : HOk P w H h) (e : Rd H a (.dT kvs)) : kvs.length ≤ sizeLine ∧ (a == sysModules) = false ∧
    ∃ xs, KT H kvs xs ∧ h.DictOfH (tupleKind (mixKind P w)) a xs := by
  obtain ⟨z, y, xs, r, o, es, ep, h1, h2, h3, h4, h5⟩ := (show ObjOk P w H h a (.dT kvs) from rd_of ok e)
  refine ⟨z, y, xs, r, o, es, ep, h1, h2, h3, h4, fun x hx => ?_, h5⟩
  have all : ∀ {l : List (List Key × V)} {m : List (List Key × Addr × Value)}, KT H l m → ∀ x ∈ m, (tupleKind (mixKind P w)).is h x.1 x.2.1 := by
    intro l m q
    induction q with
    | nil => intro x hx; exact nomatch hx
    | @cons p q ps qs hq t ih =>
      intro x hx
      rcases List.mem_cons.mp hx with e | hx
      · subst e
        exact key_of ok (by rw [← hq.1]; exact hq.2.1)
      · exact ih x hx
  exact all r x hx
theorem dt_of {kvs : List (List Key × V)} (ok : HOk P w H h) (e : H a = some (.dT kvs)) : kvs.length ≤ sizeLine ∧ (a == sysModules) = false ∧
    ∃ xs, KT H kvs xs ∧ h.DictOfH (tupleKind (mixKind P w)) a xs := dt_rd ok (.inl e)
end

/-- what the dict at a holds at the key y -/
def DGet (H : Hp) (a : Addr) (y : V) (r : Option V) : Prop :=
  (∃ kvs k, Rd H a (.dK kvs) ∧ y = kV k ∧ r = valV kvs k) ∨ ∃ kvs k b, Rd H a (.dT kvs) ∧ y = .ref b ∧ H b = some (.tup (k.map kV)) ∧ r = valV kvs k
/-- the heap behind a[y] = v -/
def DPut (H : Hp) (a : Addr) (y v : V) (H' : Hp) : Prop :=
  (∃ kvs k, H a = some (.dK kvs) ∧ y = kV k ∧ kvs.length < sizeLine ∧ H' = upd H a (.dK (putK kvs k v))) ∨
  ∃ kvs k b, H a = some (.dT kvs) ∧ y = .ref b ∧ H b = some (.tup (k.map kV)) ∧ kvs.length < sizeLine ∧ H' = upd H a (.dT (putK kvs k v))
theorem DGet.k {H : Hp} {a : Addr} {kvs : List (Key × V)} {k : Key} (e : H a = some (.dK kvs)) : DGet H a (kV k) (valV kvs k) := .inl ⟨kvs, k, .inl e, rfl, rfl⟩
theorem DGet.t {H : Hp} {a b : Addr} {kvs : List (List Key × V)} {k : List Key} (e : H a = some (.dT kvs)) (eb : H b = some (.tup (k.map kV))) : DGet H a (.ref b) (valV kvs k) := .inr ⟨kvs, k, b, .inl e, rfl, eb, rfl⟩
theorem DPut.k {H : Hp} {a : Addr} {kvs : List (Key × V)} {k : Key} {v : V} (e : H a = some (.dK kvs)) (hl : kvs.length < sizeLine) : DPut H a (kV k) v (upd H a (.dK (putK kvs k v))) := .inl ⟨kvs, k, e, rfl, hl, rfl⟩
theorem DPut.t {H : Hp} {a b : Addr} {kvs : List (List Key × V)} {k : List Key} {v : V} (e : H a = some (.dT kvs)) (eb : H b = some (.tup (k.map kV))) (hl : kvs.length < sizeLine) :
    DPut H a (.ref b) v (upd H a (.dT (putK kvs k v))) := .inr ⟨kvs, k, b, e, rfl, eb, hl, rfl⟩


section
variable {X : Cx} {pins : List (Addr × Obj)} {σ : St} {H : Hp} {s : Shared} {a : Addr} {y v : V} {u r : Value} {o : Option V} {A : Around} {E : Value → Shared → Prop}

theorem Inv.big (I : Inv X pins σ H s) : sysModules < s.heap.objs.size := by
  have h : mainGlobals < s.heap.objs.size := (I.mod.glob.keeps I.bk).lt
  exact Nat.lt_trans (by decide) h

/-- a dict's object is replaced -/
theorem d_write {h' : Heap} {t' : Nat} {ob : HO} (I : Inv X pins σ H s) (mu : Mut (H a)) (hs : Heap.SameBut a s.heap h') (he : ∃ q, h'.get? a = some q) (new : ObjOk X.prog X.w (upd H a ob) h' a ob) :
    Inv X pins σ (upd H a ob) { s with heap := h', toks := t' } :=
  I.write (x := a) (e := a) mu (.inl rfl) (fun b q hb z => (hs.2 b hb).trans z) he new
theorem dk_new {P : Program} {w : World} {H' : Hp} {h' : Heap} {kvs : List (Key × V)} {vs : List (Key × Value)} (z : kvs.length ≤ sizeLine) (hd : (a == sysModules) = false) (rel : KV kvs vs) (dd : h'.DictOf (mixKind P w) a vs) :
    ObjOk P w H' h' a (.dK kvs) := ⟨z, hd, vs, rel, dd⟩
/-- d[y] = v -/
theorem d_setItem {H' : Hp} {Q : Unit → Shared → Prop} (hu : A.units + 1 < cLine) (I : Inv X pins σ H s) (g : DPut H a y v H') (ry : RelV y u) (rv : RelV v r) (h : ∀ s', Inv X pins σ H' s' → Q () s') :
    wpAny (model X.prog X.w) A (setItem (.ref a) u r) Q E s := by
  rcases g with ⟨kvs, k, e, ey, l, eH⟩ | ⟨kvs, k, b, e, ey, eb, l, eH⟩
  · subst ey eH
    obtain ⟨z, hd, vs, rel, dd⟩ := dk_of I.hok e
    have hz : vs.length ≤ sizeLine := by rw [← rel.length]; exact z
    have hl : (putK kvs k v).length ≤ sizeLine := by have := length_putK kvs k v; omega
    refine wpAny_setItem_pairs (hsz := hz) (kV_is ry) dd fun h' dd' hs => h _ ?_
    have he : ∃ q, h'.get? a = some q := let ⟨q, _, _, hq, _⟩ := dd'; ⟨q, hq⟩
    exact d_write I (by rw [e]; exact True.intro) hs he (dk_new hl hd (rel.put k rv) dd')
  · subst ey eH
    cases (show u = Value.ref b from ry)
    obtain ⟨z, hd, xs, rel, dd⟩ := dt_of I.hok e
    have hz : xs.length ≤ sizeLine := by rw [← Paired.length rel]; exact z
    have hl : (putK kvs k v).length ≤ sizeLine := by have := length_putK kvs k v; omega
    refine wpAny_setItem_heap (hsz := hz) (tupleKind_room_in1 hu) (key_of I.hok eb) dd fun h' dd' hs => h _ ?_
    obtain ⟨q, es, ep, hq, h2, h3, h4, _, h5⟩ := dd'
    refine d_write I (by rw [e]; exact True.intro) hs ⟨q, hq⟩ ⟨hl, hd, _, (rel.put k eb rv).keeps fun c ys ec => ?_, q, es, ep, hq, h2, h3, h4, h5⟩
    rw [upd_ne (ne_of ec e (fun z => nomatch z))]
    exact ec
end

section
variable {X : Cx} {pins : List (Addr × Obj)} {σ : St} {H : Hp} {s : Shared} {a : Addr} {kvs : List (Key × V)} {k : Key} {u : Value} {A : Around} {E : Value → Shared → Prop}
end


/-! ### readings and rules -/
/-- the element of a subscription, not a slice -/
def NoSl (i : Expr) : Prop := ∀ ov iv, subscripted i false ov iv = operate [ov, iv] (getItem ov iv)
/-- d[y] -/
def tDGet (td ty : TE) : TE := fun σ H Q => td σ H fun x H1 => ty σ H1 fun y H2 => ∃ a v, x = .ref a ∧ DGet H2 a y (some v) ∧ Q v H2
/-- y in d, y not in d -/
def tDIn (ty td : TE) : TE := fun σ H Q => ty σ H fun y H1 => td σ H1 fun x H2 => ∃ a o, x = .ref a ∧ DGet H2 a y o ∧ Q (.bl o.isSome) H2
def tDNotIn (ty td : TE) : TE := fun σ H Q => ty σ H fun y H1 => td σ H1 fun x H2 => ∃ a o, x = .ref a ∧ DGet H2 a y o ∧ Q (.bl (!o.isSome)) H2
/-- d[y] = v -/
def sDPut (td ty tv : TE) : TS := fun D σ H => tv σ H fun v H1 => td σ H1 fun x H2 => ty σ H2 fun y H3 => ∃ a H4, x = .ref a ∧ DPut H3 a y v H4 ∧ D.nx σ H4
/-- d[y] op= v -/
def sDAug (td ty tv : TE) (rd : V → V → Hp → VK → Prop) : TS := fun D σ H => td σ H fun x H1 => ty σ H1 fun y H2 => ∃ a v, x = .ref a ∧ DGet H2 a y (some v) ∧
  tv σ H2 fun y2 H3 => rd v y2 H3 fun z H4 => ∃ H5, DPut H4 a y z H5 ∧ D.nx σ H5
/-- del d[y] -/
def sDDel (td ty : TE) : TS := fun D σ H => td σ H fun x H1 => ty σ H1 fun y H2 => ∃ a kvs k, x = .ref a ∧ H2 a = some (.dK kvs) ∧ y = kV k ∧ (valV kvs k).isSome = true ∧ D.nx σ (upd H2 a (.dK (dropK kvs k)))

section
variable {X : Cx} {o i e value : Expr} {pos pos' tpos : Pos} {td ty tv : TE}
theorem ps_dput (hu : X.A.units + 1 < cLine) (ho : PE X o td) (hi : PE X i ty) (hv : PE X value tv) (hs : swapsWith value (some (.Subscript o i pos')) pos.line X.env = pure false) :
    PS X (.Assign [.Subscript o i pos'] value pos) (sDPut td ty tv) := by
  intro pins s σ H D I h
  refine wpAny_Assign_Subscript (thn (hv pins s σ H _ I h) fun r s1 ⟨v, H1, I1, rv, q1⟩ => thn (ho pins s1 σ H1 _ I1 q1) fun u s2 ⟨x, H2, I2, rx, q2⟩ => thn (hi pins s2 σ H2 _ I2 q2) fun iv s3 ⟨y, H3, I3, ry, a, H4, ex, g, q3⟩ => ?_) hs
  subst ex
  obtain rfl : u = Value.ref a := rx
  exact d_setItem hu I3 g ry rv fun s4 I4 => ⟨σ, H4, I4, q3⟩
end


/-! ### displays -/
theorem dk_empty {P : Program} {w : World} {H : Hp} (h : Heap) (hb : sysModules < h.objs.size) : ObjOk P w H (h.push { cls := .type "dict", data := .dict #[] }) h.objs.size (.dK []) :=
  ⟨Nat.zero_le _, beq_eq_false_iff_ne.mpr (Ne.symm (Nat.ne_of_lt hb)), [], .nil, Heap.DictOf.new h⟩
/-- {}, to be a dict of the kind that is wanted -/
def tDNewK : TE := fun _ H Q => ∀ p, H p = none → Q (.ref p) (upd H p (.dK []))
def tDNewT : TE := fun _ H Q => ∀ p, H p = none → Q (.ref p) (upd H p (.dT []))
section
variable {X : Cx} {pos : Pos}
theorem pe_dnewK : PE X (.Dict [] [] pos) tDNewK := fun pins s σ H Q I h =>
  wpAny_Dict_empty ⟨.ref s.heap.objs.size, _, I.laid (a := s.heap.objs.size) (o := .dK []) (t' := s.toks) (fun _ _ q => Heap.get?_push_of_some _ q) (Nat.le_refl _) (dk_empty s.heap I.big), rfl, h _ (I.hok.fresh (Nat.le_refl _))⟩
end

end L2
namespace HT
open PySem PyProof.Rows
section
variable {prog : Program} {w : World} {A : Around} {E : Value → Shared → Prop} {s : Shared}
/-- t[a:b], the whole of it: t itself -/
theorem getItem_tuple_all {t sl : Addr} {items : Array Value} {vl vu : Value} {lo hi : Option Int} {Q : Value → Shared → Prop} (ht : IsTup s.heap t items) (hs : s.heap.IsSliceOf sl vl vu .none) (pl : IsPart vl lo) (pu : IsPart vu hi)
    (h0 : sIx items.size 0 lo = 0) (h1 : sIx items.size items.size hi = items.size) (h : Q (.ref t) s) : wpAny (model prog w) A (getItem (.ref t) (.ref sl)) Q E s := by
  obtain ⟨os, hos, hcs, hds⟩ := id hs
  have hTs : s.TypeIs (.ref sl) "slice" := ⟨os, hos, hcs⟩
  unfold getItem
  try with_reducible refine wpAny_holding ?_
  first | refine wpAny_bind (wpAny_pure ?_) | skip
  refine wpAny_bind (wpAny_sequenceKey ht.typeIs (by decide) ?_)
  refine wpAny_bind (wpAny_callSpecial?_slot (name := Str.ofString "__getitem__") ht.typeIs PyProof.Rows.slot_tuple_getitem
    (wpAny_call_entry PyProof.Rows.slot_tuple_getitem ht.typeIs entry_tuple_getitem ?_ (args_tuple_getitem _ _)))
  show wpAny _ _ (Builtin.Tuple.tupleItemsOf (.ref t) >>= _) _ _ s
  refine wpAny_bind (tupleItemsOf_ ht ?_)
  refine wpAny_bind (wpAny_typeOf hTs ?_)
  rw [if_pos (by decide)]
  refine wpAny_bind (sliceApplied_gen hs pl pu ?_)
  rw [h0, h1]
  have hyes : ((((0 : Nat) : Int) == 0 && (1 : Int) == 1 && (items.size - 0) == items.size) = true) := by simp
  show wpAny _ _ (if ((((0 : Nat) : Int) == 0 && (1 : Int) == 1 && (items.size - 0) == items.size) = true) then _ else _) _ _ s
  rw [if_pos hyes]
  refine wpAny_bind (wpAny_bind (wpAny_typeOf ht.typeIs (wpAny_pure ?_)))
  rw [if_pos (by decide)]
  exact wpAny_bind (wpAny_rule (wpAny_pure ⟨_, rfl, wpAny_pure h⟩))
end
end HT
namespace L2
open PySem PySem.Spec PyProof.Rows PySem.W
theorem same_one {H : Hp} {q : Addr} {o : HO} (hq : H q = none) : Same H (upd H q o) := fun b u e => by rw [upd_ne (ne_of_none e hq)]; exact e
section
variable {X : Cx}
/-- t[lo:hi], t tracked -/
def rSlA : V → Option Int → Option Int → Hp → VK → Prop := fun x lo hi H Q => ∃ a xs, x = .ref a ∧ H a = some (.tup xs) ∧ ∀ p H', Same H H' → H' p = some (.tup (cutV xs lo hi)) → Q (.ref p) H'
theorem sl_tupA : SlR X rSlA := by
  intro pins s σ H x v vl vu lo hi sl Q I rx hs pl pu h
  obtain ⟨a, xs, rfl, hx, q⟩ := h
  by_cases hw : HT.sIx xs.length 0 lo = 0 ∧ HT.sIx xs.length xs.length hi = xs.length
  · cases rx
    obtain ⟨its, r, ht, hz⟩ := I.tuple (SqT.of hx)
    have hlen : its.toArray.size = xs.length := by rw [List.size_toArray]; exact r.length.symm
    refine ⟨"tuple", _, PyProof.Rows.slot_tuple_getitem.lookup, ht.typeIs, HT.getItem_tuple_all ht hs pl pu (by rw [hlen]; exact hw.1) (by rw [hlen]; exact hw.2) ?_⟩
    refine ⟨.ref a, H, I, rfl, q a H (Same.refl _) ?_⟩
    unfold cutV
    rw [hw.1, hw.2, List.drop_zero, Nat.sub_zero, List.take_length]
    exact hx
  · exact sl_tup pins s σ H (.ref a) v vl vu lo hi sl Q I rx hs pl pu ⟨a, xs, rfl, SqT.of hx, hw, fun p hp => q p _ (same_one hp) upd_same⟩
/-- t + u, both tracked -/
def rCatA : R2 := fun x y H Q => ∃ a b xs ys, x = .ref a ∧ y = .ref b ∧ H a = some (.tup xs) ∧ H b = some (.tup ys) ∧ xs.length + ys.length ≤ sizeLine ∧ ∀ p H', Same H H' → H' p = some (.tup (xs ++ ys)) → Q (.ref p) H'
end
end L2
namespace HT
open PySem PyProof.Rows
section
open PySem.SeqAt
open PySem.AutoSeq1 (wpAny_loadPart')
open PySem.MeetsSeq PySem.MeetsSeq2 PySem.MeetsSeq3
end
end HT
namespace HT
open PySem PyProof.Rows
section
variable {prog : Program} {w : World} {A : Around} {R : Result → Shared → Prop}
/-- a list of ints on the heap -/
def IntsL (h : Heap) (a : Addr) (ns : List Int) : Prop := ∃ vs n dd sl, h.get? a = some { cls := .type "list", dict := dd, data := .seq vs n, slots := sl } ∧ IntsAre vs.toList ns
end
end HT
namespace L2
open PySem PySem.Spec PyProof.Rows PySem.W HT
section
variable {X : Cx}
/-- min of a list of lists of ints -/
def rMinL (K : Frag) : List V → Hp → VK → Prop := fun xs H Q => ∃ (p : Addr) (ys : List V) (nss : List (List Int)), xs = [.ref p] ∧ SqL K H p ys ∧ Paired (fun y ns => ∃ a, y = V.ref a ∧ H a = some (.lst (ns.map V.int))) ys nss ∧ nss ≠ [] ∧
  ∀ a mb, mb ∈ nss → H a = some (.lst (mb.map V.int)) → (∀ ns ∈ nss, lexLt ns mb = false) → Q (.ref a) H
end
end L2
/-! ### enumerate over a tuple -/
namespace HT
open PySem PyProof.Rows
section
variable {prog : Program} {w : World} {A : Around} {E : Value → Shared → Prop} {s : Shared}
end
end HT
namespace HT
open PySem PyProof.Rows
open PySem.AutoSeq1 (wpAny_loadPart')
end HT
namespace L2
open PySem PySem.Spec PyProof.Rows PySem.W HT
def ItE (K : Frag) (l : Addr) : It :=
  ⟨fun i H => ∃ xs x, SqT K H l xs ∧ xs[i]? = some x, fun i H x H' => ∃ t v, H t = none ∧ x = .ref t ∧ (∀ xs, SqT K H l xs → xs[i]? = some v) ∧ H' = upd H t (.tup [.int i, v]), fun i H => ∃ xs, SqT K H l xs ∧ xs.length ≤ i⟩
section
variable {X : Cx}
def iEnumT (K : Frag) (ta : TA) : TI := fun σ H R => ta σ H fun vs H1 => ∃ a, vs = [.ref a] ∧ (∃ xs, SqT K H1 a xs) ∧ R (ItE K a) H1
end
end L2
/-! ### dict(zip(xs, ys)) -/
namespace HT
open PySem PyProof.Rows
end HT
namespace HT
open PySem PyProof.Rows PySem.W
/-- a zip whose last pair is still about -/
def ZipOn (h : Heap) (z TI TO : Addr) : Prop := ∃ (a : Nat) (f1 : Bool) (o : Obj), h.get? z = some { cls := .type "zip", dict := none, data := .fields #[rawInt a, .bool f1, .bool false, .ref TI, .ref TO], slots := #[] } ∧ h.get? a = some o ∧ a ≠ z
section
variable {prog : Program} {w : World} {A : Around} {E : Value → Shared → Prop} {s : Shared}
end
end HT
namespace HT
open PySem PyProof.Rows PySem.W L2
structure DApart (d z TI TO i1 i2 l1 l2 : Addr) : Prop where
  z : d ≠ z
  TI : d ≠ TI
  TO : d ≠ TO
  i1 : d ≠ i1
  i2 : d ≠ i2
  l1 : d ≠ l1
  l2 : d ≠ l2
section
variable {prog : Program} {w : World} {A : Around} {R : Result → Shared → Prop} {z TI TO i1 i2 l1 l2 d : Addr} {xs ys : Array Value} {g : Heap}
end
end HT
namespace HT
open PySem PyProof.Rows PySem.W L2
theorem nn {a b : Nat} (h : a < b ∨ b < a) : (a : Addr) ≠ (b : Addr) := fun e => by have : a = b := e; omega
section
variable {prog : Program} {w : World} {A : Around} {R : Result → Shared → Prop} {z TI TO i1 i2 l1 l2 d : Addr} {xs ys : Array Value} {g : Heap}
end
end HT
namespace HT
open PySem PyProof.Rows
section
open PySem.SeqAt
open PySem.AutoSeq1 (wpAny_loadPart')
open PySem.MeetsSeq PySem.MeetsSeq2 PySem.MeetsSeq3
end
end HT
namespace L2
open PySem PySem.Spec PyProof.Rows PySem.W HT
section
variable {X : Cx}
/-- xs.remove(x), a list of texts -/
def rRemL : V → List V → Hp → VK → Prop := fun x vs H Q => ∃ (l : Addr) (ys : List Str) (y : Str) (j : Nat), x = .ref l ∧ vs = [.str y] ∧ H l = some (.lst (ys.map V.str)) ∧ ys[j]? = some y ∧ (∀ m, m < j → ys[m]? ≠ some y) ∧ Q .non (upd H l (.lst ((ys.map V.str).eraseIdx j)))
/-- repr of data, of None -/
def rRepr : List V → Hp → VK → Prop := fun xs H Q => ∃ x, xs = [x] ∧ ((x = .non ∧ Q (.str "None") H) ∨ ∃ a d, x = .ref a ∧ Rep H x d ∧ d.showable = true ∧ d.hasDict = false ∧ d.depth ≤ 50 ∧ d.shown.length ≤ 100000 ∧ Q (.str d.shown) H)
/-- dict(zip(xs, ys)): the keys unlike texts -/
def zipKV (ks : List Str) (ws : List V) : List (Key × V) := (ks.zip ws).map fun p => (Sum.inr p.1, p.2)
def tDictZip (t : TA) : TE := fun σ H Q => t σ H fun vs H1 => ∃ l1 l2 ks ws, vs = [.ref l1, .ref l2] ∧ H1 l1 = some (.lst (ks.map V.str)) ∧ H1 l2 = some (.lst ws) ∧ ks.Nodup ∧ ks.length = ws.length ∧ ∀ d, H1 d = none → Q (.ref d) (upd H1 d (.dK (zipKV ks ws)))
end
end L2
namespace L2
open PySem PySem.Spec PyProof.Rows PySem.W HT
section
variable {X : Cx}
/-- the signs of a text -/
def Its (x : Str) : It := ⟨fun i _ => i < x.cps.size, fun i H v H' => H' = H ∧ ∃ c, x.cps[i]? = some c ∧ v = .str ⟨#[c]⟩, fun i _ => x.cps.size ≤ i⟩
theorem turn_str {P : Program} {w : World} {K : Frag} {tg : Expr} (it : Addr) (x : Str) (t : Tok) (T : String) (hT : ["enumerate", "zip", "dict_itemiterator", "dict_reverseitemiterator", "odict_iterator", "itertools.zip_longest", "itertools.pairwise"].contains T = false)
    (W : ∀ A' : Around, A'.handled = none → Walks P w A' it [it] [it] x.cps.size (SignAt x) (fun i h => h.IsStrIter it T x t i))
    (hs : ∀ (A : Around) (i : Nat) (s : Shared) (Q : Value → Shared → Prop) (E : Value → Shared → Prop), s.heap.IsStrIter it T x t i → Q (.ref it) s → wpAny (model P w) A (pyIter (.ref it)) Q E s) : Turn P w K tg (Its x) [it] it (fun i h => i ≤ x.cps.size ∧ h.IsStrIter it T x t i) where
  mem := by simp
  obj := fun i h st b hb => by
    obtain rfl : b = it := by simpa using hb
    obtain ⟨_, o, e, c, d⟩ := st
    exact ⟨o, e, fun v z => by rw [d] at z; cases z⟩
  keep := fun i h h' st k => by
    obtain ⟨l, o, e, r⟩ := st
    exact ⟨l, o, k it (by simp) _ e, r⟩
  item := by
    intro X hP hw hK hc i pins s σ H E I hf st hg
    subst hP hw hK
    obtain ⟨f0, f1, f2, f3, f4, f5⟩ := hf it (by simp)
    refine (W X.A (I.ok.hd hc)).item i s _ _ hg st.2 fun v h' tk hv st' kk => ?_
    obtain ⟨c, u, hcx, rfl⟩ := hv
    have I1 : Inv X pins σ H { s with heap := h', toks := tk } := I.turned (fun b o hb e => kk b o (by simpa using hb) e) f0 f1 f3 f4 f5
    obtain ⟨o, e, cl, d⟩ := id st'
    exact ⟨_, rfl, go_of (s := { s with heap := h', toks := tk }) e cl d hT ⟨.str ⟨#[c]⟩, H, I1, ⟨u, rfl⟩, ⟨rfl, c, hcx, rfl⟩, ⟨hg, st'⟩, fun b hb => (hf b hb).1⟩⟩
  done := by
    intro X hP hw hK hc i pins s σ H E I hf st hg
    subst hP hw hK
    obtain ⟨f0, f1, f2, f3, f4, f5⟩ := hf it (by simp)
    have ei : i = x.cps.size := Nat.le_antisymm st.1 hg
    subst ei
    exact (W X.A (I.ok.hd hc)).done s _ _ st.2 fun h' tk kk => ⟨rfl, I.turned (fun b o hb e => kk b o (by simpa using hb) e) f0 f1 f3 f4 f5⟩
  self := fun A i s Q E st h => hs A i s Q E st.2 h
def iStr (te : TE) : TI := fun σ H R => te σ H fun v H1 => ∃ x, v = .str x ∧ R (Its x) H1
theorem pi_str {tg e : Expr} {te : TE} (he : PE X e te) : PI X tg e (iStr te) := by
  intro pins s σ H R I h
  refine thn (he pins s σ H _ I h) fun v s1 ⟨y, H1, I1, r1, x, ey, q⟩ => ?_
  subst ey
  obtain ⟨t, rfl⟩ := r1
  have I2 : ∀ o : Obj, Inv X pins σ H1 { s1 with heap := s1.heap.push o } := fun o => I1.kept (t' := s1.toks) fun b ob z => Heap.get?_push_of_some _ z
  have fp : ∀ b ∈ [s1.heap.objs.size], FpOk X pins H1 b := fun b hb => by
    obtain rfl : b = s1.heap.objs.size := by simpa using hb
    exact I1.fpOk (Nat.le_refl _) (I1.hok.fresh (Nat.le_refl _))
  cases ha : x.cps.all (· < 128)
  · refine wpAny_pyIter_wide ha ?_
    exact ⟨s1.heap.objs.size, [s1.heap.objs.size], _, _, H1, rfl, I2 _, turn_str s1.heap.objs.size x t "str_iterator" (by decide) (fun A' hA => Walks.strWide hA _ x t) (fun _ _ _ _ _ st h => wpAny_pyIter_striter_wide st h), ⟨Nat.zero_le _, _, Heap.get?_push_size _ rfl, rfl, rfl⟩, fp, q⟩
  · refine wpAny_pyIter_ascii ha ?_
    exact ⟨s1.heap.objs.size, [s1.heap.objs.size], _, _, H1, rfl, I2 _, turn_str s1.heap.objs.size x t "str_ascii_iterator" (by decide) (fun A' hA => Walks.strAscii hA _ x t) (fun _ _ _ _ _ st h => wpAny_pyIter_striter_ascii st h), ⟨Nat.zero_le _, _, Heap.get?_push_size _ rfl, rfl, rfl⟩, fp, q⟩
/-- a comprehension over a text -/
theorem comp_str {x : Str} {g : TG} {ti : TT} {te : TE} {τ0 : St} {Q : VK} {p : Addr} {H1 : Hp} (Pv : Nat → List V → St → Hp → Prop) (h0 : Pv 0 [] τ0 (upd H1 p (.lst []))) (hl : ∀ i ys τ H, Pv i ys τ H → H p = some (.lst ys))
    (hs : ∀ i c ys τ H, x.cps[i]? = some c → Pv i ys τ H → g (.str ⟨#[c]⟩) τ H fun τ4 H4 => ti τ4 H4 fun b H5 => if b = true then te τ4 H5 fun y H6 => H6 p = some (.lst ys) ∧ ys.length < sizeLine ∧ ∃ m', m' < x.cps.size - i ∧ CW Pv x.cps.size (i + 1) m' (ys ++ [y]) τ4 (upd H6 p (.lst (ys ++ [y]))) else ∃ m', m' < x.cps.size - i ∧ CW Pv x.cps.size (i + 1) m' ys τ4 H5)
    (hd : ∀ ys τ H, Pv x.cps.size ys τ H → Q (.ref p) H) : CompW (Its x) g ti te τ0 Q p H1 := by
  refine ⟨CW Pv x.cps.size, ⟨x.cps.size, by simp, Nat.zero_le _, h0⟩, ?_⟩
  rintro i m ys τ H ⟨rfl, hi, pv⟩
  refine ⟨hl i ys τ H pv, ?_⟩
  by_cases hlt : i < x.cps.size
  · refine .inr ⟨hlt, fun v H3 y3 => ?_⟩
    obtain ⟨e3, c, hc, rfl⟩ := y3
    subst e3
    exact hs i c ys τ _ hc pv
  · have e : i = x.cps.size := by omega
    subst e
    exact .inl ⟨Nat.le_refl _, hd ys τ H pv⟩
end
end L2
/-! ### dict of a tuple of pairs -/
namespace HT
open PySem PyProof.Rows PySem.W L2
end HT
namespace HT
open PySem PyProof.Rows PySem.W L2
section
variable {prog : Program} {w : World} {A : Around} {R : Result → Shared → Prop} {it t d : Addr} {vs : Array Value} {g : Heap}
end
end HT
namespace L2
open PySem PySem.Spec PyProof.Rows PySem.W HT
section
variable {X : Cx}
theorem op_le_str : OpR X (compareOp .LtE) (fun x y H Q => ∃ i j, x = .str i ∧ y = .str j ∧ Q (.bl (!decide (j.cps.toList < i.cps.toList))) H) := by
  intro pins s σ H x y v u Q I rx ry ⟨i, j, ex, ey, q⟩
  subst ex ey
  obtain ⟨t, rfl⟩ := rx
  obtain ⟨t', rfl⟩ := ry
  exact P.le_str (fin_bl I q rfl)
/-- pairs of a text and something, as tuples on the heap -/
def PairsV (H : Hp) (vs : List V) (kvs : List (Str × V)) : Prop := Paired (fun y p => ∃ a, y = V.ref a ∧ H a = some (.tup [.str p.1, p.2])) vs kvs
theorem PairsV.same {H H' : Hp} {vs : List V} {kvs : List (Str × V)} (h : PairsV H vs kvs) (s : Same H H') : PairsV H' vs kvs := Paired.imp' (fun _ _ ⟨a, e, q⟩ => ⟨a, e, s _ _ q⟩) h
def pairKV (kvs : List (Str × V)) : List (Key × V) := kvs.map fun p => (Sum.inr p.1, p.2)
end
end L2
namespace L2
open PySem PySem.W PySem.Calls PyProof.Rows
/-! ### a sort of pairs: what comes out is the same pairs in some order -/
section
variable {α β : Type} {n : Nat}
def Good (n : Nat) (φ : α → Prop) : KasT α → Prop
  | .ret a => φ a
  | .ask i j k => i < n ∧ j < n ∧ ∀ b, Good n φ (k b)
theorem Good.bind {φ : α → Prop} {ψ : β → Prop} {f : α → KasT β} (g : ∀ a, φ a → Good n ψ (f a)) : ∀ {t : KasT α}, Good n φ t → Good n ψ (t.bind f)
  | .ret a, h => g a h
  | .ask _ _ _, h => ⟨h.1, h.2.1, fun b => Good.bind g (h.2.2 b)⟩
theorem Good.wp {φ : α → Prop} {cmp : Nat → Nat → (Bool → Shared → Prop) → Shared → Prop} {Q : α → Shared → Prop} {s : Shared} (hc : ∀ i j C, i < n → j < n → (∀ b, C b s) → cmp i j C s) : ∀ {t : KasT α}, Good n φ t → (∀ a, φ a → Q a s) → t.kasWp cmp Q s
  | .ret a, h, q => q a h
  | .ask _ _ _, h, q => hc _ _ _ h.1 h.2.1 fun b => Good.wp hc (h.2.2 b) q
def Pm (n : Nat) (p : Array Nat) : Prop := p.toList.Perm (List.range n)
theorem Pm.lt {p : Array Nat} (h : Pm n p) (hn : 0 < n) (i : Nat) : p.getD i 0 < n := by
  rw [Array.getD_eq_getD_getElem?]
  cases e : p[i]? with
  | none => exact hn
  | some x =>
    have : x ∈ p.toList := Array.mem_def.mp (Array.mem_of_getElem? e)
    exact List.mem_range.mp (h.mem_iff.mp this)
end
section
variable {X : Cx}
theorem obj_is {P : Program} {w : World} {H : Hp} {h : Heap} {a : Addr} {o : HO} (x : ObjOk P w H h a o) : ∃ q, h.get? a = some q := by
  cases o with
  | lst xs => obtain ⟨_, _, _, _, e⟩ := x; exact ⟨_, e⟩
  | tup xs => obtain ⟨_, _, _, q, e, _⟩ := x; exact ⟨q, e⟩
  | dK kvs => obtain ⟨_, _, _, _, o, _, _, e, _⟩ := x; exact ⟨o, e⟩
  | dT kvs => obtain ⟨_, _, _, _, o, _, _, e, _⟩ := x; exact ⟨o, e⟩
  | set S n => obtain ⟨o, _, _, _, e, _⟩ := x; exact ⟨o, e⟩
  | ins C dx fs => obtain ⟨_, _, _, e, _⟩ := x; exact ⟨_, e⟩
  | own y => exact x
  | xd fs => obtain ⟨_, ⟨o, _, _, e, _⟩, _⟩ := x; exact ⟨o, e⟩
  | rng lo hi => obtain ⟨_, _, _, e⟩ := x; exact ⟨_, e⟩
  | frz q u => exact ⟨q, x.1⟩
  | tbl ps => exact ⟨_, x⟩
  | met f y => exact ⟨_, x⟩
  | ext φ => exact x.2.1
/-- what a sort leaves: all kept but the frame's record, a new list -/
theorem Inv.sorted {pins : List (Addr × Obj)} {σ : List (Option V)} {H : Hp} {s : Shared} {h' : Heap} {m : Str → Option Value} {D : Addr} {ys : List V} {out : List Value} {c : Nat} {t' : Nat} (I : Inv X pins σ H s) (hm : s.heap.Ns X.env.locals m) (hm' : h'.Ns X.env.locals m)
    (k : ∀ b o, b ≠ X.env.locals → s.heap.get? b = some o → h'.get? b = some o) (hD : ∀ b o, s.heap.get? b = some o → b ≠ D) (new : h'.get? D = some (listOf out.toArray c)) (r : Vals ys out) (hz : ys.length ≤ sizeLine) :
    H D = none ∧ Inv X pins σ (upd H D (.lst ys)) { s with heap := h', toks := t' } := by
  have there : ∀ b u, H b = some u → ∃ o, s.heap.get? b = some o := fun b u e => obj_is (I.hok b u e)
  have hn : H D = none := by
    cases q : H D with
    | none => rfl
    | some u =>
      obtain ⟨o, e⟩ := there D u q
      exact absurd rfl (hD D o e)
  have neD : ∀ b u, H b = some u → b ≠ D := fun b u e z => by rw [z, hn] at e; cases e
  have neL : ∀ b u, H b = some u → b ≠ X.env.locals := fun b u e z => by rw [z, I.free] at e; cases e
  refine ⟨hn, I.step (g' := s.gens) (d' := s.drawn) (ch := []) (fun _ z => nomatch z) (fun b o hL _ _ e _ => k b o hL e) (fun b o hL _ _ e _ => ⟨o.slots, k b o hL e⟩) (fun b o _ e n => by rw [upd_ne (hD b o e)]; exact n) (fun b o _ e => ?_)
    (fun b xs e => by rw [upd_ne (neD b _ e)]; exact e) (fun b o u e => by rw [upd_ne (neD b _ e)]; exact e) (fun b ps e => ⟨#[], by rw [upd_ne (neD b _ e), e]; simp⟩) (fun m' q => ?_) (fun b u e => ?_) I.bare⟩
  · by_cases hb : b = X.env.locals
    · obtain ⟨o', es, ep, ho, _⟩ := hm'
      exact ⟨o', by rw [hb]; exact ho⟩
    · exact ⟨o, k b o hb e⟩
  · obtain ⟨o, es, ep, ho, hd, hs, hf⟩ := hm
    obtain ⟨o2, es2, ep2, ho2, hd2, hs2, hf2⟩ := q
    rw [ho] at ho2; cases ho2
    rw [hd] at hd2; cases hd2
    have : m' = m := funext fun x => (hf2 x).symm.trans (hf x)
    rw [this]; exact hm'
  · by_cases hb : b = D
    · subst hb
      rw [upd_same] at e; cases e
      exact ⟨hz, out, c, r, new⟩
    · rw [upd_ne hb] at e
      refine (I.hok b u e).stay (fun a v hc q => k a v ?_ q) (fun a q => by rw [upd_ne (neD a _ q)]; exact q) fun a xs q => by rw [upd_ne (neD a _ q)]; exact q
      rcases hc with z | z
      · rw [z]; exact neL b u e
      · exact neL a _ z

end
end L2
namespace L2
open PySem PySem.W PySem.Spec PyProof.Rows
/-! ### for over a dict: it is frozen while it is walked -/
def Itd (d : Addr) (o : Obj) (kvs : List (Key × V)) : It := ⟨fun i H => H d = some (.frz o (.dK kvs)) ∧ i < kvs.length, fun i H v H' => H' = H ∧ ∃ kv, kvs[i]? = some kv ∧ v = kV kv.1, fun i H => H d = some (.frz o (.dK kvs)) ∧ kvs.length ≤ i⟩
section
variable {X : Cx} {tg : Expr}
def iDict (te : TE) : TI := fun σ H R => te σ H fun v H1 => ∃ d kvs, v = .ref d ∧ ((H1 d = some (.dK kvs) ∧ ∀ o, R (Itd d o kvs) (upd H1 d (.frz o (.dK kvs)))) ∨ ∃ o, H1 d = some (.frz o (.dK kvs)) ∧ R (Itd d o kvs) H1)
def rIndexB : V → List V → Hp → VK → Prop := fun x vs H Q => ∃ (l : Addr) (ys : List Bool) (y : Bool) (j : Nat), x = .ref l ∧ vs = [.bl y] ∧ H l = some (.lst (ys.map V.bl)) ∧ ys[j]? = some y ∧ (∀ m, m < j → ys[m]? ≠ some y) ∧ Q (.int j) H
end
end L2
namespace L2
open PySem PySem.W PySem.Spec PyProof.Rows
/-! ### sorted of texts -/
def leS (a b : Str) : Prop := a.cps.toList ≤ b.cps.toList
theorem leS_anti {a b : Str} (h1 : leS a b) (h2 : leS b a) : a = b := by
  have e : a.cps.toList = b.cps.toList := List.le_antisymm h1 h2
  cases a; cases b
  exact congrArg Str.mk (Array.toList_inj.mp e)
theorem rising_all : ∀ {r : List Str} {p : Str}, risingS p r = true → (∀ x ∈ r, leS p x) ∧ r.Pairwise leS
  | [], p, _ => ⟨by simp, .nil⟩
  | x :: r, p, h => by
    obtain ⟨h1, h2⟩ := Bool.and_eq_true_iff.mp (show (!ltCps x.cps.toList p.cps.toList && risingS x r) = true from h)
    obtain ⟨h3, h4⟩ := rising_all h2
    have hp : leS p x := by
      rw [ltCps_eq] at h1
      have : ¬ (x.cps.toList < p.cps.toList) := by simpa using h1
      exact this
    refine ⟨fun y hy => ?_, .cons h3 h4⟩
    rcases List.mem_cons.mp hy with rfl | hy
    · exact hp
    · exact List.le_trans hp (h3 y hy)
theorem sortedS_pw {l : List Str} (h : sortedS l = true) : l.Pairwise leS := by
  cases l with
  | nil => exact .nil
  | cons x r => obtain ⟨h1, h2⟩ := rising_all (show risingS x r = true from h); exact .cons h1 h2
theorem sortedS_uniq {a b : List Str} (ha : sortedS a = true) (hb : sortedS b = true) (p : a.Perm b) : a = b := List.Perm.eq_of_pairwise (fun _ _ _ _ h1 h2 => leS_anti h1 h2) (sortedS_pw ha) (sortedS_pw hb) p
theorem vals_strs : ∀ {us : List Value} {ss : List Str}, StrsAre us ss → Vals (ss.map V.str) us
  | _, _, .nil => .nil
  | _, _, .cons _ t r => .cons ⟨t, rfl⟩ (vals_strs r)
section
variable {X : Cx}
end
/-! ### a comprehension over a dict -/
end L2
namespace HT
open PySem PyProof.Rows PySem.W
open PySem.AutoSeq1 (wpAny_loadPart')
/-! ### zip of two tuples, as a loop with a pair as its target walks it -/
section
variable {P : Program} {w : World} {B : Around} {E : Value → Shared → Prop} {s : Shared} {z TI TO i1 i2 l1 l2 : Addr} {k : Nat} {xs ys : Array Value} {x y a b : Value}
end
abbrev ti0 (t : Addr) : Obj := { cls := .type "tuple_iterator", data := .fields #[.ref t, .int 0 0] }
abbrev zt3 (h : Heap) (l1 l2 : Addr) : Heap := ((h.push (ti0 l1)).push (ti0 l2)).push { cls := .type "tuple", data := .seq #[.ref h.objs.size, .ref (h.push (ti0 l1)).objs.size] }
abbrev zt4 (h : Heap) (l1 l2 : Addr) : Heap := (zt3 h l1 l2).push { cls := .type "tuple", data := .seq #[.none, .none] }
abbrev zt5 (h : Heap) (l1 l2 : Addr) : Heap := (zt4 h l1 l2).push { cls := .type "zip", data := .fields #[.none, .bool false, .bool false, .ref ((h.push (ti0 l1)).push (ti0 l2)).objs.size, .ref (zt3 h l1 l2).objs.size] }
end HT
namespace L2
open PySem PySem.Spec PyProof.Rows PySem.W HT
def ItZ (K : Frag) (l1 l2 : Addr) : It :=
  ⟨fun i H => ∃ xs ys x y, SqT K H l1 xs ∧ SqT K H l2 ys ∧ xs[i]? = some x ∧ ys[i]? = some y,
   fun i H v H' => ∃ t x y, H t = none ∧ v = .ref t ∧ (∀ xs, SqT K H l1 xs → xs[i]? = some x) ∧ (∀ ys, SqT K H l2 ys → ys[i]? = some y) ∧ H' = upd H t (.tup [x, y]),
   fun i H => ∃ xs ys, SqT K H l1 xs ∧ SqT K H l2 ys ∧ (xs.length ≤ i ∨ ys.length ≤ i)⟩
section
variable {X : Cx}
def iZipT (K : Frag) (ta : TA) : TI := fun σ H R => ta σ H fun vs H1 => ∃ a b, vs = [.ref a, .ref b] ∧ (∃ xs, SqT K H1 a xs) ∧ (∃ ys, SqT K H1 b ys) ∧ R (ItZ K a b) H1
end
end L2
/-! ### sets of texts: what is kept of them, one more -/
namespace HS
open PySem PySem.Spec PyProof.Rows
theorem lay_led (t : SetTable) (es : Array (Int × Value)) (z : Int) (x : Value) : (layNew t es z x).2.1.led = t.led := by
  unfold layNew
  split
  · dsimp only
    unfold SetTable.orStandIn
    split <;> rfl
  · rfl
theorem laid_keeps {t u : SetTable} {zs : Array Int} {n : Nat} {ord : Array Nat} (e : t.relaid zs n = some (u, ord)) : u.led = t.led ∧ u.plain = t.plain := by
  unfold SetTable.relaid SetTable.laid at e
  cases c : SetTable.layClean (SetTable.sizeAbove n - 1) zs with
  | none => rw [c] at e; cases e
  | some ow =>
    rw [c] at e
    have e2 := Option.some.inj e
    have e3 := congrArg Prod.fst e2
    dsimp only at e3
    rw [← e3]
    exact ⟨rfl, rfl⟩
theorem relay_keeps (t : SetTable) (es : Array (Int × Value)) (n : Nat) : (relayAll t es n).2.1.led = t.led ∧ (t.plain = false → (relayAll t es n).2.1.plain = false) := by
  unfold relayAll
  split
  · rename_i u ord e
    obtain ⟨h1, h2⟩ := laid_keeps e
    dsimp only
    split
    · exact ⟨h1, fun z => h2.trans z⟩
    · exact ⟨rfl, fun _ => rfl⟩
  · exact ⟨rfl, fun _ => rfl⟩
/-- the set at a has just these texts, unlike ones -/
def SetX (P : Program) (w : World) (h : Heap) (a : Addr) (xs : List Str) : Prop :=
  ∃ o es ep t, h.get? a = some o ∧ o.ExactSet ∧ o.data = .set es ep t ∧ ElemsOf (strKind P w) es.toList ∧ (∀ k, k ∈ xs ↔ ∃ e ∈ es.toList, (strKind P w).is k e.2 = true) ∧
    es.size < scanBound ∧ t.fits es.size = true ∧ es.size = xs.length ∧ t.led = (!w.params.followText "set-order") ∧ (es.size ≠ 0 → t.plain = false)
theorem SetX.keep {P : Program} {w : World} {h h' : Heap} {a : Addr} {xs : List Str} (x : SetX P w h a xs) (k : ∀ o, h.get? a = some o → h'.get? a = some o) : SetX P w h' a xs := let ⟨o, es, ep, t, e, r⟩ := x; ⟨o, es, ep, t, k o e, r⟩
theorem SetX.lt {P : Program} {w : World} {h : Heap} {a : Addr} {xs : List Str} (x : SetX P w h a xs) : a < h.objs.size := let ⟨_, _, _, _, e, _⟩ := x; Heap.lt_size e
theorem SetX.typeIs {P : Program} {w : World} {s : Shared} {a : Addr} {xs : List Str} (x : SetX P w s.heap a xs) : s.TypeIs (.ref a) "set" := let ⟨o, _, _, _, e, c, _⟩ := x; ⟨o, e, c.1⟩
theorem setX_new {P : Program} {w : World} {h : Heap} {a : Addr} (e : h.get? a = some { cls := .type "set", dict := none, data := .set #[] 0 (.fresh 0 0 (!w.params.followText "set-order")) }) : SetX P w h a [] :=
  ⟨_, #[], 0, _, e, ⟨rfl, rfl, rfl⟩, rfl, fun z hz => (by simp at hz), fun k => (by simp), by decide, by rfl, rfl, rfl, fun z => absurd rfl z⟩
def addS (xs : List Str) (k : Str) : List Str := if k ∈ xs then xs else xs ++ [k]
section
variable {P : Program} {w : World} {A : Around} {E : Value → Shared → Prop} {s : Shared} {a : Addr} {xs : List Str}
theorem setX_put {h : Heap} {o : Obj} {es es' : Array (Int × Value)} {ep : Nat} {t t' : SetTable} {ys : List Str} (ho : h.get? a = some o) (hx : o.ExactSet) (hd : o.data = .set es ep t) (hel : ElemsOf (strKind P w) es'.toList)
    (hm : ∀ k, k ∈ ys ↔ ∃ e ∈ es'.toList, (strKind P w).is k e.2 = true) (hb : es'.size < scanBound) (hf : t'.fits es'.size = true) (hn : es'.size = ys.length) (hl : t'.led = (!w.params.followText "set-order")) (hp : t'.plain = false) :
    (h.update a (Obj.putSet es' t')).get? a = some { o with data := .set es' (ep + 1) t' } ∧ SetX P w (h.update a (Obj.putSet es' t')) a ys := by
  have hg : (h.update a (Obj.putSet es' t')).get? a = some { o with data := .set es' (ep + 1) t' } := by
    have z := Heap.get?_update_self (Obj.putSet es' t') ho (by rw [putSet_of es' t' hd]; rfl)
    rw [putSet_of es' t' hd] at z; exact z
  exact ⟨hg, _, es', ep + 1, t', hg, hx, rfl, hel, hm, hb, hf, hn, hl, fun _ => hp⟩
/-- one more text -/
theorem setX_add {k : Str} {tk : Tok} {Q : Bool → Shared → Prop} (hS : SetX P w s.heap a xs) (room : xs.length + 1 < scanBound) (h : ∀ h', Heap.SameBut a s.heap h' → SetX P w h' a (addS xs k) → ∀ b, Q b { s with heap := h' }) :
    wpAny (model P w) A (setAddHashed a (.str k tk) (hashStr w k)) Q E s := by
  obtain ⟨o, es, ep, t, ho, hex, hd, hel, hmem, hb, hf, hn, hled, hpl⟩ := hS
  have hkey : (strKind P w).is k (.str k tk) = true := by show Value.isStrOf k (.str k tk) = true; simp [Value.isStrOf]
  have hsc : (Value.str k tk).scannable = true := rfl
  have room1 : es.size + 1 < scanBound := by omega
  unfold setAddHashed setAddHashedIn
  refine wpAny_holding (wpAny_bind (wpAny_setState_of ho hd hf ?_)); dsimp only
  rw [byScan_of (knd := strKind P w) hsc hb hel, if_pos rfl]
  refine wpAny_bind ?_; unfold setAddByScan
  refine wpAny_bind (wpAny_rule (wpAny_bind (wpAny_setScan_of (knd := strKind P w) (k := k) hkey ho hd hf hel ?_)))
  cases hr : List.findIdx? (fun e => (strKind P w).is k e.2) es.toList with
  | some j =>
    obtain ⟨hj, hpj, _⟩ := List.findIdx?_eq_some_iff_getElem.mp hr
    have hk : k ∈ xs := (hmem k).mpr ⟨es.toList[j], List.getElem_mem hj, hpj⟩
    refine wpAny_pure (wpAny_pure ?_)
    have e0 : s = { s with heap := s.heap } := by cases s; rfl
    rw [e0]
    refine h s.heap (Heap.SameBut.refl a s.heap) ?_ _
    unfold addS; rw [if_pos hk]
    exact ⟨o, es, ep, t, ho, hex, hd, hel, hmem, hb, hf, hn, hled, hpl⟩
  | none =>
    dsimp only
    have hk : k ∉ xs := fun z => by
      obtain ⟨e, he, hp⟩ := (hmem k).mp z
      have := List.findIdx?_eq_none_iff.mp hr e he
      rw [hp] at this; cases this
    have gw : ∀ (b : Bool) {s₁ : Shared} {Q' : Unit → Shared → Prop}, Q' () s₁ → wpAny (model P w) A (match b with | true => rule "set.scan.the-table-gave-way" | false => pure ()) Q' E s₁ := fun b s₁ Q' hq => by
      cases b
      · exact wpAny_pure hq
      · exact wpAny_rule hq
    have hperm := layNew_perm t es ((strKind P w).hash k) (.str k tk)
    have hfits := layNew_fits t es ((strKind P w).hash k) (.str k tk)
    have hlay := lay_led t es ((strKind P w).hash k) (.str k tk)
    generalize hL : layNew t es (hashStr w k) (.str k tk) = L
    rw [show (strKind P w).hash k = hashStr w k from rfl, hL] at hperm hfits hlay
    obtain ⟨es1, t1, wd, gave⟩ := L
    dsimp only at hperm hfits hlay ⊢
    rw [Array.toList_push] at hperm
    have hel1 : ElemsOf (strKind P w) es1.toList := (hel.push (k := k) hkey hsc).perm hperm
    have hsz1 : es1.size = es.size + 1 := by rw [← Array.length_toList, hperm.length_eq, List.length_append, Array.length_toList]; rfl
    have hmem1 : ∀ k', k' ∈ addS xs k ↔ ∃ e ∈ es1.toList, (strKind P w).is k' e.2 = true := fun k' => by
      unfold addS; rw [if_neg hk, List.mem_append, List.mem_singleton, hmem k']
      constructor
      · rintro (⟨e, he, hp⟩ | rfl)
        · exact ⟨e, hperm.mem_iff.mpr (List.mem_append_left _ he), hp⟩
        · exact ⟨_, hperm.mem_iff.mpr (List.mem_append_right _ (List.mem_singleton.mpr rfl)), hkey⟩
      · rintro ⟨e, he, hp⟩
        rcases List.mem_append.mp (hperm.mem_iff.mp he) with he | he
        · exact .inl ⟨e, he, hp⟩
        · rw [List.mem_singleton] at he; subst he
          exact .inr ((strKind P w).inj _ k' k hp hkey)
    have hln : es1.size = (addS xs k).length := by unfold addS; rw [if_neg hk, List.length_append, List.length_singleton]; omega
    have hb1 : es1.size < scanBound := by omega
    refine wpAny_bind (gw _ ?_)
    -- the tail, with a table that is plain no more
    have tail : ∀ t2 : SetTable, t2.fits es1.size = true → t2.led = t.led → t2.plain = false → wpAny (model P w) A (do
        storeSet a es1 t2
        if (!wd && t2.tooFull) = true then do
            let r := relayAll t2 es1 (SetTable.grown es1.size)
            (match r.2.2 with | true => rule "set.scan.the-table-gave-way" | false => pure ())
            storeSet a r.1 r.2.1
            pure (some true)
          else pure (some true)) (fun r s' => wpAny (model P w) A (match r with | some added => pure added | none => setAddHashedIn a (.str k tk) (hashStr w k) 99999) Q E s') E s := by
      intro t2 hf2 hl2 hp2
      obtain ⟨ho1, hS1⟩ := setX_put (P := P) (w := w) ho hex hd hel1 hmem1 hb1 hf2 hln (hl2.trans hled) hp2
      have sb1 := Heap.SameBut.update s.heap a (Obj.putSet es1 t2)
      refine wpAny_bind (wpAny_storeSet_of ho hd ?_ (fits_of_scanBound hb1))
      split
      · have q1 := relayAll_perm t2 es1 (SetTable.grown es1.size)
        have q2 := relayAll_fits t2 es1 (SetTable.grown es1.size)
        have q3 := relay_keeps t2 es1 (SetTable.grown es1.size)
        dsimp only
        generalize relayAll t2 es1 (SetTable.grown es1.size) = R at q1 q2 q3 ⊢
        obtain ⟨es2, t3, g2⟩ := R
        dsimp only at q1 q2 q3 ⊢
        have sz2 : es2.size = es1.size := by rw [← Array.length_toList, q1.length_eq, Array.length_toList]
        have hm2 : ∀ k', k' ∈ addS xs k ↔ ∃ e ∈ es2.toList, (strKind P w).is k' e.2 = true := fun k' => (hmem1 k').trans ⟨fun ⟨e, he, q⟩ => ⟨e, q1.mem_iff.mpr he, q⟩, fun ⟨e, he, q⟩ => ⟨e, q1.mem_iff.mp he, q⟩⟩
        obtain ⟨_, hS2⟩ := setX_put (P := P) (w := w) ho1 hex rfl (hel1.perm q1) hm2 (by omega) q2 (by omega) (q3.1.trans (hl2.trans hled)) (q3.2 hp2)
        refine wpAny_bind (gw _ (wpAny_bind (wpAny_storeSet_of ho1 rfl ?_ (fits_of_scanBound (by omega)))))
        exact wpAny_pure (wpAny_pure (h _ (sb1.trans (Heap.SameBut.update _ a _)) hS2 _))
      · exact wpAny_pure (wpAny_pure (h _ sb1 hS1 _))
    by_cases hp1 : t1.plain = true
    · rw [if_pos hp1]
      refine wpAny_bind ?_
      rw [hashByValue_scannable 8 hsc]
      refine wpAny_pure ?_
      show wpAny (model P w) A (do
        storeSet a es1 { t1 with plain := false }
        _) _ E s
      exact tail { t1 with plain := false } (SetTable.fits_plain_off hfits) hlay rfl
    · rw [if_neg hp1]
      refine wpAny_bind (wpAny_pure ?_)
      show wpAny (model P w) A (do
        storeSet a es1 t1
        _) _ E s
      exact tail t1 hfits hlay (by simpa using hp1)
end
end HS
/-! ### set(texts) -/
namespace HS
open PySem PySem.Spec PyProof.Rows
def metS (val : Nat → Str) (i : Nat) : List Str := ((List.range i).map val).foldl addS []
theorem metS_succ (val : Nat → Str) (i : Nat) : metS val (i + 1) = addS (metS val i) (val i) := by
  unfold metS; rw [List.range_succ, List.map_append, List.foldl_append]; rfl
theorem addS_len (xs : List Str) (k : Str) : (addS xs k).length ≤ xs.length + 1 := by
  unfold addS
  split
  · omega
  · rw [List.length_append, List.length_singleton]; omega
theorem addS_nd {xs : List Str} (h : xs.Nodup) (k : Str) : (addS xs k).Nodup := by
  unfold addS
  split
  · exact h
  · rename_i hn
    rw [List.nodup_append]
    exact ⟨h, by simp, fun a ha b hb e => hn (by rw [← (List.mem_singleton.mp hb), ← e]; exact ha)⟩
theorem addS_mem {xs : List Str} {k y : Str} : y ∈ addS xs k ↔ y ∈ xs ∨ y = k := by
  unfold addS
  split
  · rename_i h
    exact ⟨.inl, fun z => z.elim id fun e => e ▸ h⟩
  · rw [List.mem_append, List.mem_singleton]
theorem metS_len (val : Nat → Str) : ∀ i, (metS val i).length ≤ i
  | 0 => Nat.le_refl _
  | i + 1 => by rw [metS_succ]; have := addS_len (metS val i) (val i); have := metS_len val i; omega
theorem metS_nd (val : Nat → Str) : ∀ i, (metS val i).Nodup
  | 0 => List.nodup_nil
  | i + 1 => by rw [metS_succ]; exact addS_nd (metS_nd val i) _
theorem metS_mem (val : Nat → Str) (y : Str) : ∀ i, y ∈ metS val i ↔ ∃ j, j < i ∧ val j = y
  | 0 => ⟨fun h => (by cases h), fun ⟨_, h, _⟩ => absurd h (Nat.not_lt_zero _)⟩
  | i + 1 => by
    rw [metS_succ, addS_mem, metS_mem val y i]
    constructor
    · rintro (⟨j, h, e⟩ | e)
      · exact ⟨j, by omega, e⟩
      · exact ⟨i, by omega, e.symm⟩
    · rintro ⟨j, h, e⟩
      by_cases c : j = i
      · exact .inr (by rw [← e, c])
      · exact .inl ⟨j, by omega, e⟩
section
variable {P : Program} {w : World} {A : Around} {R : Result → Shared → Prop} {I : Addr} {fp wr : List Addr} {G : Array GenState → Array GenState → Prop} {n : Nat} {Pv : Nat → Value → Prop} {St : Nat → Shared → Prop}
theorem set_loop (W : WalksS P w A.in1 I fp wr G n Pv St) (S : Addr) (hS : S ∉ fp) (val : Nat → Str) (hv : ∀ i v, Pv i v → ∃ t, v = .str (val i) t) (hb : n + 1 < scanBound) :
    ∀ (k i : Nat) (s : Shared), n - i = k → i ≤ n → St i s → SetX P w s.heap S (metS val i) → (∀ s', Moved (S :: wr) G s s' → SetX P w s'.heap S (metS val n) → R (.ok (.ret .none)) s') →
      codeAny (model P w) A (.builtin "set.update.loop" ⟨[.ref S, .ref I], []⟩) R s := by
  have hw : S ∉ wr := fun z => hS (W.sub _ z)
  have up : ∀ b ∈ wr, b ∈ S :: wr := fun b z => List.mem_cons_of_mem _ z
  intro k
  induction k with
  | zero =>
    intro i s hk hi st x q
    obtain rfl : i = n := by omega
    refine codeAny_builtin F.entry_set_update_loop ?_
    rw [Around.under_plainId F.plain_set_update_loop _]
    show wpAny _ A.in1 (pyNext (.ref I) >>= _) _ _ s
    refine wpAny_bind (W.done s _ _ st fun s' m => ?_); show wpAny _ A.in1 (ret Value.none) _ _ s'
    exact wpAny_pure (q s' (m.mono up) (x.keep fun o e => m.heap S o hw e))
  | succ k ih =>
    intro i s hk hi st x q
    have lt : i < n := by omega
    refine codeAny_builtin F.entry_set_update_loop ?_
    rw [Around.under_plainId F.plain_set_update_loop _]
    show wpAny _ A.in1 (pyNext (.ref I) >>= _) _ _ s
    refine wpAny_bind (W.item i s _ _ lt st fun v s' hP st' m => ?_)
    obtain ⟨t, rfl⟩ := hv i v hP
    have x' : SetX P w s'.heap S (metS val i) := x.keep fun o e => m.heap S o hw e
    show wpAny _ A.in1 (holding [Value.str (val i) t] (setAdd S (.str (val i) t)) >>= _) _ _ s'
    refine wpAny_bind (wpAny_holding ?_); unfold setAdd
    have hkey : (strKind P w).is (val i) (.str (val i) t) = true := by show Value.isStrOf (val i) (.str (val i) t) = true; simp [Value.isStrOf]
    refine wpAny_holding (wpAny_bind ((strKind P w).pyHash (k := val i) hkey ?_))
    have room : (metS val i).length + 1 < scanBound := by have := metS_len val i; omega
    refine setX_add (s := { s' with toks := s'.toks + 1 }) x' room fun h' sb x2 b => ?_
    rw [← metS_succ] at x2
    refine wpAny_pure ⟨plainId_quiet F.plain_set_update_loop _, ih (i + 1) _ (by omega) lt (W.frame _ s' _ _ st' (Nat.le_succ _) fun c hc o e => ?_) x2 fun s'' m'' x'' => ?_⟩
    · rw [sb.2 c (fun z : c = S => hS (by rw [← z]; exact hc))]; exact e
    · refine q s'' (Moved.trans W.gtrans ((m.mono up).then_heap (Nat.le_succ _) fun c o hc e => ?_) m'') x''
      rw [sb.2 c (fun z : c = S => hc (by rw [z]; exact List.mem_cons_self))]; exact e
end
section
variable {P : Program} {w : World} {A : Around} {E : Value → Shared → Prop} {s : Shared}
abbrev newS (w : World) : Obj := { cls := .type "set", dict := none, data := .set #[] 0 (.fresh 0 0 (!w.params.followText "set-order")) }
theorem code_setnew (a : Value) {Q₁ : Value → Shared → Prop} (h : Q₁ (.ref s.heap.objs.size) { s with heap := s.heap.push (newS w) }) :
    codeAny (model P w) A (.call (.builtin "set.__new__") ⟨[.type "set", a], []⟩) (wants Q₁ E) s := by
  refine codeAny_of_tree ?_; show wpAny _ A.in1 (do checkBuiltinCall "set.__new__" ⟨[.type "set", a], []⟩; again (.builtin "set.__new__" ⟨[.type "set", a], []⟩)) _ _ s
  refine wpAny_bind (wpAny_of_eq (F.newCall_set_1 a) (wpAny_pure ⟨plainId_quiet F.plain_set_new _, codeAny_builtin F.entry_set_new ?_⟩)); rw [Around.under_plainId F.plain_set_new _]
  unfold Builtin.«set.__new__» Builtin.Frozenset.newClass; have ss := sub_set_self
  obtain ⟨hp, g, d, tk, os⟩ := s; dsimp only
  wp_walk
  refine wpAny_askSetting (wpAny_pure ?_); dsimp only; simp only [newObj]
  refine wpAny_bind (wpAny_alloc (wpAny_pure ?_)); exact wpAny_pure h
/-- what set(..) is made of: a list or a tuple -/
structure Src (P : Program) (w : World) (T : String) (l : Addr) (ol : Obj) (n : Nat) (Pv : Nat → Value → Prop) : Prop where
  cls : ol.cls = .type T
  ns : isSubtype (.type T) (.type "set") = pure false
  nf : isSubtype (.type T) (.type "frozenset") = pure false
  nd : (Value.type T == Value.type "dict") = false
  iter : ∀ (A : Around) (s : Shared), A.handled = none → s.heap.get? l = some ol → ∃ (oI : Obj) (St : Nat → Heap → Prop),
    (∀ (E : Value → Shared → Prop) (Q : Value → Shared → Prop), Q (.ref s.heap.objs.size) { s with heap := s.heap.push oI } → wpAny (model P w) A (pyIter (.ref l)) Q E s) ∧
    Walks P w A s.heap.objs.size [s.heap.objs.size, l] [s.heap.objs.size] n Pv St ∧ St 0 (s.heap.push oI)
theorem call_setS {T : String} {l : Addr} {ol : Obj} {n : Nat} {Pv : Nat → Value → Prop} {val : Nat → Str} {Q : Value → Shared → Prop} (hh : A.handled = none) (C : Src P w T l ol n Pv) (hl : s.heap.get? l = some ol) (hv : ∀ i v, Pv i v → ∃ t, v = .str (val i) t) (hb : n + 1 < scanBound)
    (h : ∀ (h' : Heap) (tk : Nat), SetX P w h' s.heap.objs.size (metS val n) → (∀ b o, b < s.heap.objs.size → s.heap.get? b = some o → h'.get? b = some o) → Q (.ref s.heap.objs.size) { s with heap := h', toks := tk }) :
    wpAny (model P w) A (call (.type "set") [.ref l]) Q E s := by
  obtain ⟨c0, tl0, mro0⟩ := F.called_set.mro
  have made0 := F.called_set.made; have sub0 := F.called_set.sub
  refine wpAny_call (codeAny_of_tree ?_); show wpAny _ _ (callAny (.type "set") _) _ _ _
  refine wpAny_pure ⟨Code.quiet_builtin _ (by decide +kernel), codeAny_builtin F.entry_type_call ?_⟩; rw [Around.under_plain (weight_type_call_type "set" [.ref l] []) rfl]
  have f1 := F.called_set.notType; have f2 := F.called_set.canCreate
  have f3 := F.typeCall_set_1 (.ref l)
  repeat (any_goals (first | assumption | wp_step))
  refine codeAny_mono (code_setnew (.ref l) (E := E) (Q₁ := fun obj s₁ => obj = .ref s.heap.objs.size ∧ s₁ = { s with heap := s.heap.push (newS w) }) ⟨rfl, rfl⟩) fun r s₁ hr => ?_
  cases r with
  | error e => exact hr
  | ok fl =>
    cases fl with
    | ret obj =>
      obtain ⟨rfl, rfl⟩ := hr
      have gS : (s.heap.push (newS w)).get? s.heap.objs.size = some (newS w) := Heap.get?_push_size _ rfl
      have tS : Shared.TypeIs { s with heap := s.heap.push (newS w) } (.ref s.heap.objs.size) "set" := ⟨_, gS, rfl⟩
      have i1 := F.called_set.init.lookup; have i2 := F.called_set.init.bind (.ref s.heap.objs.size)
      repeat (any_goals (first | assumption | wp_step))
      refine codeAny_mono (codeAny_call_builtin (R := wants (fun r s₂ => r = .none ∧ ∃ h' tk, s₂ = { s with heap := h', toks := tk } ∧ SetX P w h' s.heap.objs.size (metS val n) ∧ (∀ b o, b < s.heap.objs.size → s.heap.get? b = some o → h'.get? b = some o)) E) F.called_set.init.plain F.entry_set_init (check_set_init_1 tS ?_)) fun r₂ s₂ hr₂ => ?_
      · have hl1 : (s.heap.push (newS w)).get? l = some ol := Heap.get?_push_of_some _ hl
        obtain ⟨ocls, odict, odata, oslots⟩ := ol
        have ecls : ocls = .type T := C.cls
        subst ecls
        have ns := C.ns; have nf := C.nf; have nd := C.nd
        unfold Builtin.«set.__init__» noKeywords Builtin.Frozenset.updateFrom
        generalize hPI : pyIter = PI
        wp_walk
        subst hPI
        obtain ⟨oI, St, it, W, st⟩ := C.iter A.in1.in1.in1 { s with heap := s.heap.push (newS w) } (by simp [hh]) hl1
        refine wpAny_of_in1 (it _ _ ?_)
        refine wpAny_bind (wpAny_runValue ?_)
        have lS : l < s.heap.objs.size := Heap.lt_size hl
        have nS : s.heap.objs.size ∉ [(s.heap.push (newS w)).objs.size, l] := by
          rw [Heap.size_push]; simp only [List.mem_cons, List.mem_singleton, List.not_mem_nil, or_false, not_or]; exact ⟨Nat.ne_of_lt (Nat.lt_succ_self _), Nat.ne_of_gt lS⟩
        refine set_loop W.toS s.heap.objs.size nS val hv hb (n - 0) 0 _ (by omega) (Nat.zero_le _) st (setX_new (Heap.get?_push_of_some _ gS)) ?_
        intro s' m x'
        obtain ⟨h', g', d', tk', os'⟩ := s'
        have e1 : g' = s.gens := m.gens
        have e2 : d' = s.drawn := m.drawn
        have e3 : os' = s.os := m.os
        subst e1; subst e2; subst e3
        show wpAny _ _ _ _ _ _
        refine wpAny_pure ?_; show wpAny _ _ (ret Value.none) _ _ _
        refine wpAny_pure ⟨rfl, h', tk', rfl, x', fun b o hb e => ?_⟩
        have b1 : b ≠ s.heap.objs.size := Nat.ne_of_lt hb
        have b2 : b ≠ (s.heap.push (newS w)).objs.size := by rw [Heap.size_push]; exact Nat.ne_of_lt (Nat.lt_succ_of_lt hb)
        exact m.heap b o (by simp only [List.mem_cons, List.mem_singleton, List.not_mem_nil, or_false, not_or]; exact ⟨b1, b2⟩) (Heap.get?_push_of_some _ (Heap.get?_push_of_some _ e))
      · cases r₂ with
        | error e => exact hr₂
        | ok fl₂ =>
          cases fl₂ with
          | ret r =>
            obtain ⟨rfl, h', tk, rfl, x', k'⟩ := hr₂
            repeat (any_goals (first | assumption | wp_step))
            exact h _ _ x' k'
          | _ => exact hr₂.elim
    | _ => exact hr.elim
theorem src_list {l : Addr} {items : Array Value} {ol : Obj} (cl : ol.cls = .type "list") (dt : ∃ n, ol.data = .seq items n) : Src P w "list" l ol items.size (fun i v => items[i]? = some v) where
  cls := cl
  ns := F.sub_list_set
  nf := F.sub_list_frozenset
  nd := by decide
  iter := fun A s hh hl => by
    have il : s.heap.IsList l items := ⟨ol, hl, cl, dt⟩
    have lt := Heap.lt_size hl
    exact ⟨_, _, fun E Q q => wpAny_pyIter_list il q, Walks.list hh _ l (Nat.ne_of_lt lt) items, ⟨_, Heap.get?_push_size _ rfl, rfl, rfl⟩, il.push _⟩
theorem src_tup {l : Addr} {items : Array Value} {ol : Obj} (cl : ol.cls = .type "tuple") (dt : ∃ n, ol.data = .seq items n) : Src P w "tuple" l ol items.size (fun i v => items[i]? = some v) where
  cls := cl
  ns := F.sub_tuple_set
  nf := F.sub_tuple_frozenset
  nd := by decide
  iter := fun A s hh hl => by
    have il : s.heap.IsTuple l items := ⟨ol, hl, cl, dt⟩
    have lt := Heap.lt_size hl
    exact ⟨_, _, fun E Q q => wpAny_pyIter_tuple il q, Walks.tuple hh _ l (Nat.ne_of_lt lt) items, ⟨_, Heap.get?_push_size _ rfl, rfl, rfl⟩, il.push _⟩
end
end HS
/-! ### a set of texts walked -/
namespace HS
open PySem PySem.Spec PyProof.Rows
theorem slot_it_next : Slot "set_iterator" "__next__" "set_iterator.__next__" :=
  Slot.of (owner := "set_iterator") (n := "__next__") (by rw [typeLookup_type, builtinLookup_eq_fast]; kernel_rfl) (by decide +kernel) (by decide +kernel) (by decide +kernel) (by first | exact .inl (by decide +kernel) | exact .inr (by decide +kernel)) (by rw [isSubtype_type]; kernel_rfl)
theorem entry_it_next : entryFor table "set_iterator.__next__" = some Builtin.«set_iterator.__next__» := entryFor_of_tree (by kernel_rfl)
theorem owner_it : Manifest.owners.lookup (String.ofList "rotareti_tes".toList.reverse) = some Manifest.sig_set_iterator := by kernel_rfl
theorem args_it_next (a : Value) : argsOk "set_iterator.__next__" ⟨[a], []⟩ := by
  unfold argsOk; rw [signature?_of (id := "set_iterator.__next__") (n := ['_', '_', 't', 'x', 'e', 'n', '_', '_']) (o := "rotareti_tes".toList) (by kernel_rfl) owner_it]; kernel_rfl
theorem slot_it_iter : Slot "set_iterator" "__iter__" "set_iterator.__iter__" :=
  Slot.of (owner := "set_iterator") (n := "__iter__") (by rw [typeLookup_type, builtinLookup_eq_fast]; kernel_rfl) (by decide +kernel) (by decide +kernel) (by decide +kernel) (by first | exact .inl (by decide +kernel) | exact .inr (by decide +kernel)) (by rw [isSubtype_type]; kernel_rfl)
theorem entry_it_iter : entryFor table "set_iterator.__iter__" = some Builtin.«dict_keyiterator.__iter__» := entryFor_alias (id' := "dict_keyiterator.__iter__") (by kernel_rfl) rfl (by decide +kernel) (by kernel_rfl)
theorem args_it_iter (a : Value) : argsOk "set_iterator.__iter__" ⟨[a], []⟩ := by
  unfold argsOk; rw [signature?_of (id := "set_iterator.__iter__") (n := ['_', '_', 'r', 'e', 't', 'i', '_', '_']) (o := "rotareti_tes".toList) (by kernel_rfl) owner_it]; kernel_rfl
theorem entry_s_iter : entryFor table "set.__iter__" = some Builtin.«frozenset.__iter__» := entryFor_alias (id' := "frozenset.__iter__") (by kernel_rfl) rfl (by decide +kernel) (by kernel_rfl)
abbrev itO (first : Value) (i : Nat) (a : Addr) (n ep : Nat) : Obj := { cls := .type "set_iterator", dict := none, data := .fields #[first, .int i 0, .ref a, .int n 0, .int ep 0], slots := #[] }
section
variable {P : Program} {w : World} {A : Around} {E : Value → Shared → Prop} {s : Shared} {I a : Addr} {o : Obj} {es : Array (Int × Value)} {ep : Nat} {t : SetTable}
/-- the way up to the look at the first field -/
theorem next_pre {first : Value} {i n : Nat} {Q : Option Value → Shared → Prop} (hit : s.heap.get? I = some (itO first i a n ep)) (ho : s.heap.get? a = some o) (hd : o.data = .set es ep t) (hf : t.fits es.size = true) (hn : es.size = n)
    (body : wpAny (model P w) A.in1 (do
      if let .int slot _ := first then
        match ← setNext a slot.toNat ((i : Int)).toNat ((ep : Int)).toNat with
        | some (x, next) =>
          setField (.ref I) 0 (rawInt next)
          setField (.ref I) 1 (rawInt ((i : Int) + 1))
          ret x
        | none => setField (.ref I) 2 .none; raiseNew (← newExc (.type "StopIteration") [])
      else
        let some places ← seqItems? first | unsupported "internal:set_iterator"
        match places[((i : Int)).toNat]? with
        | some (.int place _) =>
          let x ← setNextDrawn a place.toNat ((ep : Int)).toNat
          setField (.ref I) 1 (rawInt ((i : Int) + 1))
          ret x
        | some _ => unsupported "internal:set_iterator"
        | none => setField (.ref I) 0 (rawInt 0); setField (.ref I) 2 .none; raiseNew (← newExc (.type "StopIteration") []))
      (fun fin s' => ∃ r, fin = .done (.ret r) ∧ Q (some r) s') (fun e s' => wpAny (model P w) A (do if ← isInstance e (.type "StopIteration") then pure none else throw e) Q E s') s) : wpAny (model P w) A (pyNext (.ref I)) Q E s := by
  have hT : s.TypeIs (.ref I) "set_iterator" := ⟨_, hit, rfl⟩
  unfold pyNext
  refine wpAny_bind (wpAny_attempt (wpAny_callSpecial?_slot (name := Str.ofString "__next__") hT slot_it_next (wpAny_call_entry slot_it_next hT entry_it_next ?_ (args_it_next _))))
  unfold Builtin.«set_iterator.__next__»
  refine wpAny_bind (wpAny_pure ?_)
  dsimp only
  refine wpAny_bind (wpAny_fieldsOf hit rfl ?_)
  dsimp only
  refine wpAny_bind ?_; unfold setEntries
  refine wpAny_bind (wpAny_setState_of ho hd hf (wpAny_pure ?_))
  dsimp only
  rw [if_neg (by rw [hn]; simp)]
  refine wpAny_mono body (fun fin s' h => ?_) fun e s' h => ?_
  · obtain ⟨r, rfl, q⟩ := h
    exact ⟨r, rfl, wpAny_pure q⟩
  · exact h
/-- StopIteration raised and met -/
theorem stop_met {Q : Option Value → Shared → Prop} (hh : A.handled = none) (q : ∀ h', (∀ b ob, s.heap.get? b = some ob → h'.get? b = some ob) → Q none { s with heap := h' }) :
    wpAny (model P w) A.in1 (newExc (.type "StopIteration") [] >>= fun e => (raiseNew e : Sem PySem.Fin)) (fun fin s' => ∃ r, fin = .done (.ret r) ∧ Q (some r) s') (fun e s' => wpAny (model P w) A (do if ← isInstance e (.type "StopIteration") then pure none else throw e) Q E s') s := by
  refine wpAny_bind ?_; simp only [newExc, newTuple]
  refine wpAny_bind (wpAny_newObj_type ?_ (by size_fits))
  refine wpAny_bind (m := firstArgMember _ _) (wpAny_of_eq (a := Value.none) (by first | rfl | (simp only [firstArgMember]; rfl)) (wpAny_newObj_type ?_ (by size_fits)))
  simp only [raiseNew]
  refine wpAny_bind (wpAny_handled ?_); rw [show A.in1.handled = none from hh]
  refine wpAny_bind (wpAny_pure (wpAny_throw ?_))
  refine wpAny_bind (wpAny_isInstance (T := "StopIteration") (b := true) (show Shared.TypeIs _ _ _ from ⟨_, Heap.get?_push_size _ rfl, rfl⟩) isSubtype_stop ?_)
  exact wpAny_pure (q _ fun b ob e => Heap.get?_push_of_some _ (Heap.get?_push_of_some _ e))
theorem next_int_item {slot i n nx : Nat} {x : Value} {Q : Option Value → Shared → Prop} (hit : s.heap.get? I = some (itO (.int slot 0) i a n ep)) (ho : s.heap.get? a = some o) (hd : o.data = .set es ep t) (hf : t.fits es.size = true) (hn : es.size = n)
    (nxt : ∀ (E' : Value → Shared → Prop) (Q' : Option (Value × Nat) → Shared → Prop), Q' (some (x, nx)) s → wpAny (model P w) A.in1 (setNext a slot i ep) Q' E' s)
    (q : ∀ h', h'.get? I = some (itO (.int nx 0) (i + 1) a n ep) → Heap.SameBut I s.heap h' → Q (some x) { s with heap := h' }) : wpAny (model P w) A (pyNext (.ref I)) Q E s := by
  refine next_pre hit ho hd hf hn ?_
  simp only [Int.toNat_natCast]
  refine wpAny_bind (nxt _ _ ?_)
  refine wpAny_bind (wpAny_setField_rec hit (by simp) fun h1 g1 s1 => ?_)
  refine wpAny_bind (wpAny_setField_rec g1 (by simp) fun h2 g2 s2 => ?_)
  exact wpAny_pure ⟨x, rfl, q h2 (by rw [g2]; simp [rawInt]) (s1.trans s2)⟩
theorem next_int_end {slot i n : Nat} {Q : Option Value → Shared → Prop} (hh : A.handled = none) (hit : s.heap.get? I = some (itO (.int slot 0) i a n ep)) (ho : s.heap.get? a = some o) (hd : o.data = .set es ep t) (hf : t.fits es.size = true) (hn : es.size = n)
    (nxt : ∀ (E' : Value → Shared → Prop) (Q' : Option (Value × Nat) → Shared → Prop), Q' none s → wpAny (model P w) A.in1 (setNext a slot i ep) Q' E' s)
    (q : ∀ h', (∀ b ob, b ≠ I → s.heap.get? b = some ob → h'.get? b = some ob) → Q none { s with heap := h' }) : wpAny (model P w) A (pyNext (.ref I)) Q E s := by
  refine next_pre hit ho hd hf hn ?_
  simp only [Int.toNat_natCast]
  refine wpAny_bind (nxt _ _ ?_)
  refine wpAny_bind (wpAny_setField_rec hit (by simp) fun h1 g1 s1 => ?_)
  exact stop_met hh fun h2 k2 => q h2 fun b ob nb e => k2 b ob (by rw [s1.2 b nb]; exact e)
theorem next_ref_item {pt : Addr} {ps : List Nat} {i n pl : Nat} {z : Int} {x : Value} {Q : Option Value → Shared → Prop} (hit : s.heap.get? I = some (itO (.ref pt) i a n ep)) (ho : s.heap.get? a = some o) (hd : o.data = .set es ep t) (hf : t.fits es.size = true) (hn : es.size = n)
    (hp : ∃ op c, s.heap.get? pt = some op ∧ op.data = .seq (ps.map fun (j : Nat) => rawInt j).toArray c) (hi : ps[i]? = some pl) (hx : es[pl]? = some (z, x))
    (q : ∀ h', h'.get? I = some (itO (.ref pt) (i + 1) a n ep) → Heap.SameBut I s.heap h' → Q (some x) { s with heap := h' }) : wpAny (model P w) A (pyNext (.ref I)) Q E s := by
  refine next_pre hit ho hd hf hn ?_
  obtain ⟨op, c, hop, hdp⟩ := hp
  dsimp only
  simp only [Int.toNat_natCast]
  refine wpAny_bind ?_; unfold seqItems?
  refine wpAny_bind (wpAny_load hop ?_)
  rw [hdp]
  refine wpAny_pure ?_
  dsimp only
  have e1 : (ps.map fun (j : Nat) => rawInt j).toArray[i]? = some (rawInt pl) := by simp [hi]
  rw [e1]
  show wpAny _ _ (setNextDrawn a ((pl : Int)).toNat ep >>= _) _ _ s
  rw [Int.toNat_natCast]; unfold setNextDrawn
  refine wpAny_bind (wpAny_bind (wpAny_setState_of ho hd hf ?_))
  dsimp only
  rw [if_neg (by simp), hx]
  refine wpAny_pure ?_
  refine wpAny_bind (wpAny_setField_rec hit (by simp) fun h2 g2 s2 => ?_)
  exact wpAny_pure ⟨x, rfl, q h2 (by rw [g2]; simp [rawInt]) s2⟩
theorem next_ref_end {pt : Addr} {ps : List Nat} {i n : Nat} {Q : Option Value → Shared → Prop} (hh : A.handled = none) (hit : s.heap.get? I = some (itO (.ref pt) i a n ep)) (ho : s.heap.get? a = some o) (hd : o.data = .set es ep t) (hf : t.fits es.size = true) (hn : es.size = n)
    (hp : ∃ op c, s.heap.get? pt = some op ∧ op.data = .seq (ps.map fun (j : Nat) => rawInt j).toArray c) (hi : ps.length ≤ i)
    (q : ∀ h', (∀ b ob, b ≠ I → s.heap.get? b = some ob → h'.get? b = some ob) → Q none { s with heap := h' }) : wpAny (model P w) A (pyNext (.ref I)) Q E s := by
  refine next_pre hit ho hd hf hn ?_
  obtain ⟨op, c, hop, hdp⟩ := hp
  dsimp only
  simp only [Int.toNat_natCast]
  refine wpAny_bind ?_; unfold seqItems?
  refine wpAny_bind (wpAny_load hop ?_)
  rw [hdp]
  refine wpAny_pure ?_
  dsimp only
  have e1 : (ps.map fun (j : Nat) => rawInt j).toArray[i]? = none := by simp; omega
  rw [e1]
  refine wpAny_bind (wpAny_setField_rec hit (by simp) fun h1 g1 s1 => ?_)
  refine wpAny_bind (wpAny_setField_rec g1 (by simp) fun h2 g2 s2 => ?_)
  exact stop_met hh fun h3 k3 => q h3 fun b ob nb e => k3 b ob (by rw [s2.2 b nb, s1.2 b nb]; exact e)
end
end HS
namespace HS
open PySem PySem.Spec PyProof.Rows
/-! ### in which order a set is walked: in some one -/
theorem pick_perm {α : Type} (next : Nat → Nat) : ∀ (fuel k : Nat) (left : List α) (out : Array α), left.length = fuel → (pickOrder.go next fuel k left out).toList.Perm (out.toList ++ left)
  | 0, k, left, out, h => by
    have : left = [] := List.eq_nil_of_length_eq_zero h
    subst this
    unfold pickOrder.go; simp
  | fuel + 1, k, left, out, h => by
    have hlt : next k % left.length < left.length := Nat.mod_lt _ (by omega)
    unfold pickOrder.go
    rw [List.getElem?_eq_getElem hlt]
    dsimp only
    refine (pick_perm next fuel (k + 1) _ _ (by rw [List.length_eraseIdx, if_pos hlt]; omega)).trans ?_
    rw [Array.toList_push, List.append_assoc]
    refine List.Perm.append_left _ ?_
    generalize next k % left.length = j at hlt
    have key : ∀ (l : List α) (j : Nat) (h : j < l.length), (l[j] :: l.eraseIdx j).Perm l := by
      intro l
      induction l with
      | nil => intro j h; exact absurd h (Nat.not_lt_zero _)
      | cons x l ih =>
        intro j h
        cases j with
        | zero => exact List.Perm.refl _
        | succ j => exact (List.Perm.swap _ _ _).trans ((ih j (Nat.lt_of_succ_lt_succ h)).cons x)
    exact key left j hlt
section
variable {P : Program} {w : World} {A : Around} {E : Value → Shared → Prop} {s : Shared} {a : Addr} {xs : List Str}
theorem wp_draw {α : Type} : ∀ (m : Nat) (l : List α) {s : Shared} {Q : List α → Shared → Prop}, l.length = m → (∀ ps d, ps.Perm l → Q ps { s with drawn := d }) → wpAny (model P w) A (drawOrder m l) Q E s
  | 0, l, s, Q, h, q => by
    have : l = [] := List.eq_nil_of_length_eq_zero h
    subst this
    unfold drawOrder
    exact wpAny_pure (q [] s.drawn (List.Perm.refl _))
  | m + 1, [], s, Q, h, q => by simp at h
  | m + 1, x :: l, s, Q, h, q => by
    unfold drawOrder
    refine wpAny_bind ?_
    have ch : ∀ {Q' : Nat → Shared → Prop} {s : Shared}, (∀ i d, i < (x :: l).length → Q' i { s with drawn := d }) → wpAny (model P w) A (choose .order (x :: l).length) Q' E s := fun {Q' s} q' => by
      intro Γ p hΓ
      exact ⟨by simp, q' _ _ (Nat.mod_lt _ (by simp))⟩
    refine ch fun i d hi => ?_
    rw [List.getElem?_eq_getElem hi]
    dsimp only
    refine wpAny_bind (wp_draw m _ (by rw [List.length_eraseIdx, if_pos hi]; omega) fun ps d' hp => wpAny_pure ?_)
    refine q _ _ ((hp.cons _).trans ?_)
    have key : ∀ (l : List α) (j : Nat) (h : j < l.length), (l[j] :: l.eraseIdx j).Perm l := by
      intro l
      induction l with
      | nil => intro j h; exact absurd h (Nat.not_lt_zero _)
      | cons x l ih =>
        intro j h
        cases j with
        | zero => exact List.Perm.refl _
        | succ j => exact (List.Perm.swap _ _ _).trans ((ih j (Nat.lt_of_succ_lt_succ h)).cons x)
    exact key _ i hi
theorem elems_strs {es : List (Int × Value)} (h : ElemsOf (strKind P w) es) : ∃ ks : List Str, StrsAre (es.map (·.2)) ks ∧ ∀ k, k ∈ ks ↔ ∃ e ∈ es, (strKind P w).is k e.2 = true := by
  induction es with
  | nil => exact ⟨[], .nil, fun k => (by simp)⟩
  | cons e es ih =>
    obtain ⟨ks, h1, h2⟩ := ih h.tail
    obtain ⟨⟨k, hk, _⟩, _⟩ := h.head
    obtain ⟨t, et⟩ := Value.isStrOf_shape hk
    refine ⟨k :: ks, ?_, fun y => ?_⟩
    · rw [List.map_cons, et]; exact .cons k t h1
    · rw [List.mem_cons, h2 y]
      constructor
      · rintro (rfl | ⟨e', he, q⟩)
        · exact ⟨e, List.mem_cons_self, hk⟩
        · exact ⟨e', List.mem_cons_of_mem _ he, q⟩
      · rintro ⟨e', he, q⟩
        rcases List.mem_cons.mp he with rfl | he
        · exact .inl ((strKind P w).inj _ _ _ q hk)
        · exact .inr ⟨e', he, q⟩
theorem strs_perm {vs us : List Value} {ks : List Str} (h : StrsAre us ks) (p : vs.Perm us) : ∃ ys, StrsAre vs ys ∧ ys.Perm ks := by
  induction p generalizing ks with
  | nil => exact ⟨ks, h, List.Perm.refl _⟩
  | cons x _ ih =>
    cases h with
    | cons y t r => obtain ⟨ys, h1, h2⟩ := ih r; exact ⟨y :: ys, .cons y t h1, h2.cons y⟩
  | swap x y l =>
    cases h with
    | cons k1 t1 r1 =>
      cases r1 with
      | cons k2 t2 r2 => exact ⟨k2 :: k1 :: _, .cons k2 t2 (.cons k1 t1 r2), List.Perm.swap _ _ _⟩
  | trans _ _ ih1 ih2 =>
    obtain ⟨ys, h1, h2⟩ := ih2 h
    obtain ⟨zs, h3, h4⟩ := ih1 h1
    exact ⟨zs, h3, h4.trans h2⟩
theorem strs_len {vs : List Value} {ys : List Str} (h : StrsAre vs ys) : vs.length = ys.length := by
  induction h with
  | nil => rfl
  | cons _ _ _ ih => rw [List.length_cons, List.length_cons, ih]
theorem perm_of_same {a b : List Str} (nd : a.Nodup) (hl : b.length = a.length) (h : ∀ x ∈ a, x ∈ b) : b.Perm a := by
  induction a generalizing b with
  | nil => have : b = [] := List.eq_nil_of_length_eq_zero hl; subst this; exact List.Perm.refl _
  | cons x a ih =>
    rw [List.nodup_cons] at nd
    have hx := h x List.mem_cons_self
    have p1 := List.perm_cons_erase hx
    have hl2 : (b.erase x).length = a.length := by rw [List.length_erase_of_mem hx, hl]; rfl
    have h2 : ∀ y ∈ a, y ∈ b.erase x := fun y hy => (List.mem_erase_of_ne (show y ≠ x from fun e => nd.1 (by rw [← e]; exact hy))).mpr (h y (List.mem_cons_of_mem _ hy))
    exact p1.trans ((ih nd.2 hl2 h2).cons x)
/-- what an iterator of a set is, at each of its places -/
structure SetW (P : Program) (w : World) (a : Addr) (vs : List Value) (I : Addr) (fp : List Addr) (h : Heap) : Prop where
  go : ∃ St : Nat → Heap → Prop, (∀ A : Around, A.handled = none → Walks P w A I fp [I] vs.length (fun i v => vs[i]? = some v) St) ∧ St 0 h
theorem walk_int {o : Obj} {es : Array (Int × Value)} {ep : Nat} {t : SetTable} {I : Addr} (slot : Nat → Nat) {vs : List Value} (hne : a ≠ I) (hd : o.data = .set es ep t) (hf : t.fits es.size = true) (hn : es.size = vs.length) (h0 : slot 0 = 0) {h : Heap} (ho : h.get? a = some o) (hi : h.get? I = some (itO (.int 0 0) 0 a vs.length ep))
    (item : ∀ (A : Around) (s : Shared) (i : Nat) (v : Value) (E' : Value → Shared → Prop) (Q' : Option (Value × Nat) → Shared → Prop), s.heap.get? a = some o → vs[i]? = some v → Q' (some (v, slot (i + 1))) s → wpAny (model P w) A (setNext a (slot i) i ep) Q' E' s)
    (done : ∀ (A : Around) (s : Shared) (E' : Value → Shared → Prop) (Q' : Option (Value × Nat) → Shared → Prop), s.heap.get? a = some o → Q' none s → wpAny (model P w) A (setNext a (slot vs.length) vs.length ep) Q' E' s) : SetW P w a vs I [I, a] h := by
  refine ⟨fun i h => h.get? a = some o ∧ h.get? I = some (itO (.int (slot i) 0) i a vs.length ep), fun A hh => ⟨fun b hb => (by simp at hb; simp [hb]), fun i h h' st k => ⟨k a (by simp) _ st.1, k I (by simp) _ st.2⟩, fun i s Q E hi st q => ?_, fun s Q E st q => ?_, fun i s Q E st q => ?_⟩, ho, by rw [h0]; exact hi⟩
  · have hv : vs[i]? = some vs[i] := List.getElem?_eq_getElem hi
    refine next_int_item st.2 st.1 hd hf hn (fun E' Q' q' => item _ _ i _ E' Q' st.1 hv q') fun h' g sb => ?_
    exact q _ h' s.toks hv ⟨by rw [sb.2 a hne]; exact st.1, g⟩ fun b ob hb e => by rw [sb.2 b (fun z => hb (by simp [z]))]; exact e
  · exact next_int_end hh st.2 st.1 hd hf hn (fun E' Q' q' => done _ _ E' Q' st.1 q') fun h' k => q h' s.toks fun b ob hb e => k b ob (fun z => hb (by simp [z])) e
  · have hT : s.TypeIs (.ref I) "set_iterator" := ⟨_, st.2, rfl⟩
    refine wpAny_pyIter_slot hT slot_it_iter (wpAny_call_entry slot_it_iter hT entry_it_iter ?_ (args_it_iter _))
    show wpAny _ _ (ret (.ref I)) _ _ s
    exact wpAny_pure ⟨_, rfl, "set_iterator", _, hT, slot_it_next.lookup, q⟩
theorem walk_ref {o : Obj} {es : Array (Int × Value)} {ep : Nat} {t : SetTable} {I pt : Addr} {ps : List Nat} {vs : List Value} (hne : a ≠ I) (hnp : pt ≠ I) (hd : o.data = .set es ep t) (hf : t.fits es.size = true) (hn : es.size = vs.length) (hpl : ps.length = vs.length) {h : Heap} (ho : h.get? a = some o) (hi : h.get? I = some (itO (.ref pt) 0 a vs.length ep))
    {op : Obj} {c : Nat} (hp : h.get? pt = some op) (hdp : op.data = .seq (ps.map fun (j : Nat) => rawInt j).toArray c) (item : ∀ (i : Nat) (v : Value), vs[i]? = some v → ∃ pl z, ps[i]? = some pl ∧ es[pl]? = some (z, v)) : SetW P w a vs I [I, a, pt] h := by
  refine ⟨fun i h => h.get? a = some o ∧ h.get? pt = some op ∧ h.get? I = some (itO (.ref pt) i a vs.length ep), fun A hh => ⟨fun b hb => (by simp at hb; simp [hb]), fun i h h' st k => ⟨k a (by simp) _ st.1, k pt (by simp) _ st.2.1, k I (by simp) _ st.2.2⟩, fun i s Q E hi st q => ?_, fun s Q E st q => ?_, fun i s Q E st q => ?_⟩, ho, hp, hi⟩
  · have hv : vs[i]? = some vs[i] := List.getElem?_eq_getElem hi
    obtain ⟨pl, z, h1, h2⟩ := item i _ hv
    refine next_ref_item st.2.2 st.1 hd hf hn ⟨op, c, st.2.1, hdp⟩ h1 h2 fun h' g sb => ?_
    exact q _ h' s.toks hv ⟨by rw [sb.2 a hne]; exact st.1, by rw [sb.2 pt hnp]; exact st.2.1, g⟩ fun b ob hb e => by rw [sb.2 b (fun z => hb (by simp [z]))]; exact e
  · exact next_ref_end hh st.2.2 st.1 hd hf hn ⟨op, c, st.2.1, hdp⟩ (by omega) fun h' k => q h' s.toks fun b ob hb e => k b ob (fun z => hb (by simp [z])) e
  · have hT : s.TypeIs (.ref I) "set_iterator" := ⟨_, st.2.2, rfl⟩
    refine wpAny_pyIter_slot hT slot_it_iter (wpAny_call_entry slot_it_iter hT entry_it_iter ?_ (args_it_iter _))
    show wpAny _ _ (ret (.ref I)) _ _ s
    exact wpAny_pure ⟨_, rfl, "set_iterator", _, hT, slot_it_next.lookup, q⟩
end
end HS
namespace HS
open PySem PySem.Spec PyProof.Rows
theorem below_one (j k : Nat) : SetTable.below #[j] k = if j < k then 1 else 0 := by
  unfold SetTable.below
  show SetTable.below.go #[j] k 1 0 1 = _
  unfold SetTable.below.go
  by_cases h : j < k
  · simp [h, SetTable.below.go]
  · simp [h, SetTable.below.go]
theorem below_none (k : Nat) : SetTable.below #[] k = 0 := by unfold SetTable.below; rfl
section
variable {P : Program} {w : World} {A : Around} {E : Value → Shared → Prop} {s : Shared} {a : Addr} {xs : List Str}
theorem iter_set {Q : Value → Shared → Prop} (hS : SetX P w s.heap a xs) (nd : xs.Nodup)
    (q : ∀ (h' : Heap) (d' : Drawn) (I : Addr) (fp : List Addr) (vs : List Value) (ys : List Str), SetW P w a vs I fp h' → StrsAre vs ys → ys.Perm xs → (∀ b ∈ fp, b = a ∨ s.heap.objs.size ≤ b) → I ∈ fp → (∀ b ∈ fp, b < h'.objs.size) → s.heap.objs.size ≤ I → (∀ b ob, s.heap.get? b = some ob → h'.get? b = some ob) → Q (.ref I) { s with heap := h', drawn := d' }) :
    wpAny (model P w) A (pyIter (.ref a)) Q E s := by
  have hT := hS.typeIs
  obtain ⟨o, es, ep, t, ho, hex, hd, hel, hmem, hb, hf, hn, hled, hpl⟩ := hS
  have lta := Heap.lt_size ho
  obtain ⟨ks, k1, k2⟩ := elems_strs hel
  have kl : ks.length = xs.length := by have := strs_len k1; rw [List.length_map, Array.length_toList] at this; omega
  have kp : ks.Perm xs := perm_of_same nd kl fun x hx => (k2 x).mpr ((hmem x).mp hx)
  refine wpAny_pyIter_slot hT F.slot_set_iter (wpAny_call_entry F.slot_set_iter hT entry_s_iter ?_ (F.args_set_iter_1 _))
  unfold Builtin.«frozenset.__iter__» Builtin.Frozenset.slot0 Builtin.Frozenset.sizeOf setEntries setDrawn setsByText
  refine wpAny_bind (wpAny_bind (wpAny_pure (wpAny_pure ?_)))
  refine wpAny_bind (wpAny_bind (wpAny_bind (wpAny_setState_of ho hd hf (wpAny_pure (wpAny_pure ?_)))))
  dsimp only
  refine wpAny_bind (wpAny_bind (wpAny_setState_of ho hd hf ?_)); dsimp only
  refine wpAny_bind (wpAny_bind (wpAny_askSetting (wpAny_pure (wpAny_pure ?_))))
  show wpAny _ _ (if (!w.params.followText "set-order" && (!t.plain && decide (es.size > 1))) = true then _ else _) _ _ s
  by_cases big : (!w.params.followText "set-order" && (!t.plain && decide (es.size > 1))) = true
  · -- the places are drawn
    rw [if_pos big]
    refine wpAny_bind (wp_draw es.size (List.range es.size) (by simp) fun ps d hps => ?_)
    have pl : ps.length = es.size := by rw [hps.length_eq]; simp
    refine wpAny_bind (wpAny_newObj_type ?_ (by show (ps.map _).toArray.size ≤ sizeLine; rw [List.size_toArray, List.length_map, pl]; exact fits_of_scanBound hb))
    refine wpAny_bind ?_; unfold setEpoch
    refine wpAny_bind (wpAny_setState_of (Heap.get?_push_of_some _ ho) hd hf (wpAny_pure ?_))
    dsimp only
    refine wpAny_bind (wpAny_newObj_type (wpAny_pure ⟨_, rfl, "set_iterator", _, ⟨_, Heap.get?_push_size _ rfl, rfl⟩, slot_it_next.lookup, ?_⟩))
    have inb : ∀ p ∈ ps, p < es.size := fun p hp => List.mem_range.mp (hps.mem_iff.mp hp)
    let vs : List Value := ps.map fun p => (es.toList.map (·.2)).getD p .none
    have pv : vs.Perm (es.toList.map (·.2)) := by
      have e1 : (List.range es.size).map (fun p => (es.toList.map (·.2)).getD p .none) = es.toList.map (·.2) := by
        apply List.ext_getElem
        · simp
        · intro n h1 h2
          have : n < es.size := by simpa using h1
          simp [this]
      rw [← e1]; exact hps.map _
    obtain ⟨ys, y1, y2⟩ := strs_perm k1 pv
    have vl : vs.length = es.size := by show (ps.map _).length = _; rw [List.length_map, pl]
    have sz1 : (s.heap.push { cls := .type "tuple", data := .seq (ps.map fun (i : Nat) => rawInt i).toArray }).objs.size = s.heap.objs.size + 1 := Heap.size_push ..
    refine q _ d _ [_, a, s.heap.objs.size] vs ys (walk_ref (o := o) (op := { cls := .type "tuple", data := .seq (ps.map fun (i : Nat) => rawInt i).toArray }) (ps := ps) (by rw [sz1]; exact Nat.ne_of_lt (Nat.lt_succ_of_lt lta)) (by rw [sz1]; exact Nat.ne_of_lt (Nat.lt_succ_self _)) hd hf vl.symm (by rw [vl, pl]) (Heap.get?_push_of_some _ (Heap.get?_push_of_some _ ho)) ?_ (Heap.get?_push_of_some _ (Heap.get?_push_size _ rfl)) rfl ?_) y1 (y2.trans kp) ?_ List.mem_cons_self ?_ (by rw [sz1]; omega) fun b ob e => Heap.get?_push_of_some _ (Heap.get?_push_of_some _ e)
    · rw [Heap.get?_push_size _ rfl, vl]; rfl
    · intro i v hv
      have hv' : (ps.map fun p => (es.toList.map (·.2)).getD p .none)[i]? = some v := hv
      rw [List.getElem?_map] at hv'
      obtain ⟨p, hp, ev⟩ := Option.map_eq_some_iff.mp hv'
      have hlt := inb p (List.mem_of_getElem? hp)
      refine ⟨p, es[p].1, hp, ?_⟩
      rw [Array.getElem?_eq_getElem hlt]
      congr 1
      rw [← ev]
      simp [hlt]
    · intro b hb'
      simp only [List.mem_cons, List.not_mem_nil, or_false] at hb'
      rcases hb' with rfl | rfl | rfl
      · exact .inr (by rw [sz1]; omega)
      · exact .inl rfl
      · exact .inr (Nat.le_refl _)
    · intro b hb'
      simp only [List.mem_cons, List.not_mem_nil, or_false] at hb'
      rw [Heap.size_push, sz1]
      rcases hb' with z | z | z
      · rw [z, sz1]; exact Nat.lt_succ_self _
      · rw [z]; exact Nat.lt_succ_of_lt (Nat.lt_succ_of_lt lta)
      · rw [z]; exact Nat.lt_succ_of_lt (Nat.lt_succ_self _)
  · rw [if_neg big]
    refine wpAny_bind (wpAny_pure ?_)
    refine wpAny_bind ?_; unfold setEpoch
    refine wpAny_bind (wpAny_setState_of ho hd hf (wpAny_pure ?_))
    dsimp only
    refine wpAny_bind (wpAny_newObj_type (wpAny_pure ⟨_, rfl, "set_iterator", _, ⟨_, Heap.get?_push_size _ rfl, rfl⟩, slot_it_next.lookup, ?_⟩))
    have fpk : ∀ b ∈ [s.heap.objs.size, a], b = a ∨ s.heap.objs.size ≤ b := fun b hb' => by
      simp only [List.mem_cons, List.not_mem_nil, or_false] at hb'
      rcases hb' with rfl | rfl
      · exact .inr (Nat.le_refl _)
      · exact .inl rfl
    have fpl : ∀ (oo : Obj), ∀ b ∈ [s.heap.objs.size, a], b < (s.heap.push oo).objs.size := fun oo b hb' => by
      simp only [List.mem_cons, List.not_mem_nil, or_false] at hb'
      rw [Heap.size_push]
      rcases hb' with z | z
      · rw [z]; exact Nat.lt_succ_self _
      · rw [z]; exact Nat.lt_succ_of_lt lta
    cases bt : w.params.followText "set-order" with
    | true =>
      -- by the text's own order
      have sv : ∀ next : Nat → Nat, ((pickOrder next es).toList.map (·.2)).Perm (es.toList.map (·.2)) := fun next => by
        unfold pickOrder
        have := pick_perm next es.size 0 es.toList #[] (by simp)
        exact (by simpa using this : (pickOrder.go next es.size 0 es.toList #[]).toList.Perm es.toList).map _
      obtain ⟨ys, y1, y2⟩ := strs_perm k1 (sv (w.params.setOrder a ep))
      have vl := (sv (w.params.setOrder a ep)).length_eq
      rw [List.length_map, Array.length_toList, List.length_map, Array.length_toList] at vl
      refine q _ s.drawn _ [_, a] ((pickOrder (w.params.setOrder a ep) es).toList.map (·.2)) ys (walk_int (o := o) (fun _ => 0) (Nat.ne_of_lt lta) hd hf (by rw [List.length_map, Array.length_toList, vl]) rfl (Heap.get?_push_of_some _ ho) ?_ ?_ ?_) y1 (y2.trans kp) fpk List.mem_cons_self (fpl _) (Nat.le_refl _) fun b ob e => Heap.get?_push_of_some _ e
      · rw [Heap.get?_push_size _ rfl, List.length_map, Array.length_toList, vl]; rfl
      · intro A s i v E' Q' ha hv hq
        unfold setNext setsByText
        refine wpAny_bind (wpAny_setState_of ha hd hf ?_); dsimp only
        refine wpAny_bind (wpAny_bind (wpAny_askSetting (wpAny_pure ?_)))
        show wpAny _ _ (if w.params.followText "set-order" = true then _ else _) _ _ _
        rw [if_pos bt, if_neg (by simp)]
        unfold setWalk setsByText
        refine wpAny_bind (wpAny_bind (wpAny_setState_of ha hd hf ?_)); dsimp only
        refine wpAny_bind (wpAny_bind (wpAny_askSetting (wpAny_pure ?_)))
        show wpAny _ _ (if w.params.followText "set-order" = true then _ else _) _ _ _
        rw [if_pos bt]
        refine wpAny_bind (wpAny_askSetting (wpAny_pure (wpAny_pure ?_)))
        show Q' (((pickOrder (w.params.setOrder a ep) es)[i]?).map fun e => (e.2, 0)) s
        rw [List.getElem?_map, Array.getElem?_toList] at hv
        obtain ⟨e, he, ev⟩ := Option.map_eq_some_iff.mp hv
        rw [he]
        show Q' (some (e.2, 0)) s
        rw [ev]; exact hq
      · intro A s E' Q' ha hq
        unfold setNext setsByText
        refine wpAny_bind (wpAny_setState_of ha hd hf ?_); dsimp only
        refine wpAny_bind (wpAny_bind (wpAny_askSetting (wpAny_pure ?_)))
        show wpAny _ _ (if w.params.followText "set-order" = true then _ else _) _ _ _
        rw [if_pos bt, if_neg (by simp)]
        unfold setWalk setsByText
        refine wpAny_bind (wpAny_bind (wpAny_setState_of ha hd hf ?_)); dsimp only
        refine wpAny_bind (wpAny_bind (wpAny_askSetting (wpAny_pure ?_)))
        show wpAny _ _ (if w.params.followText "set-order" = true then _ else _) _ _ _
        rw [if_pos bt]
        refine wpAny_bind (wpAny_askSetting (wpAny_pure (wpAny_pure ?_)))
        show Q' (((pickOrder (w.params.setOrder a ep) es)[((pickOrder (w.params.setOrder a ep) es).toList.map (·.2)).length]?).map fun e => (e.2, 0)) s
        rw [Array.getElem?_eq_none (by simp)]
        exact hq
    | false =>
      -- at most one
      have few : es.size ≤ 1 := by
        rw [bt] at big
        by_cases z : es.size ≤ 1
        · exact z
        · have hp := hpl (by omega)
          rw [hp] at big
          exact absurd (by simp; omega) big
      have led : t.led = true := by rw [hled, bt]; rfl
      have hfp : t.place.size = es.size := by
        have := hf
        simp only [SetTable.fits, Bool.and_eq_true, beq_iff_eq, decide_eq_true_eq] at this
        exact this.1
      refine q _ s.drawn _ [_, a] (es.toList.map (·.2)) ks (walk_int (o := o) (fun i => if i = 0 then 0 else t.place.getD 0 0 + 1) (Nat.ne_of_lt lta) hd hf (by rw [List.length_map, Array.length_toList]) rfl (Heap.get?_push_of_some _ ho) ?_ ?_ ?_) k1 kp fpk List.mem_cons_self (fpl _) (Nat.le_refl _) fun b ob e => Heap.get?_push_of_some _ e
      · rw [Heap.get?_push_size _ rfl, List.length_map, Array.length_toList]; rfl
      · intro A s i v E' Q' ha hv hq
        rw [List.getElem?_map, Array.getElem?_toList] at hv
        obtain ⟨e, he, ev⟩ := Option.map_eq_some_iff.mp hv
        have hi : i < es.size := (Array.getElem?_eq_some_iff.mp he).1
        have i0 : i = 0 := by omega
        subst i0
        obtain ⟨pl, epl⟩ : ∃ j, t.place = #[j] := by
          have : t.place.size = 1 := by omega
          exact ⟨t.place[0], by apply Array.ext; · simp [this]
                                · intro k h1 h2; have : k = 0 := by omega
                                  subst this; simp⟩
        unfold setNext setsByText
        refine wpAny_bind (wpAny_setState_of ha hd hf ?_); dsimp only
        refine wpAny_bind (wpAny_bind (wpAny_askSetting (wpAny_pure ?_)))
        show wpAny _ _ (if w.params.followText "set-order" = true then _ else _) _ _ _
        rw [if_neg (by rw [bt]; exact Bool.false_ne_true)]
        show wpAny _ _ (if (!t.plain && decide (es.size > 1)) = true then _ else _) _ _ _
        rw [if_neg (by simp; omega)]
        show wpAny _ _ ((if (!t.led && !es.isEmpty) = true then unsupported "set:maker-not-led" else pure ()) >>= _) _ _ _
        rw [led, if_neg (by simp)]
        refine wpAny_bind (wpAny_pure ?_)
        rw [epl, if_pos rfl, below_one, if_neg (by omega), he]
        refine wpAny_pure ?_
        show Q' (some (e.2, pl + 1)) s
        rw [ev]
        have : (if 0 + 1 = 0 then 0 else t.place.getD 0 0 + 1) = pl + 1 := by rw [epl]; rfl
        rw [this] at hq
        exact hq
      · intro A s E' Q' ha hq
        unfold setNext setsByText
        refine wpAny_bind (wpAny_setState_of ha hd hf ?_); dsimp only
        refine wpAny_bind (wpAny_bind (wpAny_askSetting (wpAny_pure ?_)))
        show wpAny _ _ (if w.params.followText "set-order" = true then _ else _) _ _ _
        rw [if_neg (by rw [bt]; exact Bool.false_ne_true)]
        show wpAny _ _ (if (!t.plain && decide (es.size > 1)) = true then _ else _) _ _ _
        rw [if_neg (by simp; omega)]
        show wpAny _ _ ((if (!t.led && !es.isEmpty) = true then unsupported "set:maker-not-led" else pure ()) >>= _) _ _ _
        rw [led, if_neg (by simp)]
        refine wpAny_bind (wpAny_pure ?_)
        have out : es[SetTable.below t.place (if (es.toList.map (·.2)).length = 0 then 0 else t.place.getD 0 0 + 1)]? = none := by
          rw [List.length_map, Array.length_toList]
          by_cases z : es.size = 0
          · have : t.place = #[] := Array.eq_empty_of_size_eq_zero (by omega)
            rw [this, below_none]
            exact Array.getElem?_eq_none (by omega)
          · have e1 : es.size = 1 := by omega
            obtain ⟨pl, epl⟩ : ∃ j, t.place = #[j] := by
              have : t.place.size = 1 := by omega
              exact ⟨t.place[0], by apply Array.ext; · simp [this]
                                    · intro k h1 h2; have : k = 0 := by omega
                                      subst this; simp⟩
            rw [if_neg z, epl, below_one]
            have : #[pl].getD 0 0 = pl := rfl
            rw [this, if_pos (by omega)]
            exact Array.getElem?_eq_none (by omega)
        rw [out]
        exact wpAny_pure hq
end
end HS
namespace HS
open PySem PySem.Spec PyProof.Rows PySem.W
section
variable {P : Program} {w : World} {A : Around} {E : Value → Shared → Prop} {s : Shared} {a : Addr} {xs : List Str}
theorem hint_set {Q : Bool → Shared → Prop} (hT : s.TypeIs (.ref a) "set") (h : Q false s) : wpAny (model P w) A (Builtin.List.listLengthHint (.ref a)) Q E s := by
  unfold Builtin.List.listLengthHint
  refine wpAny_bind (wpAny_specialOf hT PySem.F.slot_set_len.lookup ?_); generalize hid : ("set.__len__" : String) = id0
  wp_delta
  rw [show splitId id0 = some ("set", "__len__") from by subst hid; decide +kernel]; subst hid
  refine wpAny_bind (wpAny_isInstance (T := "set") (b := true) hT (by rw [isSubtype_type]; kernel_rfl) ?_)
  refine wpAny_ite_split (fun z => absurd z (by decide)) fun _ => wpAny_ite_split (fun _ => ?_) fun z => absurd (by decide +kernel) z
  exact wpAny_bind (wpAny_typeOf hT (wpAny_pure h))
/-- list.extend with a set -/
theorem extend_set {R : Result → Shared → Prop} (hh : A.handled = none) (hS : SetX P w s.heap a xs) (nd : xs.Nodup) (S : Addr) (hSa : S ≠ a) (res : Value) (c₀ : Nat) (hL : s.heap.get? S = some { cls := .type "list", data := .seq #[] c₀ })
    (hR : ∀ h' d' tk (vs : List Value) (ys : List Str) c', (∀ b o, b ≠ S → s.heap.get? b = some o → h'.get? b = some o) → h'.get? S = some { cls := .type "list", dict := none, data := .seq vs.toArray c', slots := #[] } → StrsAre vs ys → ys.Perm xs → R (.ok (.ret res)) { s with heap := h', drawn := d', toks := tk }) :
    wpAny (model P w) A.in1 (Builtin.List.listExtendWith (.ref S) (.ref a) res)
      (fun fin s' => match fin with | .done f => R (.ok f) s' | .again c' => c'.quiet = true ∧ codeAny (model P w) A c' R s') (fun e s' => R (.error e) s') s := by
  have hT := hS.typeIs
  have hsz : xs.length < scanBound := by obtain ⟨o, es, ep, t, ho, hex, hd, hel, hmem, hb, hf, hn, _⟩ := hS; omega
  unfold Builtin.List.listExtendWith
  refine wpAny_bind (wpAny_typeOf (T := "set") hT ?_)
  have h1 : Builtin.List.listSameRef (.ref S) (.ref a) = false := by simp [Builtin.List.listSameRef, hSa]
  have h2 : (Value.type "set" == Value.type "list") = false := by decide
  have h3 : (Value.type "set" == Value.type "tuple") = false := by decide
  simp only [h1, h2, h3, Bool.or_false, Bool.false_eq_true, if_false]
  refine wpAny_bind (iter_set hS nd fun h' d' I fp vs ys W v1 v2 f1 f2 f3 f4 k => ?_)
  obtain ⟨St, Wk, st⟩ := W.go
  have W1 := Wk A.in1 (by simpa using hh)
  have vl : vs.length = xs.length := by rw [strs_len v1, v2.length_eq]
  have hSf : S ∉ fp := fun z => by
    rcases f1 S z with e | e
    · exact hSa e
    · exact absurd (Heap.lt_size hL) (Nat.not_lt.mpr e)
  have Tn : Shared.TypeIs { s with heap := h', drawn := d' } (.ref a) "set" := by
    obtain ⟨o, e, c⟩ := hT; exact ⟨o, k _ _ e, c⟩
  refine wpAny_bind (wpAny_holding (hint_set Tn ?_))
  have hL1 := k _ _ hL
  have key : ∀ (h : Heap) (c₁ : Nat), St 0 h → (∀ b o, b ≠ S → s.heap.get? b = some o → h.get? b = some o) → h.get? S = some { cls := .type "list", data := .seq #[] c₁ } →
      codeAny (model P w) A (.builtin "list.extend.loop" ⟨[.ref S, .ref I, res], []⟩) R { s with heap := h, drawn := d' } := by
    intro h c₁ hst hk hS₁
    refine codeAny_extend_loopS W1.toS (by rw [vl]; exact fits_of_scanBound hsz) S hSf res vs.length 0 _ #[] c₁ rfl (Nat.zero_le _) hst hS₁ (ItemsOf.nil _) fun s' acc' c' hm hS' hacc => ?_
    rw [Moved.eq_with hm]
    have ev : acc'.toList = vs := by
      apply List.ext_getElem?
      intro j
      rw [Array.getElem?_toList]
      by_cases hj : j < vs.length
      · have hj' : j < acc'.size := by rw [hacc.1]; exact hj
        rw [Array.getElem?_eq_getElem hj']
        exact (hacc.2 j _ (Array.getElem?_eq_getElem hj')).symm
      · rw [Array.getElem?_eq_none (by rw [hacc.1]; omega), List.getElem?_eq_none (by omega)]
    refine hR s'.heap d' s'.toks vs ys c' (fun b o hb e => hm.heap b o (fun hmem => ?_) (hk b o hb e)) (by rw [hS', ← ev]) v1 v2
    rcases List.mem_cons.mp hmem with e' | hmem
    · exact hb e'
    · exact absurd (Heap.lt_size e) (by rw [List.mem_singleton.mp hmem]; exact Nat.not_lt.mpr f4)
  refine wpAny_ite_split (fun _ => ?_) (fun _ => wpAny_pure ⟨plainId_quiet PySem.F.plain_extend_loop _, key _ c₀ st (fun b o _ e => k b o e) hL1⟩)
  refine wpAny_bind (wpAny_rule (wpAny_bind ?_))
  show wpAny _ _ (updateSeq S (·.push .none) >>= fun _ => updateSeq S (·.pop)) _ _ _
  refine wpAny_bind (wpAny_updateSeq hL1 rfl ?_)
  have hS₂ := Heap.get?_update_self (Obj.mapSeq (·.push Value.none)) hL1 rfl
  refine wpAny_updateSeq (hz := by seq_fits) hS₂ rfl ?_
  have hS₃ := Heap.get?_update_self (Obj.mapSeq (·.pop)) hS₂ rfl
  have oth : ∀ b o, b ≠ S → h'.get? b = some o → ((h'.update S (Obj.mapSeq (·.push Value.none))).update S (Obj.mapSeq (·.pop))).get? b = some o := fun b o hb e => (Heap.get?_update_other _ _ (Ne.symm hb)).trans ((Heap.get?_update_other _ _ (Ne.symm hb)).trans e)
  exact wpAny_pure ⟨plainId_quiet PySem.F.plain_extend_loop _, key _ _ (W1.frame 0 _ _ st fun b hb o e => oth b o (fun z => hSf (z ▸ hb)) e) (fun b o hb e => oth b o hb (k b o e)) hS₃⟩
theorem collect_set {Q : List Value → Shared → Prop} (hh : A.handled = none) (hS : SetX P w s.heap a xs) (nd : xs.Nodup)
    (hQ : ∀ h' d' tk (vs : List Value) (ys : List Str), (∀ b o, s.heap.get? b = some o → h'.get? b = some o) → StrsAre vs ys → ys.Perm xs → Q vs { s with heap := h', drawn := d', toks := tk }) : wpAny (model P w) A (collect (.ref a)) Q E s := by
  unfold collect
  refine wpAny_bind (wpAny_runValue (codeAny_builtin PySem.F.entry_proto_collect ?_)); rw [Around.under_plainId PySem.F.plain_proto_collect _]
  show wpAny _ A.in1 (newList [] >>= fun l => again (.builtin "list.__iadd__" ⟨[l, .ref a], []⟩)) _ _ s
  refine wpAny_bind (wpAny_newObj_type (wpAny_pure ⟨plainId_quiet PySem.F.plain_list_iadd _, codeAny_builtin PySem.F.entry_list_iadd ?_⟩)); rw [Around.under_plainId PySem.F.plain_list_iadd _]
  show wpAny _ A.in1 (Builtin.List.listExtendWith (.ref s.heap.objs.size) (.ref a) (.ref s.heap.objs.size)) _ _ _
  have hn : s.heap.objs.size ≠ a := Nat.ne_of_gt hS.lt
  refine extend_set (R := fun r s' => match r with | .ok (.ret v) => wpAny (model P w) A (match v with | .ref a => (do match (← load a).data with | .seq xs _ => pure xs.toList | _ => unsupported "internal:collect") | _ => unsupported "internal:collect") Q E s' | .ok _ => False | .error e => E e s') (s := { s with heap := s.heap.push { cls := .type "list", data := .seq ([] : List Value).toArray } }) hh (hS.keep fun o e => Heap.get?_push_of_some _ e) nd _ hn _ 0 (Heap.get?_push_size _ rfl) fun h' d' tk vs ys c' k hl v1 v2 => ?_
  show wpAny _ A (load s.heap.objs.size >>= _) _ _ _
  refine wpAny_bind (wpAny_load hl (wpAny_pure ?_))
  exact hQ h' d' tk vs ys (fun b o e => k b o (Nat.ne_of_lt (Heap.lt_size e)) (Heap.get?_push_of_some _ e)) v1 v2
/-- sorted of a set of texts -/
theorem sorted_set {Q : Value → Shared → Prop} (hh : A.handled = none) (hS : SetX P w s.heap a xs) (nd : xs.Nodup) (h63 : xs.length ≤ 63)
    (hQ : ∀ D c h' d' tk (vs : List Value) (ys : List Str), (∀ b o, s.heap.get? b = some o → h'.get? b = some o) → (∀ b o, s.heap.get? b = some o → b ≠ D) → h'.get? D = some (listOf vs.toArray c) → StrsAre vs ys → ys.Perm xs → sortedS ys = true → Q (.ref D) { s with heap := h', drawn := d', toks := tk }) :
    wpAny (model P w) A (call (.builtin "sorted") [.ref a]) Q E s := by
  refine Calls.call_function_entry kind_sorted plain_sorted entry_sorted (args_sorted1 _) ?_
  unfold Builtin.«sorted»
  refine wpAny_bind (m := checkCount "sorted" 1 1 _) (wpAny_pure (wpAny_bind (collect_set (by simpa using hh) hS nd fun h1 d1 t1 vs ys k1 v1 p1 => ?_)))
  have vl : vs.length = xs.length := by rw [strs_len v1, p1.length_eq]
  refine wpAny_bind (wpAny_newList ?_ (by rw [sizeLine_eq]; omega))
  have at1 : (h1.push (seqObj "list" vs.toArray 0)).get? h1.objs.size = some (seqObj "list" vs.toArray 0) := Heap.get?_push_size _ rfl
  refine wpAny_bind (wpAny_holding (wpAny_call_entry slot_list_sort ⟨_, at1, rfl⟩ entry_list_sort (list_sort_treeK strKind_oneLt at1 v1.keysOf (fun v₁ v₂ rest e => keyKind_strs (by rw [← e]; exact v1)) (by omega) fun st' a1 a2 => ⟨_, rfl, ?_⟩) (args_list_sort _)))
  obtain ⟨ss', b1, b2, b3⟩ := sorted_out_str v1 a1 a2
  obtain ⟨c, hc⟩ := sortedHeap_at (n := 0) (vs := vs) (out := (arrOf st').map (·.2)) at1
  refine wpAny_pure ⟨_, rfl, hQ _ c _ d1 t1 _ ss' (fun b o e => ?_) (fun b o e => Nat.ne_of_lt (Heap.lt_size (k1 b o e))) (by rw [hc]) b1 (b2.trans p1) b3⟩
  have e1 := k1 b o e
  have lt1 := Heap.lt_size e1
  rw [sortedHeap_old (Nat.ne_of_lt lt1) (by rw [size_push']; exact Nat.lt_succ_of_lt lt1), Heap.get?_push_ne _ _ _ (Nat.ne_of_lt lt1)]
  exact e1
end
end HS
/-! ### sets of texts, for the readings -/
namespace L2
open PySem PySem.Spec PyProof.Rows PySem.W HS
def SetO (P : Program) (w : World) (a : Addr) (xs : List Str) : HO := .ext fun h => xs.Nodup ∧ SetX P w h a xs
theorem setO_mk {P : Program} {w : World} {H : Hp} {h : Heap} {a : Addr} {xs : List Str} (nd : xs.Nodup) (x : SetX P w h a xs) : ObjOk P w H h a (SetO P w a xs) :=
  ⟨⟨nd, x⟩, (let ⟨o, _, _, _, e, _⟩ := x; ⟨o, e⟩), fun _ _ q k => ⟨q.1, q.2.keep k⟩⟩
theorem Inv.draw {X : Cx} {pins : List (Addr × Obj)} {σ : List (Option V)} {H : Hp} {s : Shared} (I : Inv X pins σ H s) (d : Drawn) : Inv X pins σ H { s with drawn := d } := ⟨I.ok, I.os, I.bare, I.base, I.loc, I.cell, I.free, I.freeC, I.pin, I.hok, I.len⟩
theorem strs_at : ∀ {vs : List Value} {ys : List Str}, StrsAre vs ys → ∀ (i : Nat) (v : Value), vs[i]? = some v → ∃ t, v = .str (ys.getD i "") t
  | _, _, .nil, i, v, h => by simp at h
  | _, _, .cons y t r, 0, v, h => by simp at h; exact ⟨t, by rw [← h]; rfl⟩
  | _, _, .cons y t r, i + 1, v, h => by
    obtain ⟨t', e⟩ := strs_at r i v (by simpa using h)
    exact ⟨t', by rw [e]; rfl⟩
section
variable {X : Cx}
theorem call_set (hc : X.calm = true) : CallR X (.type "set") (fun vs H Q => ∃ (p : Addr) (ss : List Str), vs = [.ref p] ∧ (SqL X.K H p (ss.map V.str) ∨ SqT X.K H p (ss.map V.str)) ∧ ss.length ≤ 1000 ∧ ∀ a ds, H a = none → ds.Nodup → (∀ y, y ∈ ds ↔ y ∈ ss) → Q (.ref a) (upd H a (SetO X.prog X.w a ds))) := by
  intro pins s σ H vs us Q I r h
  obtain ⟨p, ss, rfl, hq, h1k, q⟩ := h
  obtain ⟨u, rfl, rx⟩ := vals1 r
  cases rx
  have fin : ∀ (its : List Value) {T : String} {ol : Obj}, Vals (ss.map V.str) its → Src X.prog X.w T p ol its.toArray.size (fun i v => its.toArray[i]? = some v) → s.heap.get? p = some ol → wpAny (model X.prog X.w) X.A (call (.type "set") [.ref p]) (EP X pins σ Q) X.xe s := fun its {T ol} rv C hp => by
    have st := strsAre_of rv
    have hlen : its.length = ss.length := strs_len st
    refine call_setS (val := fun i => ss.getD i "") (I.ok.hd hc) C hp (fun i v hv => strs_at st i v (by simpa using hv)) (by rw [List.size_toArray, hlen]; unfold scanBound; omega) fun h' tk x k => ?_
    have kp : ∀ b o, s.heap.get? b = some o → h'.get? b = some o := fun b o e => k b o (Heap.lt_size e) e
    have nd := metS_nd (fun i => ss.getD i "") its.toArray.size
    refine ⟨.ref s.heap.objs.size, _, I.laid (t' := tk) kp (Nat.le_refl _) (setO_mk nd x), rfl, q _ _ (I.hok.fresh (Nat.le_refl _)) nd fun y => ?_⟩
    rw [metS_mem, List.size_toArray, hlen]
    constructor
    · rintro ⟨j, hj, rfl⟩
      rw [show ss.getD j "" = ss[j] by simp [hj]]
      exact List.getElem_mem hj
    · intro hy
      obtain ⟨j, hj, e⟩ := List.mem_iff_getElem.mp hy
      exact ⟨j, hj, by simp [hj, e]⟩
  rcases hq with hq | hq
  · obtain ⟨its, r', pl, hz⟩ := I.list hq
    obtain ⟨o, ho, hcl, n, hd⟩ := pl.isList
    exact fin its r' (src_list hcl ⟨n, hd⟩) ho
  · obtain ⟨its, r', pl, hz⟩ := I.tuple hq
    obtain ⟨o, ho, hcl, n, hd⟩ := pl
    exact fin its r' (src_tup hcl ⟨n, hd⟩) ho
theorem call_lenSet : CallR X (.builtin "len") (fun vs H Q => ∃ (a : Addr) (ds : List Str), vs = [.ref a] ∧ H a = some (SetO X.prog X.w a ds) ∧ Q (.int ds.length) H) := by
  intro pins s σ H vs us Q I r h
  obtain ⟨a, ds, rfl, hq, q⟩ := h
  obtain ⟨u, rfl, rx⟩ := vals1 r
  cases rx
  obtain ⟨⟨nd, o, es, ep, t, ho, hex, hd, hel, hmem, hb, hf, hn, _⟩, _⟩ := (show ObjOk X.prog X.w H s.heap a (SetO X.prog X.w a ds) from I.hok a _ hq)
  refine call_len_set ho hex hd hf (by unfold scanBound at hb; omega) ?_
  rw [← hn] at q
  exact ⟨.int es.size, H, I.tok _, ⟨_, rfl⟩, q⟩
theorem call_sortedSet (hc : X.calm = true) : CallR X (.builtin "sorted") (fun vs H Q => ∃ (a : Addr) (ds : List Str), vs = [.ref a] ∧ H a = some (SetO X.prog X.w a ds) ∧ ds.length ≤ 63 ∧ ∀ D ss', H D = none → ss'.Perm ds → sortedS ss' = true → Q (.ref D) (upd H D (.lst (ss'.map V.str)))) := by
  intro pins s σ H vs us Q I r h
  obtain ⟨a, ds, rfl, hq, h63, q⟩ := h
  obtain ⟨u, rfl, rx⟩ := vals1 r
  cases rx
  obtain ⟨⟨nd, x⟩, _⟩ := (show ObjOk X.prog X.w H s.heap a (SetO X.prog X.w a ds) from I.hok a _ hq)
  obtain ⟨m, hm, _⟩ := id I.loc
  refine sorted_set (I.ok.hd hc) x nd h63 fun D c h' d' tk out ys k hD new st p srt => ?_
  obtain ⟨hn, I'⟩ := Inv.sorted (t' := tk) (ys := ys.map V.str) I hm (hm.at' fun o e => k _ _ e) (fun b o _ e => k b o e) hD new (vals_strs st) (by rw [List.length_map, p.length_eq, sizeLine_eq]; omega)
  exact ⟨.ref D, _, I'.draw d', rfl, q _ ys hn p srt⟩
end
end L2
/-! ### a sort of pairs: what comes out is in order -/
namespace L2
open PySem PySem.W PySem.Calls PyProof.Rows
structure Ord (n : Nat) (lt : Nat → Nat → Bool) : Prop where
  tr : ∀ i j k, lt i j = true → lt j k = true → lt i k = true
  tot : ∀ i j, i < n → j < n → i ≠ j → lt i j = false → lt j i = true
def GoodO {α : Type} (n : Nat) (lt : Nat → Nat → Bool) (φ : α → Prop) : KasT α → Prop
  | .ret a => φ a
  | .ask i j k => i < n ∧ j < n ∧ GoodO n lt φ (k (lt i j))
section
variable {α β : Type} {n : Nat} {lt : Nat → Nat → Bool}
theorem GoodO.bind {φ : α → Prop} {ψ : β → Prop} {f : α → KasT β} (g : ∀ a, φ a → GoodO n lt ψ (f a)) : ∀ {t : KasT α}, GoodO n lt φ t → GoodO n lt ψ (t.bind f)
  | .ret a, h => g a h
  | .ask _ _ _, h => ⟨h.1, h.2.1, GoodO.bind g h.2.2⟩
theorem GoodO.wp {φ : α → Prop} {cmp : Nat → Nat → (Bool → Shared → Prop) → Shared → Prop} {Q : α → Shared → Prop} {s : Shared} (hc : ∀ i j C, i < n → j < n → C (lt i j) s → cmp i j C s) : ∀ {t : KasT α}, GoodO n lt φ t → (∀ a, φ a → Q a s) → t.kasWp cmp Q s
  | .ret a, h, q => q a h
  | .ask _ _ _, h, q => hc _ _ _ h.1 h.2.1 (GoodO.wp hc h.2.2 q)
theorem GoodO.mono {φ ψ : α → Prop} (g : ∀ a, φ a → ψ a) : ∀ {t : KasT α}, GoodO n lt φ t → GoodO n lt ψ t
  | .ret a, h => g a h
  | .ask _ _ _, h => ⟨h.1, h.2.1, GoodO.mono g h.2.2⟩
def Asc (lt : Nat → Nat → Bool) (p : Array Nat) (k : Nat) : Prop := ∀ i j, i < j → j < k → lt (p.getD i 0) (p.getD j 0) = true
def Dsc (lt : Nat → Nat → Bool) (p : Array Nat) (k : Nat) : Prop := ∀ i j, i < j → j < k → lt (p.getD j 0) (p.getD i 0) = true
theorem Pm.size {p : Array Nat} (h : Pm n p) : p.size = n := by have := h.length_eq; simpa using this
theorem Pm.ne {p : Array Nat} (h : Pm n p) {i j : Nat} (hi : i < n) (hj : j < n) (e : i ≠ j) : p.getD i 0 ≠ p.getD j 0 := by
  have hs := h.size
  have nd : p.toList.Nodup := h.nodup_iff.mpr List.nodup_range
  intro z
  rw [Array.getD_eq_getD_getElem?, Array.getD_eq_getD_getElem?, Array.getElem?_eq_getElem (by omega), Array.getElem?_eq_getElem (by omega)] at z
  have z2 : p.toList[i]'(by simp; omega) = p.toList[j]'(by simp; omega) := by simpa using z
  exact e ((List.getElem_inj nd).mp z2)
theorem Asc.step {p : Array Nat} (O : Ord n lt) {m : Nat} (h1 : 1 ≤ m) (a : Asc lt p m) (l : lt (p.getD (m - 1) 0) (p.getD m 0) = true) : Asc lt p (m + 1) := fun i j hij hj => by
  by_cases e : j < m
  · exact a i j hij e
  · obtain rfl : j = m := by omega
    by_cases e2 : i = j - 1
    · rw [e2]; exact l
    · exact O.tr _ _ _ (a i (j - 1) (by omega) (by omega)) l
theorem Dsc.step {p : Array Nat} (O : Ord n lt) {m : Nat} (h1 : 1 ≤ m) (a : Dsc lt p m) (l : lt (p.getD m 0) (p.getD (m - 1) 0) = true) : Dsc lt p (m + 1) := fun i j hij hj => by
  by_cases e : j < m
  · exact a i j hij e
  · obtain rfl : j = m := by omega
    by_cases e2 : i = j - 1
    · rw [e2]; exact l
    · exact O.tr _ _ _ l (a i (j - 1) (by omega) (by omega))
def RunOk (n : Nat) (lt : Nat → Nat → Bool) (r : Nat × Array Nat) : Prop := Pm n r.2 ∧ Asc lt r.2 r.1 ∧ 1 ≤ r.1 ∧ r.1 ≤ n
end
end L2
namespace L2
open PySem PySem.W PySem.Calls PyProof.Rows
def ltS (p q : Str) : Bool := decide (p.cps.toList < q.cps.toList)
section
variable {X : Cx}
end
end L2
namespace HS
open PySem PySem.Spec PyProof.Rows PySem.W
section
variable {P : Program} {w : World} {A : Around} {E : Value → Shared → Prop} {s : Shared}
/-- a tuple gathered into a list -/
theorem collect_tup {l : Addr} {vs : List Value} {Q : List Value → Shared → Prop} (ht : IsTup s.heap l vs.toArray) (hz : vs.length ≤ sizeLine) (q : ∀ h', (∀ b o, s.heap.get? b = some o → h'.get? b = some o) → Q vs { s with heap := h' }) :
    wpAny (model P w) A (collect (.ref l)) Q E s := by
  obtain ⟨o, ho, hc, n, hd⟩ := id ht
  unfold collect
  refine wpAny_bind (wpAny_runValue (codeAny_builtin PySem.F.entry_proto_collect ?_)); rw [Around.under_plainId PySem.F.plain_proto_collect _]
  show wpAny _ A.in1 (newList [] >>= fun z => again (.builtin "list.__iadd__" ⟨[z, .ref l], []⟩)) _ _ s
  refine wpAny_bind (wpAny_newList (wpAny_pure ⟨plainId_quiet PySem.F.plain_list_iadd _, codeAny_builtin PySem.F.entry_list_iadd ?_⟩)); rw [Around.under_plainId PySem.F.plain_list_iadd _]
  show wpAny _ _ (Builtin.List.listExtendWith (.ref s.heap.objs.size) (.ref l) (.ref s.heap.objs.size)) _ _ { s with heap := s.heap.push (seqObj "list" #[] 0) }
  unfold Builtin.List.listExtendWith
  have ho2 : (s.heap.push (seqObj "list" #[] 0)).get? l = some o := Heap.get?_push_of_some _ ho
  refine wpAny_bind (wpAny_typeOf (T := "tuple") ⟨o, ho2, hc⟩ ?_)
  have t1 : (Value.type "tuple" == Value.type "tuple") = true := by rfl
  rw [if_pos (by rw [t1]; simp)]
  refine wpAny_bind (listItems_at ho2 hd (wpAny_bind (listItems_at (xs := #[]) (n := 0) (Heap.get?_push_size _ rfl) rfl ?_)))
  rw [if_neg (by simp)]
  refine wpAny_bind (listUpdate_at (xs := #[]) (n := 0) (Heap.get?_push_size _ rfl) rfl (wpAny_pure ?_) (Nat.zero_le _) (by show (#[] ++ vs.toArray).size ≤ sizeLine + 1; simp only [Array.size_append, List.size_toArray, List.length_nil]; omega))
  show wpAny (model P w) A (load s.heap.objs.size >>= _) Q E { s with heap := (s.heap.push (seqObj "list" #[] 0)).update s.heap.objs.size (Obj.mapSeq (· ++ vs.toArray)) }
  refine wpAny_bind (wpAny_load (get?_update_seq (Heap.get?_push_size _ rfl) _) ?_)
  show wpAny _ _ (pure ((#[] : Array Value) ++ vs.toArray).toList) Q E _
  rw [show ((#[] : Array Value) ++ vs.toArray).toList = vs by simp]
  refine wpAny_pure (q _ fun b ob e => ?_)
  exact (Heap.get?_update_other _ _ (Nat.ne_of_gt (Heap.lt_size e))).trans (Heap.get?_push_of_some _ e)
/-- sorted of a tuple of texts -/
theorem sorted_tup {l : Addr} {vs : List Value} {ys : List Str} {Q : Value → Shared → Prop} (ht : IsTup s.heap l vs.toArray) (v1 : StrsAre vs ys) (h63 : vs.length ≤ 63)
    (hQ : ∀ D c h' (us : List Value) (zs : List Str), (∀ b o, s.heap.get? b = some o → h'.get? b = some o) → (∀ b o, s.heap.get? b = some o → b ≠ D) → h'.get? D = some (listOf us.toArray c) → StrsAre us zs → zs.Perm ys → sortedS zs = true → Q (.ref D) { s with heap := h' }) :
    wpAny (model P w) A (call (.builtin "sorted") [.ref l]) Q E s := by
  refine Calls.call_function_entry kind_sorted plain_sorted entry_sorted (args_sorted1 _) ?_
  unfold Builtin.«sorted»
  refine wpAny_bind (m := checkCount "sorted" 1 1 _) (wpAny_pure (wpAny_bind (collect_tup ht (by rw [sizeLine_eq]; omega) fun h1 k1 => ?_)))
  refine wpAny_bind (wpAny_newList ?_ (by rw [sizeLine_eq]; omega))
  have at1 : (h1.push (seqObj "list" vs.toArray 0)).get? h1.objs.size = some (seqObj "list" vs.toArray 0) := Heap.get?_push_size _ rfl
  refine wpAny_bind (wpAny_holding (wpAny_call_entry slot_list_sort ⟨_, at1, rfl⟩ entry_list_sort (list_sort_treeK strKind_oneLt at1 v1.keysOf (fun v₁ v₂ rest e => keyKind_strs (by rw [← e]; exact v1)) (by omega) fun st' a1 a2 => ⟨_, rfl, ?_⟩) (args_list_sort _)))
  obtain ⟨ss', b1, b2, b3⟩ := sorted_out_str v1 a1 a2
  obtain ⟨c, hc⟩ := sortedHeap_at (n := 0) (vs := vs) (out := (arrOf st').map (·.2)) at1
  refine wpAny_pure ⟨_, rfl, hQ _ c _ _ ss' (fun b o e => ?_) (fun b o e => Nat.ne_of_lt (Heap.lt_size (k1 b o e))) (by rw [hc]) b1 b2 b3⟩
  have e1 := k1 b o e
  have lt1 := Heap.lt_size e1
  rw [sortedHeap_old (Nat.ne_of_lt lt1) (by rw [size_push']; exact Nat.lt_succ_of_lt lt1), Heap.get?_push_ne _ _ _ (Nat.ne_of_lt lt1)]
  exact e1
end
end HS
namespace L2
open PySem PySem.Spec PyProof.Rows PySem.W HS
section
variable {X : Cx}
theorem call_sortedT : CallR X (.builtin "sorted") (fun xs H Q => ∃ (p : Addr) (ss : List Str), xs = [.ref p] ∧ SqT X.K H p (ss.map V.str) ∧ ss.length ≤ 63 ∧ ∀ D ss', H D = none → ss'.Perm ss → sortedS ss' = true → Q (.ref D) (upd H D (.lst (ss'.map V.str)))) := by
  intro pins s σ H xs us Q I r ⟨p, ss, ex, hq, h63, q⟩
  subst ex
  obtain ⟨u, rfl, rx⟩ := vals1 r
  cases rx
  obtain ⟨its, rv, pl, hz⟩ := I.tuple hq
  have st := strsAre_of rv
  have hl := strs_len st
  obtain ⟨m, hm, _⟩ := id I.loc
  refine sorted_tup pl st (by omega) fun D c h' out ys k hD new st' p' srt => ?_
  obtain ⟨hn, I'⟩ := Inv.sorted (t' := s.toks) (ys := ys.map V.str) I hm (hm.at' fun o e => k _ _ e) (fun b o _ e => k b o e) hD new (vals_strs st') (by rw [List.length_map, p'.length_eq, sizeLine_eq]; omega)
  exact ⟨.ref D, _, I', rfl, q _ ys hn p' srt⟩
theorem op_isNotB : OpR X (compareOp .IsNot) (fun x y H Q => ∃ a b, x = .bl a ∧ y = .bl b ∧ Q (.bl (a != b)) H) := by
  intro pins s σ H x y v u Q I rx ry h
  obtain ⟨a, b, rfl, rfl, q⟩ := h
  cases rx; cases ry
  exact isnot_bool (fin_bl I q rfl)
end
end L2
/-! ### comprehensions of sets and dicts -/
namespace L2
open PySem PySem.Spec PyProof.Rows PySem.W HS
/-- a comprehension of one clause, by what a turn of it does -/
structure CompForm (e tg iter : Expr) (ifs : List Expr) (emit : Value → Env → Sem Unit) : Prop where
  cl : clausesOf e = [⟨tg, iter, ifs, 0⟩]
  turn : ∀ it acc env, compTurn e 0 it acc env = (do
      standAt iter.pos
      match ← pyNext it with
      | none => pure (.done .next)
      | some v =>
        letOwnedTupleGo tg it v
        assign tg env v
        let mut ok := true
        for c in ifs do
          if ok then ok ← isTrue c env (eval c env)
        if ok then emit acc env
        again (.compLoop e 0 it acc env))
  loop : ∀ (prog : Program) (w : World) (A : Around) it acc env, A.under (.compLoop e 0 it acc env) = A ∧ (model prog w).den (.compLoop e 0 it acc env) = (compTurn e 0 it acc env).onRaise (fun x => do noteFrame x env; theTreesLotGoes x)
  begin_ : ∀ (prog : Program) (w : World) (A : Around) it acc env, A.under (.compStart e 0 it acc env) = A ∧ (model prog w).den (.compStart e 0 it acc env) = (compStart e 0 it acc env).onRaise (fun x => do noteFrame x env; standAt theWindowsPlace)
def emitSet (elt : Expr) (acc : Value) (env : Env) : Sem Unit := do
  let v ← eval elt env
  standAt elt.pos
  let _ ← call (.builtin "set.add") [acc, v]
def emitDict (k v : Expr) (acc : Value) (env : Env) : Sem Unit := do
  let kv ← eval k env
  let vv ← holding [kv] (eval v env)
  match acc with
  | .ref d => do
    standAt { k.pos with endLine := v.pos.endLine, endCol := v.pos.endCol }
    holding [kv, vv] (dictSet d kv vv)
  | _ => unsupported "internal:dictcomp"
/-- the reading of such a block: its iterator J at hand, what it fills at p -/
def CompWG (J : It) (g : TG) (ti : TT) (tem : Addr → St → Hp → (Hp → Prop) → Prop) (τ0 : St) (Q : VK) (p : Addr) (H1 : Hp) : Prop :=
  ∃ W : Nat → Nat → St → Hp → Prop, (∃ m, W 0 m τ0 H1) ∧ ∀ i m τ H2, W i m τ H2 →
    ((J.stop i H2 ∧ Q (.ref p) H2) ∨ (J.go i H2 ∧ ∀ x H3, J.yld i H2 x H3 → g x τ H3 fun τ4 H4 => ti τ4 H4 fun b H5 =>
      if b = true then tem p τ4 H5 fun H6 => ∃ m', m' < m ∧ W (i + 1) m' τ4 H6
      else ∃ m', m' < m ∧ W (i + 1) m' τ4 H5))
def PEm (X : Cx) (emit : Value → Env → Sem Unit) (tem : Addr → St → Hp → (Hp → Prop) → Prop) : Prop :=
  ∀ (pins : List (Addr × Obj)) (s : Shared) (σ : St) (H : Hp) (p : Addr) (Q : Hp → Prop), Inv X pins σ H s → tem p σ H Q → wpAny (model X.prog X.w) X.A (emit (.ref p) X.env) (fun _ s' => ∃ H', Inv X pins σ H' s' ∧ Q H') X.xe s
/-- what stands at first -/
structure NewAcc (X : Cx) (newAcc : Sem Value) (start : Addr → HO) : Prop where
  run : ∀ (pins : List (Addr × Obj)) (s : Shared) (σ : St) (H : Hp) (E : Value → Shared → Prop) (Q : Value → Shared → Prop), Inv X pins σ H s →
    (∀ s', Inv X pins σ (upd H s.heap.objs.size (start s.heap.objs.size)) s' → (∀ b o, s.heap.get? b = some o → s'.heap.get? b = some o) → Q (.ref s.heap.objs.size) s') → wpAny (model X.prog X.w) X.A newAcc Q E s
def tCompG (wi : TI) (ixs : List (Option Nat)) (g : TG) (ti : TT) (tem : Addr → St → Hp → (Hp → Prop) → Prop) (start : Addr → HO) : TE := fun σ H Q => wi σ H fun J H1 => ∀ p, H1 p = none → CompWG J g ti tem (pick ixs σ) Q p (upd H1 p (start p))

section
variable {X : Cx} {pins : List (Addr × Obj)} {σ : St} {H2 : Hp} {s2 : Shared} {N' : List Str} {ixs : List (Option Nat)} {scope : Scope} {e tg elt iter : Expr} {ifs : List Expr} {pos : Pos} {emit : Value → Env → Sem Unit} {tem : Addr → St → Hp → (Hp → Prop) → Prop}
end

/-! ### the two kinds -/
section
variable {X : Cx} {elt k v : Expr} {te tk tv : TE}
/-- a dict with tuple keys grows -/
def tmDT (tk tv : TE) (p : Addr) (σ : St) (H : Hp) (Q : Hp → Prop) : Prop := tk σ H fun y H1 => tv σ H1 fun z H2 => ∃ kvs ks b, y = .ref b ∧ H2 b = some (.tup (ks.map kV)) ∧ H2 p = some (.dT kvs) ∧ kvs.length < sizeLine ∧ Q (upd H2 p (.dT (putK kvs ks z)))
/-- a set of texts grows -/
def tmSet (P : Program) (w : World) (te : TE) (p : Addr) (σ : St) (H : Hp) (Q : Hp → Prop) : Prop := te σ H fun y H1 => ∃ ds x, y = .str x ∧ H1 p = some (SetO P w p ds) ∧ ds.length + 1 < 1000 ∧ Q (upd H1 p (SetO P w p (addS ds x)))
theorem em_set {P : Program} {w : World} (eP : X.prog = P) (ew : X.w = w) (hk : PE X elt te) : PEm X (emitSet elt) (tmSet P w te) := by
  subst eP ew
  intro pins s σ H p Q I h
  unfold emitSet
  refine wpAny_bind (thn (hk pins s σ H _ I h) fun u s1 ⟨y, H1, I1, ry, ds, x, ey, e, l, q⟩ => wpAny_bind (wpAny_standAt (wpAny_bind ?_)))
  subst ey
  obtain ⟨t, rfl⟩ := (show ∃ t, u = Value.str x t from ry)
  obtain ⟨⟨nd, hS⟩, _⟩ := (show ObjOk X.prog X.w H1 s1.heap p (SetO X.prog X.w p ds) from I1.hok p _ e)
  refine wpAny_call_entry F.slot_set_add hS.typeIs F.entry_set_add ?_ (F.args_set_add_2 _ _)
  unfold Builtin.«set.add» Builtin.Frozenset.oneOther
  simp only [List.isEmpty_nil, bind_assoc]
  unfold Builtin.Frozenset.addrOf setAdd
  refine wpAny_bind (wpAny_pure ?_)
  try dsimp only
  refine wpAny_bind (wpAny_pure ?_)
  try dsimp only
  refine wpAny_bind ?_
  refine wpAny_holding ?_
  have hkey : (strKind X.prog X.w).is x (.str x t) = true := by show Value.isStrOf x (.str x t) = true; simp [Value.isStrOf]
  refine wpAny_bind ((strKind X.prog X.w).pyHash (k := x) hkey ?_)
  have hb : ds.length + 1 < scanBound := by unfold scanBound; omega
  refine setX_add (s := { s1 with toks := s1.toks + 1 }) hS hb fun h' sb x2 b => ?_
  show wpAny _ _ (ret Value.none) _ _ _
  refine wpAny_pure ⟨_, rfl, wpAny_pure ⟨_, ?_, q⟩⟩
  have he : ∃ q, h'.get? p = some q := let ⟨q, _, _, _, hq, _⟩ := x2; ⟨q, hq⟩
  exact d_write (t' := s1.toks + 1) (I1.tok _) (by rw [e]; exact True.intro) sb he (setO_mk (addS_nd nd x) x2)
theorem new_set : NewAcc X (newSet (.type "set")) (fun p => SetO X.prog X.w p []) := ⟨fun pins s σ H E Q I h => by
  unfold newSet setsByText
  show wpAny _ _ (_ >>= _) _ _ _
  refine wpAny_bind (wpAny_bind (wpAny_askSetting (wpAny_pure ?_)))
  refine wpAny_newObj_type ?_
  exact h _ (I.laid (a := s.heap.objs.size) (o := SetO X.prog X.w s.heap.objs.size []) (t' := s.toks) (fun _ _ q => Heap.get?_push_of_some _ q) (Nat.le_refl _) (setO_mk List.nodup_nil (setX_new (Heap.get?_push_size _ rfl)))) fun b o e => Heap.get?_push_of_some _ e⟩
variable {N' : List Str} {ixs : List (Option Nat)} {scope : Scope} {tg iter : Expr} {ifs : List Expr} {pos : Pos} {wi : TI} {g : TG} {ti : TT}
end
def CWG (Pv : Nat → St → Hp → Prop) (n i m : Nat) (τ : St) (H : Hp) : Prop := m = n - i ∧ i ≤ n ∧ Pv i τ H
theorem cwg_next {Pv : Nat → St → Hp → Prop} {n i : Nat} {τ : St} {H : Hp} (h : i < n) (p : Pv (i + 1) τ H) : ∃ m', m' < n - i ∧ CWG Pv n (i + 1) m' τ H := ⟨n - (i + 1), by omega, rfl, h, p⟩
theorem compG_tup {K : Frag} {a : Addr} {xs : List V} {g : TG} {ti : TT} {tem : Addr → St → Hp → (Hp → Prop) → Prop} {τ0 : St} {Q : VK} {p : Addr} {H1 : Hp} (Pv : Nat → St → Hp → Prop) (h0 : Pv 0 τ0 H1) (hl : ∀ i τ H, Pv i τ H → SqT K H a xs)
    (hs : ∀ i x τ H, xs[i]? = some x → Pv i τ H → g x τ H fun τ4 H4 => ti τ4 H4 fun b H5 => if b = true then tem p τ4 H5 fun H6 => ∃ m', m' < xs.length - i ∧ CWG Pv xs.length (i + 1) m' τ4 H6 else ∃ m', m' < xs.length - i ∧ CWG Pv xs.length (i + 1) m' τ4 H5)
    (hd : ∀ τ H, Pv xs.length τ H → Q (.ref p) H) : CompWG (Itt K a) g ti tem τ0 Q p H1 := by
  refine ⟨CWG Pv xs.length, ⟨xs.length, by simp, Nat.zero_le _, h0⟩, ?_⟩
  rintro i m τ H ⟨rfl, hi, pv⟩
  have hq := hl i τ H pv
  by_cases hlt : i < xs.length
  · refine .inr ⟨⟨xs, xs[i], hq, by simp [hlt]⟩, fun x H3 y3 => ?_⟩
    obtain ⟨e3, ex⟩ := y3
    subst e3
    exact hs i x τ _ (ex xs hq) pv
  · have e : i = xs.length := by omega
    subst e
    exact .inl ⟨⟨xs, hq, Nat.le_refl _⟩, hd τ H pv⟩
end L2
/-! ### a sort, asked at unlike places -/
namespace L2
open PySem PySem.W PySem.Calls PyProof.Rows
structure OrdD (n : Nat) (lt : Nat → Nat → Bool) : Prop where
  tr : ∀ i j k, i < n → j < n → k < n → lt i j = true → lt j k = true → lt i k = true
  tot : ∀ i j, i < n → j < n → i ≠ j → lt i j = false → lt j i = true
def GoodD {α : Type} (n : Nat) (lt : Nat → Nat → Bool) (φ : α → Prop) : KasT α → Prop
  | .ret a => φ a
  | .ask i j k => i < n ∧ j < n ∧ i ≠ j ∧ GoodD n lt φ (k (lt i j))
section
variable {α β : Type} {n : Nat} {lt : Nat → Nat → Bool}
theorem GoodD.bind {φ : α → Prop} {ψ : β → Prop} {f : α → KasT β} (g : ∀ a, φ a → GoodD n lt ψ (f a)) : ∀ {t : KasT α}, GoodD n lt φ t → GoodD n lt ψ (t.bind f)
  | .ret a, h => g a h
  | .ask _ _ _, h => ⟨h.1, h.2.1, h.2.2.1, GoodD.bind g h.2.2.2⟩
theorem GoodD.wp {φ : α → Prop} {cmp : Nat → Nat → (Bool → Shared → Prop) → Shared → Prop} {Q : α → Shared → Prop} {s : Shared} (hc : ∀ i j C, i < n → j < n → i ≠ j → C (lt i j) s → cmp i j C s) : ∀ {t : KasT α}, GoodD n lt φ t → (∀ a, φ a → Q a s) → t.kasWp cmp Q s
  | .ret a, h, q => q a h
  | .ask _ _ _, h, q => hc _ _ _ h.1 h.2.1 h.2.2.1 (GoodD.wp hc h.2.2.2 q)
theorem GoodD.mono {φ ψ : α → Prop} (g : ∀ a, φ a → ψ a) : ∀ {t : KasT α}, GoodD n lt φ t → GoodD n lt ψ t
  | .ret a, h => g a h
  | .ask _ _ _, h => ⟨h.1, h.2.1, h.2.2.1, GoodD.mono g h.2.2.2⟩
def RunD (n : Nat) (lt : Nat → Nat → Bool) (r : Nat × Array Nat) : Prop := Pm n r.2 ∧ Asc lt r.2 r.1 ∧ 1 ≤ r.1 ∧ r.1 ≤ n
end
end L2
/-! ### a sort of tuples that begin with texts, unlike in these -/
namespace L2
open PySem PySem.W PySem.Calls PyProof.Rows HS
def ltL : List Str → List Str → Bool
  | a :: as, b :: bs => if a = b then ltL as bs else ltS a b
  | _, _ => false
section
variable {P : Program} {w : World} {A : Around} {E : Value → Shared → Prop} {s : Shared}
end
/-- tuples that begin with texts -/
def KeyedV (H : Hp) (m : Nat) (vs : List V) (kvs : List (List Str × List V)) : Prop := Paired (fun y p => ∃ a, y = V.ref a ∧ H a = some (.tup (p.1.map V.str ++ p.2)) ∧ p.1.length = m) vs kvs
theorem KeyedV.same {H H' : Hp} {m : Nat} {vs : List V} {kvs : List (List Str × List V)} (h : KeyedV H m vs kvs) (s : Same H H') : KeyedV H' m vs kvs := Paired.imp' (fun _ _ ⟨a, e, q, l⟩ => ⟨a, e, s _ _ q, l⟩) h
section
variable {X : Cx}
end
end L2
/-! ### t.index(x), t a tuple of texts; max of a list of ints -/
namespace HS
open PySem PySem.Spec PyProof.Rows PySem.W
section
variable {P : Program} {w : World} {A : Around} {E : Value → Shared → Prop} {s : Shared}
theorem idx_loop {vs : List Value} {ys : List Str} {y : Str} {t : Tok} {j : Nat} {Q : Option PySem.Fin × Unit → Shared → Prop} (st : StrsAre vs ys) (hj : ys[j]? = some y) (hno : ∀ m, m < j → ys[m]? ≠ some y) (q : ∀ tk, Q (some (.done (.ret (.int j tk))), ()) { s with toks := s.toks + 1 }) :
    ∀ (k i : Nat), i ≤ j → j < i + k → wpAny (model P w) A (forIn (m := Sem) (List.range' i k) ((none, ()) : Option PySem.Fin × Unit) fun (i : Nat) __s => match vs.toArray[i]? with
            | some y' => do
              let b ← eqBool y' (.str y t)
              if b = true then do
                  let r ← retInt (i : Int)
                  pure (ForInStep.done (some r, ()))
                else pure (ForInStep.yield (none, ()))
            | _ => pure (ForInStep.yield (none, ()))) Q E s
  | 0, i, h1, h2 => absurd h2 (by omega)
  | k + 1, i, h1, h2 => by
    rw [List.range'_succ, List.forIn_cons]
    have hlen := strs_len st
    have hjl : j < ys.length := (List.getElem?_eq_some_iff.mp hj).1
    have hi : i < vs.length := by omega
    obtain ⟨tk, ev⟩ := L2.strs_at st i vs[i] (List.getElem?_eq_getElem hi)
    have hiy : i < ys.length := by omega
    have e1 : vs.toArray[i]? = some (.str ys[i] tk) := by
      rw [List.getElem?_toArray, List.getElem?_eq_getElem hi, ev]; simp [hiy]
    rw [e1]
    dsimp only
    refine wpAny_bind (wpAny_bind (wpAny_eqBool_str ?_))
    by_cases e : ys[i] = y
    · rw [decide_eq_true e, if_pos rfl]
      have : i = j := by
        by_cases z : i < j
        · exact absurd (by rw [List.getElem?_eq_getElem hiy, e]) (hno i z)
        · omega
      subst this
      refine wpAny_bind ?_; unfold retInt
      exact wpAny_bind (wpAny_mkInt (wpAny_pure (wpAny_pure (wpAny_pure (q _)))))
    · rw [decide_eq_false e, if_neg Bool.false_ne_true]
      refine wpAny_pure ?_
      refine idx_loop st hj hno q k (i + 1) ?_ (by omega)
      by_cases z : i = j
      · subst z
        rw [List.getElem?_eq_getElem hiy] at hj
        exact absurd (Option.some.inj hj) e
      · omega
theorem index_tup {l : Addr} {vs : List Value} {ys : List Str} {y : Str} {t : Tok} {j : Nat} {Q : Value → Shared → Prop} (ht : IsTup s.heap l vs.toArray) (st : StrsAre vs ys) (hj : ys[j]? = some y) (hno : ∀ m, m < j → ys[m]? ≠ some y) (q : ∀ tk, Q (.int j tk) { s with toks := s.toks + 1 }) :
    wpAny (model P w) A (call (.builtin "tuple.index") [.ref l, .str y t]) Q E s := by
  obtain ⟨o, ho, hc, n, hd⟩ := ht
  have hjl : j < ys.length := (List.getElem?_eq_some_iff.mp hj).1
  have hlen := strs_len st
  refine wpAny_call_entry PySem.F.slot_tuple_index ⟨o, ho, hc⟩ PySem.F.entry_tuple_index ?_ (PySem.F.args_tuple_index_2 _ _)
  unfold Builtin.«tuple.index»
  refine wpAny_bind (wpAny_pure ?_)
  dsimp only
  refine wpAny_bind ?_; unfold Builtin.Tuple.tupleItemsOf seqItems?
  refine wpAny_bind (wpAny_bind (wpAny_load ho ?_))
  rw [hd]
  refine wpAny_pure (wpAny_pure ?_)
  refine wpAny_bind (wpAny_pure (wpAny_bind (wpAny_pure ?_)))
  rw [Std.Legacy.Range.forIn_eq_forIn_range']
  refine wpAny_bind ?_
  have e2 : ([0:min vs.toArray.size vs.toArray.size] : Std.Legacy.Range).size = vs.length := by simp [Std.Legacy.Range.size]
  rw [e2]
  refine idx_loop st hj hno (fun tk => ?_) vs.length 0 (Nat.zero_le _) (by omega)
  exact wpAny_pure ⟨_, rfl, q tk⟩
end
end HS
namespace L2
open PySem PySem.Spec PyProof.Rows PySem.W HS
section
variable {X : Cx}
def rIndexT (K : Frag) : V → List V → Hp → VK → Prop := fun x vs H Q => ∃ (l : Addr) (ys : List Str) (y : Str) (j : Nat), x = .ref l ∧ vs = [.str y] ∧ SqT K H l (ys.map V.str) ∧ ys[j]? = some y ∧ (∀ m, m < j → ys[m]? ≠ some y) ∧ Q (.int j) H
theorem mt_indexT : MtM X "tuple.index" (rIndexT X.K) := by
  intro pins s σ H x vs v us Q I rx rv h
  obtain ⟨l, ys, y, j, rfl, rfl, hH, hj, hno, q⟩ := h
  cases rx
  obtain ⟨u, rfl, t, rfl⟩ := rv.one
  obtain ⟨its, r, pl, hz⟩ := I.tuple hH
  exact index_tup pl (strsAre_of r) hj hno fun tk => ⟨.int j, H, I.tok _, ⟨tk, rfl⟩, q⟩
theorem mt_indexT_K (K : Frag) (h : X.K = K) : MtM X "tuple.index" (rIndexT K) := by subst h; exact mt_indexT
end
end L2
/-! ### sorted: of a list of ints, of a dict by texts -/
namespace HS
open PySem PySem.Spec PyProof.Rows PySem.W L2
section
variable {P : Program} {w : World} {A : Around} {E : Value → Shared → Prop} {s : Shared} {T : String} {r d : Addr} {n : Nat} {Pv : Nat → Value → Prop} {OK : Heap → Prop}
theorem collect_kdl {Q : List Value → Shared → Prop} (K : KdlSrc P w T r d n Pv OK) (hh : A.handled = none) (hok : OK s.heap) (hn : n ≤ sizeLine)
    (q : ∀ h' tk (vs : List Value), (∀ b o, s.heap.get? b = some o → h'.get? b = some o) → ItemsOf Pv vs.toArray n → Q vs { s with heap := h', toks := tk }) : wpAny (model P w) A (collect (.ref r)) Q E s := by
  have lt := K.there _ hok
  have key : ∀ R : Result → Shared → Prop, (∀ h' tk (acc : Array Value) c, (∀ b o, b ≠ s.heap.objs.size → (s.heap.push (seqObj "list" #[] 0)).get? b = some o → h'.get? b = some o) → h'.get? s.heap.objs.size = some { cls := .type "list", dict := none, data := .seq acc c, slots := #[] } → ItemsOf Pv acc n → R (.ok (.ret (.ref s.heap.objs.size))) { s with heap := h', toks := tk }) →
      codeAny (model P w) A (.builtin "list.__iadd__" ⟨[.ref s.heap.objs.size, .ref r], []⟩) R { s with heap := s.heap.push (seqObj "list" #[] 0) } := fun R hR => by
    refine codeAny_builtin PySem.F.entry_list_iadd ?_; rw [Around.under_plainId PySem.F.plain_list_iadd _]
    show wpAny _ _ (Builtin.List.listExtendWith (.ref s.heap.objs.size) (.ref r) (.ref s.heap.objs.size)) _ _ { s with heap := s.heap.push (seqObj "list" #[] 0) }
    exact kdl_extend (s := { s with heap := s.heap.push (seqObj "list" #[] 0) }) K hh (K.keep _ _ hok fun b _ o e => Heap.get?_push_of_some _ e) s.heap.objs.size (Nat.ne_of_gt lt.1) (Nat.ne_of_gt lt.2) _ 0 (Heap.get?_push_size _ rfl) (fun h' tk acc c kp e it => hR h' tk acc c kp e it) hn
  unfold collect
  refine wpAny_bind (wpAny_runValue (codeAny_builtin PySem.F.entry_proto_collect ?_)); rw [Around.under_plainId PySem.F.plain_proto_collect _]
  show wpAny _ A.in1 (newList [] >>= fun z => again (.builtin "list.__iadd__" ⟨[z, .ref r], []⟩)) _ _ s
  refine wpAny_bind (wpAny_newList (wpAny_pure ⟨plainId_quiet PySem.F.plain_list_iadd _, key _ fun h' tk acc c kp e it => ?_⟩))
  show wpAny (model P w) A (load s.heap.objs.size >>= _) Q E _
  refine wpAny_bind (wpAny_load e ?_)
  show wpAny _ _ (pure acc.toList) Q E _
  exact wpAny_pure (q h' tk acc.toList (fun b o hb => kp b o (Nat.ne_of_lt (Heap.lt_size hb)) (Heap.get?_push_of_some _ hb)) (by rw [Array.toArray_toList]; exact it))
/-- sorted of a dict by texts -/
theorem sorted_kdl {ys : List Str} {Q : Value → Shared → Prop} (K : KdlSrc P w T r d n Pv OK) (hh : A.handled = none) (hok : OK s.heap) (h63 : n ≤ 63) (hy : ∀ vs : List Value, ItemsOf Pv vs.toArray n → StrsAre vs ys)
    (hQ : ∀ D c h' tk (us : List Value) (zs : List Str), (∀ b o, s.heap.get? b = some o → h'.get? b = some o) → (∀ b o, s.heap.get? b = some o → b ≠ D) → h'.get? D = some (listOf us.toArray c) → StrsAre us zs → zs.Perm ys → sortedS zs = true → Q (.ref D) { s with heap := h', toks := tk }) :
    wpAny (model P w) A (call (.builtin "sorted") [.ref r]) Q E s := by
  refine Calls.call_function_entry kind_sorted plain_sorted entry_sorted (args_sorted1 _) ?_
  unfold Builtin.«sorted»
  refine wpAny_bind (m := checkCount "sorted" 1 1 _) (wpAny_pure (wpAny_bind (collect_kdl K hh hok (by rw [sizeLine_eq]; omega) fun h1 tk vs k1 it => ?_)))
  have v1 := hy vs it
  have lv : vs.length = n := by have := it.1; simpa using this
  refine wpAny_bind (wpAny_newList ?_ (by rw [sizeLine_eq]; omega))
  have at1 : (h1.push (seqObj "list" vs.toArray 0)).get? h1.objs.size = some (seqObj "list" vs.toArray 0) := Heap.get?_push_size _ rfl
  refine wpAny_bind (wpAny_holding (wpAny_call_entry slot_list_sort ⟨_, at1, rfl⟩ entry_list_sort (list_sort_treeK strKind_oneLt at1 v1.keysOf (fun v₁ v₂ rest e => keyKind_strs (by rw [← e]; exact v1)) (by omega) fun st' a1 a2 => ⟨_, rfl, ?_⟩) (args_list_sort _)))
  obtain ⟨ss', b1, b2, b3⟩ := sorted_out_str v1 a1 a2
  obtain ⟨c, hc⟩ := sortedHeap_at (n := 0) (vs := vs) (out := (arrOf st').map (·.2)) at1
  refine wpAny_pure ⟨_, rfl, hQ _ c _ _ _ ss' (fun b o e => ?_) (fun b o e => Nat.ne_of_lt (Heap.lt_size (k1 b o e))) (by rw [hc]) b1 b2 b3⟩
  have e1 := k1 b o e
  have lt1 := Heap.lt_size e1
  rw [sortedHeap_old (Nat.ne_of_lt lt1) (by rw [size_push']; exact Nat.lt_succ_of_lt lt1), Heap.get?_push_ne _ _ _ (Nat.ne_of_lt lt1)]
  exact e1
end
end HS
namespace L2
open PySem PySem.Spec PyProof.Rows PySem.W HS
theorem ints_of_vals : ∀ {ns : List Int} {us : List Value}, Vals (ns.map V.int) us → IntsAre us ns
  | [], _, .nil => .nil
  | n :: ns, _, .cons r rs => by
    obtain ⟨t, rfl⟩ := (show ∃ t, _ = Value.int n t from r)
    exact .cons _ t (ints_of_vals rs)
theorem vals_of_ints : ∀ {us : List Value} {ns : List Int}, IntsAre us ns → Vals (ns.map V.int) us
  | _, _, .nil => .nil
  | _, _, .cons _ t r => .cons ⟨t, rfl⟩ (vals_of_ints r)
section
variable {X : Cx}
theorem call_sortedI : CallR X (.builtin "sorted") (fun xs H Q => ∃ p ns, xs = [.ref p] ∧ SqL X.K H p (ns.map V.int) ∧ ns.length ≤ 63 ∧ ∀ D (ns' : List Int), H D = none → ns'.Perm ns → ns'.Pairwise (· ≤ ·) → Q (.ref D) (upd H D (.lst (ns'.map V.int)))) := by
  intro pins s σ H xs us Q I r ⟨p, ns, ex, hq, h63, q⟩
  subst ex
  obtain ⟨u, rfl, rx⟩ := vals1 r
  cases rx
  obtain ⟨its, rv, pl, hz⟩ := I.list hq
  have hl := rv.length
  rw [List.length_map] at hl
  obtain ⟨m, hm, _⟩ := id I.loc
  obtain ⟨g0, hg0, hg1⟩ : ∃ g0 : Heap, g0.objs.size = 0 ∧ ∀ b, g0.get? b = none := ⟨{ s.heap with objs := #[] }, rfl, fun b => Heap.get?_none_of_le (Nat.zero_le _)⟩
  have F : Fr g0 X.env.locals s.heap m := ⟨hm, fun b o e => (by rw [hg1] at e; cases e), by rw [hg0]; exact Nat.zero_le _⟩
  refine sorted_N F (news_all (g := g0) (L := X.env.locals)) pl.isList (ints_of_vals rv) (by omega) fun h' vs' ns' e F' N' hS' hp' hs' => ?_
  obtain ⟨hn, I'⟩ := Inv.sorted (t' := s.toks) (ys := ns'.map V.int) I hm F'.ns (fun b o n e => (N' (b, o) (List.mem_cons_of_mem _ (mem_allNews n (hg1 b) e))).1) (fun b o e => Nat.ne_of_lt (Nat.lt_succ_of_lt (Heap.lt_size e))) (N' _ List.mem_cons_self).1 (vals_of_ints hS') (by rw [List.length_map, hp'.length_eq, sizeLine_eq]; omega)
  exact ⟨.ref _, _, I', rfl, q _ ns' hn hp' hs'⟩
theorem strs_at_keys : ∀ {ks : List Str} {us : List Value}, ks.length = us.length → (∀ (i : Nat) x u, ks[i]? = some x → us[i]? = some u → ∃ t, u = Value.str x t) → StrsAre us ks
  | [], [], _, _ => .nil
  | [], _ :: _, h, _ => by simp at h
  | _ :: _, [], h, _ => by simp at h
  | x :: xs, u :: us, h, f => by
    obtain ⟨t, rfl⟩ := f 0 x u rfl rfl
    exact .cons _ t (strs_at_keys (by simpa using h) fun i y v a b => f (i + 1) y v (by simpa using a) (by simpa using b))
theorem call_sortedD (hc : X.calm = true) : CallR X (.builtin "sorted") (fun xs H Q => ∃ (d : Addr) (ks : List (Str × V)), xs = [.ref d] ∧ H d = some (.dK (ks.map fun p => (Sum.inr p.1, p.2))) ∧ ks.length ≤ 63 ∧ ∀ D ss', H D = none → ss'.Perm (ks.map (·.1)) → sortedS ss' = true → Q (.ref D) (upd H D (.lst (ss'.map V.str)))) := by
  intro pins s σ H xs us Q I r h
  obtain ⟨d, ks, rfl, hd, h63, q⟩ := h
  obtain ⟨u, rfl, rx⟩ := vals1 r
  cases rx
  obtain ⟨hz, lo, vs, kv, dd⟩ := dk_of I.hok hd
  obtain ⟨ep, da⟩ := dd.dictAt
  have hlen : (ks.map fun p => ((Sum.inr p.1 : Key), p.2)).length = vs.length := kv.length
  have hlen' : ks.length = vs.length := by rw [← hlen, List.length_map]
  obtain ⟨m, hm, _⟩ := id I.loc
  refine sorted_kdl (ys := ks.map (·.1)) (kdl_dict (kvs := vs) (ep := ep) lo) (I.ok.hd hc) da (by omega) (fun us it => ?_) fun D c h' tk out ys k hD new st' p' srt => ?_
  · refine strs_at_keys (by rw [List.length_map, hlen']; have := it.1; simpa using this.symm) fun i x v hx hv => ?_
    obtain ⟨key, y, hk, hi⟩ := it.2 i v (by simpa using hv)
    obtain ⟨p, hp, rfl⟩ := Option.map_eq_some_iff.mp (by rw [← List.getElem?_map]; exact hx)
    have e : (Sum.inr p.1 : Key) = key := by
      have hkv : (ks.map fun p => ((Sum.inr p.1 : Key), p.2))[i]? = some (Sum.inr p.1, p.2) := by rw [List.getElem?_map, hp]; rfl
      clear it hx hv hlen hlen' da dd q hz hd hp h63
      generalize (ks.map fun p => ((Sum.inr p.1 : Key), p.2)) = kl at kv hkv
      induction kv generalizing i with
      | nil => simp at hkv
      | cons p _ ih =>
        cases i with
        | zero =>
          simp at hkv hk
          subst hkv
          have := p.1
          rw [hk] at this
          exact this
        | succ i => exact ih i (by simpa using hk) (by simpa using hkv)
    subst e
    exact Value.isStrOf_shape (show Value.isStrOf p.1 v = true from hi)
  · obtain ⟨hn, I'⟩ := Inv.sorted (t' := tk) (ys := ys.map V.str) I hm (hm.at' fun o e => k _ _ e) (fun b o _ e => k b o e) hD new (vals_strs st') (by rw [List.length_map, p'.length_eq, List.length_map, sizeLine_eq]; omega)
    exact ⟨.ref D, _, I', rfl, q _ ys hn p' srt⟩
theorem keyed {kvs : List (Key × V)} : ∀ {ks : List Str}, kvs.map (·.1) = ks.map Sum.inr → ∃ ps : List (Str × V), kvs = ps.map (fun p => (Sum.inr p.1, p.2)) ∧ ps.map (·.1) = ks := by
  induction kvs with
  | nil => intro ks h; cases ks with
    | nil => exact ⟨[], rfl, rfl⟩
    | cons _ _ => simp at h
  | cons kv kvs ih =>
    intro ks h
    cases ks with
    | nil => simp at h
    | cons k ks =>
      simp only [List.map_cons, List.cons.injEq] at h
      obtain ⟨ps, e1, e2⟩ := ih h.2
      refine ⟨(k, kv.2) :: ps, ?_, ?_⟩
      · rw [List.map_cons, ← e1, ← h.1]
      · rw [List.map_cons, e2]
theorem call_sortedDk (hc : X.calm = true) : CallR X (.builtin "sorted") (fun xs H Q => ∃ (d : Addr) (kvs : List (Key × V)) (ks : List Str), xs = [.ref d] ∧ H d = some (.dK kvs) ∧ kvs.map (·.1) = ks.map Sum.inr ∧ ks.length ≤ 63 ∧ ∀ D ss', H D = none → ss'.Perm ks → sortedS ss' = true → Q (.ref D) (upd H D (.lst (ss'.map V.str)))) := by
  intro pins s σ H xs us Q I r h
  obtain ⟨d, kvs, ks, ex, hd, hk, h63, q⟩ := h
  obtain ⟨ps, e1, e2⟩ := keyed hk
  subst e1
  subst e2
  exact call_sortedD hc pins s σ H xs us Q I r ⟨d, ps, ex, hd, by simpa using h63, q⟩
end
end L2
namespace L2
open PySem PySem.W PySem.Spec PyProof.Rows
section
variable {X : Cx}
theorem pe_bm_K (K : Frag) (hK : X.K = K) {o e : Expr} {es : List Expr} {to : TE} {t : TA} {name : Str} {apos cpos : Pos} {T id : String} {r : V → List V → Hp → VK → Prop} (pa : PlainAttrs T) (slot : Slot T name id) (hty : typeOf (.builtin id) = pure (.type "method_descriptor")) (hm : MtR X id r) (ho : PE X o to) (ha : PA X (e :: es) t)
    (hbase : attributeBase o name X.env (eval o X.env) = eval o X.env := by rfl)
    (hfew : ((backTo cpos (starEach (e :: es) X.env)).all (fun x => !x.1) && (backToKw cpos (keywordEach [] X.env)).all (fun x => x.1.isSome) && decide ((e :: es).length + ([] : List Keyword).length + (if ([] : List Keyword).isEmpty then 0 else 1) < 30)) = true := by rfl)
    (hline : (apos.endLine == cpos.line) = true := by rfl) (hs : starEach (e :: es) X.env = (false, eval e X.env) :: starEach es X.env := by rfl) (hplain : (backTo cpos (starEach es X.env)).any (·.1) = false := by rfl) :
    PE X (.Call (.Attribute o name apos) (e :: es) [] cpos) (tBM K T r to t) := by subst hK; exact pe_bm pa slot hty hm ho ha hbase hfew hline hs hplain
end
end L2
/-! ### comprehensions with two clauses -/
namespace L2
open PySem PySem.Spec PyProof.Rows PySem.W HS
structure CompFm (n0 : Nat) (e tg iter : Expr) (ifs : List Expr) (emit : Value → Env → Sem Unit) : Prop where
  cl : (clausesOf e)[n0]? = some ⟨tg, iter, ifs, 0⟩
  turn : ∀ it acc env, compTurn e n0 it acc env = (do
      standAt iter.pos
      match ← pyNext it with
      | none => pure (.done .next)
      | some v =>
        letOwnedTupleGo tg it v
        assign tg env v
        let mut ok := true
        for c in ifs do
          if ok then ok ← isTrue c env (eval c env)
        if ok then emit acc env
        again (.compLoop e n0 it acc env))
  loop : ∀ (prog : Program) (w : World) (A : Around) it acc env, A.under (.compLoop e n0 it acc env) = A ∧ (model prog w).den (.compLoop e n0 it acc env) = (compTurn e n0 it acc env).onRaise (fun x => do noteFrame x env; theTreesLotGoes x)
  begin_ : ∀ (prog : Program) (w : World) (A : Around) it acc env, A.under (.compStart e n0 it acc env) = A ∧ (model prog w).den (.compStart e n0 it acc env) = (compStart e n0 it acc env).onRaise (fun x => do noteFrame x env; standAt theWindowsPlace)
theorem code_compLoopR {prog : Program} {w : World} {A : Around} {R : Result → Shared → Prop} {s : Shared} {n0 : Nat} {e tg iter : Expr} {ifs : List Expr} {emit : Value → Env → Sem Unit} {it acc : Value} {env : Env} (F : CompFm n0 e tg iter ifs emit) (I : Nat → Shared → Prop)
    (turn : ∀ n s, I n s → wpAny (model prog w) A (pyNext it) (fun r s1 => match r with
      | none => R (.ok .next) s1
      | some v => wpAny (model prog w) A (letOwnedTupleGo tg it v) (fun _ s2 => wpAny (model prog w) A (assign tg env v) (fun _ s3 =>
          wpAny (model prog w) A (forIn ifs true fun c r => if r = true then do let ok ← isTrue c env (eval c env); pure (ForInStep.yield ok) else pure (ForInStep.yield r)) (fun ok s4 =>
            if ok = true then wpAny (model prog w) A (emit acc env) (fun _ s6 => ∃ m, m < n ∧ I m s6) (fun _ _ => False) s4
            else ∃ m, m < n ∧ I m s4) (fun _ _ => False) s3) (fun _ _ => False) s2) (fun _ _ => False) s1) (fun _ _ => False) s)
    (n : Nat) (h : I n s) :
    codeAny (model prog w) A (.compLoop e n0 it acc env) R s := by
  refine codeAny_loop rfl I (fun n s hI => ?_) n h
  rw [(F.loop prog w A it acc env).1, (F.loop prog w A it acc env).2]
  refine wpAny_noted (wpAny_noRaise ?_)
  rw [F.turn]
  refine wpAny_bind (wpAny_standAt (wpAny_bind (thn (turn n s hI) fun r s1 h1 => ?_)))
  cases r with
  | none => exact wpAny_pure h1
  | some v =>
    refine wpAny_bind (thn h1 fun _ s2 h2 => wpAny_bind (thn h2 fun _ s3 h3 => wpAny_bind (thn h3 fun ok s4 h4 => ?_)))
    cases ok with
    | false => exact wpAny_pure ⟨rfl, h4⟩
    | true => exact wpAny_bind (thn h4 fun x s5 h5 => wpAny_pure ⟨rfl, h5⟩)
theorem code_compStartR {prog : Program} {w : World} {A : Around} {R : Result → Shared → Prop} {s : Shared} {n0 : Nat} {e tg iter : Expr} {ifs : List Expr} {emit : Value → Env → Sem Unit} {it acc : Value} {env : Env} (F : CompFm n0 e tg iter ifs emit)
    (h0 : codeAny (model prog w) A (.compLoop e n0 it acc env) R s)
    (h : wpAny (model prog w) A (pyIter it) (fun it' s' => codeAny (model prog w) A (.compLoop e n0 it' acc env) R s')
      (notedBy (model prog w) A env fun x s' => R (.error x) s') s) :
    codeAny (model prog w) A (.compStart e n0 it acc env) R s := by
  refine codeAny_of_tree ?_
  rw [(F.begin_ prog w A it acc env).1, (F.begin_ prog w A it acc env).2]
  refine wpAny_notedAt ?_
  unfold compStart
  rw [F.cl]
  show wpAny _ _ (ask >>= _) _ _ s
  refine wpAny_bind (wpAny_askSetting (wpAny_ite ?_))
  split
  · first
      | exact wpAny_bind (wpAny_pure (wpAny_pure (And.intro rfl h0)))
      | exact wpAny_pure (And.intro rfl h0)
  · first
      | exact wpAny_bind (wpAny_rule (wpAny_bind (wpAny_standAt (wpAny_bind (wpAny_mono h (fun it' s' h' => wpAny_pure (And.intro rfl h')) fun _ _ x => x)))))
      | (refine wpAny_bind (wpAny_rule ?_); show wpAny _ _ (standAt iter.pos >>= _) _ _ s; exact wpAny_bind (wpAny_standAt (wpAny_bind (wpAny_mono h (fun it' s' h' => wpAny_pure (And.intro rfl h')) fun _ _ x => x))))

section
variable {X : Cx} {pins : List (Addr × Obj)} {σ : St} {H2 : Hp} {s2 : Shared} {N' : List Str} {ixs : List (Option Nat)} {scope : Scope} {e tg elt iter : Expr} {ifs : List Expr} {pos : Pos} {emit : Value → Env → Sem Unit} {tem : Addr → St → Hp → (Hp → Prop) → Prop}
theorem comp_coreR {J : It} {fp : List Addr} {it : Addr} {tn : Nat → Heap → Prop} {g : TG} {ti : TT} {Q : VK} {E : Value → Shared → Prop} {RR : Value → Addr → Result → Shared → Prop} {newAcc : Sem Value} {start : Addr → HO} (F : CompFm 0 e tg iter ifs emit) (hc : X.calm = true) (S : CompScope X.N X.env.scope N' ixs scope)
    (I2 : Inv X pins σ H2 s2) (T : Turn X.prog X.w X.K tg J fp it tn) (st : tn 0 s2.heap) (hf : ∀ b ∈ fp, FpOk X pins H2 b) (hnew : NewAcc X newAcc start)
    (hb : ∀ s H fp, PG (cxComp X N' scope s H fp) tg g ∧ PIfs (cxComp X N' scope s H fp) ifs ti ∧ PEm (cxComp X N' scope s H fp) emit tem)
    (hw : ∀ p, H2 p = none → CompWG J g ti tem (pick ixs σ) Q p (upd H2 p (start p))) (hR : ∀ acc C s', CompEnd X pins σ Q acc C s' → RR acc C (.ok .next) s') :
    wpAny (model X.prog X.w) X.A newAcc (fun acc s3 => wpAny (model X.prog X.w) X.A (newFunctionEnv scope X.env.globals (closL X.env.cells scope.names []) [] X.env.qual none .none (some X.env)) (fun cenv s4 =>
      codeAny (model X.prog X.w) X.A (.compStart e 0 (.ref it) acc { cenv with scope := relabel scope X.env }) (RR acc cenv.locals) s4) E s3) E s2 := by
  refine hnew.run pins s2 σ H2 E _ I2 fun s3 I3 get3 => ?_
  have hp := hw s2.heap.objs.size I2.fresh
  generalize eH : upd H2 s2.heap.objs.size (start s2.heap.objs.size) = H3 at I3 hp
  have flt : ∀ b ∈ fp, b < s2.heap.objs.size := fun b hb => let ⟨_, e, _⟩ := T.obj _ _ st b hb; Heap.lt_size e
  have st3 : tn 0 s3.heap := T.keep _ _ _ st fun b _ o e => get3 b o e
  have hf3 : ∀ b ∈ fp, FpOk X pins H3 b := fun b hb => ⟨by rw [← eH, upd_ne (Nat.ne_of_lt (flt b hb))]; exact (hf b hb).1, (hf b hb).2⟩
  have ho3 : ∀ b ∈ fp, ∃ o, s3.heap.get? b = some o := fun b hb => let ⟨o, e, _⟩ := T.obj _ _ st3 b hb; ⟨o, e⟩
  refine newEnv_comp fun h4 hn hk hcl hpw => ?_
  have I4 : Inv (cxComp X N' scope s3 H3 fp) [] (pick ixs σ) H3 { s3 with heap := h4 } := inv_comp I3 S hf3 ho3 hn hk hcl hpw
  have st4 : tn 0 ({ s3 with heap := h4 } : Shared).heap := T.keep _ _ _ st3 fun b _ o e => hk b o e
  obtain ⟨hG, hI, hE⟩ := hb s3 H3 fp
  obtain ⟨W, ⟨m0, w0⟩, turn⟩ := hp
  have stat : ∀ {H' : Hp}, (∀ b ∈ fp, H' b = none) → ∀ b ∈ fp, FpOk (cxComp X N' scope s3 H3 fp) [] H' b := fun hn b hb =>
    ⟨hn b hb, (I4.ok.exf b hb).1, I4.ok.exfs b hb, .inl hb, fun x c e => (I4.ok.exf b hb).2 x c e, fun p hp => absurd (show p ∈ ([] : List (Addr × Obj)) from hp) (by simp)⟩
  have loop : codeAny (model X.prog X.w) X.A (.compLoop e 0 (.ref it) (.ref s2.heap.objs.size) (compEnv2 scope s3.heap.objs.size X.env))
      (RR (.ref s2.heap.objs.size) s3.heap.objs.size) { s3 with heap := h4 } := by
    refine code_compLoopR F (fun n s' => ∃ i τ H', Inv (cxComp X N' scope s3 H3 fp) [] τ H' s' ∧ tn i s'.heap ∧ (∀ b ∈ fp, H' b = none) ∧ W i n τ H') ?_ m0 ⟨0, _, H3, I4, st4, fun b hb => (hf3 b hb).1, w0⟩
    rintro n s5 ⟨i, τ, H5, I5, st5, fr5, w5⟩
    have w5 := turn i n τ H5 w5
    rcases w5 with ⟨stop, qn⟩ | ⟨go, step⟩
    · refine thn (T.done (cxComp X N' scope s3 H3 fp) rfl rfl rfl hc i [] s5 τ H5 _ I5 (stat fr5) st5 stop) fun r s6 ⟨hr, I6⟩ => ?_
      subst hr
      refine hR _ _ _ ⟨_, H5, rfl, ?_, ?_, ?_, qn⟩
      · exact I3.call' (s' := s6) (ch := fp) I6.os I6.base I6.hok I6.bare fun b hb => ⟨(hf3 b hb).2.2.2.1, (hf3 b hb).2.1, (hf3 b hb).2.2.2.2.1, (hf3 b hb).2.2.2.2.2⟩
      · exact I3.fpOk (Nat.le_refl _) I6.free
      · obtain ⟨m, hm, _⟩ := I6.loc
        exact ⟨m, hm⟩
    · refine thn (T.item (cxComp X N' scope s3 H3 fp) rfl rfl rfl hc i [] s5 τ H5 _ I5 (stat fr5) st5 go) fun r s6 ⟨u, hr, h6⟩ => ?_
      subst hr
      refine thn h6 fun _ s7 ⟨x, H7, I7, r7, y7, st7, fr7⟩ => ?_
      have I7' := I7.pinned (stat fr7) (T.obj _ _ st7)
      refine thn (hG _ s7 τ H7 x u _ I7' r7 (step x H7 y7)) fun _ s8 ⟨τ8, H8, I8, q8⟩ => ?_
      refine thn (hI _ s8 τ8 H8 _ I8 q8) fun b s9 ⟨H9, I9, q9⟩ => ?_
      have again : ∀ {τ' : St} {H' : Hp} {s' : Shared} {m' : Nat}, Inv (cxComp X N' scope s3 H3 fp) ([] ++ pinsAt fp s7.heap) τ' H' s' → m' < n → W (i + 1) m' τ' H' →
          ∃ m, m < n ∧ ∃ i τ H', Inv (cxComp X N' scope s3 H3 fp) [] τ H' s' ∧ tn i s'.heap ∧ (∀ b ∈ fp, H' b = none) ∧ W i m τ H' := fun {τ' H' s' m'} I' hm w' => by
        refine ⟨m', hm, i + 1, τ', H', I'.unpinned, T.keep _ _ _ st7 fun b hb o e => (I'.pin (b, o) (List.mem_append_right _ (List.mem_append_right _ (mem_pinsAt hb e)))).1, fun b hb => ?_, w'⟩
        obtain ⟨o, e, d⟩ := T.obj _ _ st7 b hb
        exact (I'.pin (b, o) (List.mem_append_right _ (List.mem_append_right _ (mem_pinsAt hb e)))).2.1
      cases b with
      | false =>
        obtain ⟨m', hm, w'⟩ := q9
        exact again I9 hm w'
      | true => exact thn (hE _ s9 τ8 H9 _ _ I9 q9) fun _ s10 ⟨H10, I10, m', hm, w'⟩ => again I10 hm w'
  exact code_compStartR F loop (T.self X.A 0 _ _ _ st4 loop)
theorem pe_compR {gs : List Comprehension} {wi : TI} {g : TG} {ti : TT} {newAcc : Sem Value} {start : Addr → HO} (F : CompFm 0 e tg iter ifs emit) (hcl : clausesOf e = ⟨tg, iter, ifs, 0⟩ :: gs) (hev : eval e X.env = comprehension e scope X.env pos newAcc false (eval iter X.env)) (hnew : NewAcc X newAcc start) (hc : X.calm = true) (S : CompScope X.N X.env.scope N' ixs scope) (hi : PI X tg iter wi)
    (hb : ∀ s H fp, PG (cxComp X N' scope s H fp) tg g ∧ PIfs (cxComp X N' scope s H fp) ifs ti ∧ PEm (cxComp X N' scope s H fp) emit tem)
    (hs : ∀ x, foldedSetIterable iter X.env x = pure x := by intro _; rfl) : PE X e (tCompG wi ixs g ti tem start) := by
  intro pins s σ H Q I h
  rw [hev]
  refine wpAny_comprehension_free (use := none) hcl hs (closureFor_eq fun n hn => comp_free I S hn) S.kind (fun x hx hl => lookup_of_mem S.keys (by rw [← hl]; exact hx)) ?_
  refine thn (hi pins s σ H _ I h) fun v s1 h1 => thn h1 fun itv s2 h2 => ?_
  obtain ⟨it, fp, tn, J, H2, e, I2, T, st2, f2, hw⟩ := h2
  subst e
  refine comp_coreR (RR := fun acc C => compPost (model X.prog X.w) X.A X.xe none (EP X pins σ Q) acc C) F hc S I2 T st2 f2 hnew hb hw ?_
  rintro acc C s' ⟨p, H', rfl, I', fC, ⟨m, hm⟩, q⟩
  refine ⟨m, hm, fun h' hs' => ⟨.ref p, H', ?_, rfl, q⟩⟩
  exact I'.turned (it := C) (t' := s'.toks) (fun b o hb e => (hs'.2 b hb).trans e) fC.1 fC.2.1 fC.2.2.2.1 fC.2.2.2.2.1 fC.2.2.2.2.2
end


def emit2 (e it2 : Expr) (acc : Value) (env : Env) : Sem Unit := do
  let x ← eval it2 env
  standAt it2.pos
  let x ← foldedSetIterable it2 env x
  let _ ← runOwn (.compStart e 1 (← holding [x] (pyIter x)) acc env) env
abbrev set2 (elt tg1 it1 tg2 it2 : Expr) (scope : Scope) (pos : Pos) : Expr := .SetComp elt [⟨tg1, it1, [], 0⟩, ⟨tg2, it2, [], 0⟩] scope pos
theorem form_set2 {elt tg1 it1 tg2 it2 : Expr} {scope : Scope} {pos : Pos} : CompFm 0 (set2 elt tg1 it1 tg2 it2 scope pos) tg1 it1 [] (emit2 (set2 elt tg1 it1 tg2 it2 scope pos) it2) := ⟨rfl, fun it acc env => by
  unfold compTurn emit2
  simp only [bind_assoc]
  rfl, fun _ _ _ _ _ _ => ⟨rfl, rfl⟩, fun _ _ _ _ _ _ => ⟨rfl, rfl⟩⟩
theorem form_set2i {elt tg1 it1 tg2 it2 : Expr} {scope : Scope} {pos : Pos} : CompFm 1 (set2 elt tg1 it1 tg2 it2 scope pos) tg2 it2 [] (emitSet elt) := ⟨rfl, fun _ _ _ => rfl, fun _ _ _ _ _ _ => ⟨rfl, rfl⟩, fun _ _ _ _ _ _ => ⟨rfl, rfl⟩⟩
end L2
namespace L2
open PySem PySem.Spec PyProof.Rows PySem.W HS
def Forget (τ σ : St) : Prop := σ.length = τ.length ∧ ∀ (i : Nat) v, σ[i]? = some (some v) → τ[i]? = some (some v)
def tmTwo (wi : TI) (g : TG) (tem : Addr → St → Hp → (Hp → Prop) → Prop) (p : Addr) (σ : St) (H : Hp) (Q : Hp → Prop) : Prop :=
  wi σ H fun J H1 => ∃ W : Nat → Nat → St → Hp → Prop, (∃ m, W 0 m σ H1) ∧ ∀ i m τ H2, W i m τ H2 →
    ((J.stop i H2 ∧ Forget τ σ ∧ Q H2) ∨ (J.go i H2 ∧ ∀ x H3, J.yld i H2 x H3 → g x τ H3 fun τ4 H4 => tem p τ4 H4 fun H6 => ∃ m', m' < m ∧ W (i + 1) m' τ4 H6))
section
variable {X : Cx} {e tg it2 : Expr} {emit : Value → Env → Sem Unit} {tem : Addr → St → Hp → (Hp → Prop) → Prop} {wi : TI} {g : TG}
theorem em_two (hc : X.calm = true) (h0 : X.xe = fun _ _ => False) (F : CompFm 1 e tg it2 [] emit) (hi : PI X tg it2 wi) (hg : PG X tg g) (he : PEm X emit tem) (hs : ∀ x, foldedSetIterable it2 X.env x = pure x) : PEm X (emit2 e it2) (tmTwo wi g tem) := by
  intro pins s σ H p Q I h
  have nr : ∀ {α : Type} {tt : Sem α} {Q : α → Shared → Prop} {E : Value → Shared → Prop} {s' : Shared}, wpAny (model X.prog X.w) X.A tt Q X.xe s' → wpAny (model X.prog X.w) X.A tt Q E s' := fun z => by rw [h0] at z; exact wpAny_noRaise z
  unfold emit2
  refine wpAny_bind (thn (hi pins s σ H _ I h) fun v s1 h1 => wpAny_bind (wpAny_standAt ?_))
  rw [hs]
  refine wpAny_bind (wpAny_pure (wpAny_bind (wpAny_holding (thn h1 fun itv s2 h2 => ?_))))
  obtain ⟨it, fp, tn, J, H2, ee, I2, T, st2, f2, W, ⟨m0, w0⟩, turn⟩ := h2
  subst ee
  have stat : ∀ {H' : Hp}, (∀ b ∈ fp, H' b = none) → ∀ b ∈ fp, FpOk X pins H' b := fun hn b hb => ⟨hn b hb, (f2 b hb).2⟩
  have loop : codeAny (model X.prog X.w) X.A (.compLoop e 1 (.ref it) (.ref p) X.env) (fun r s' => r = .ok .next ∧ ∃ H', Inv X pins σ H' s' ∧ Q H') s2 := by
    refine code_compLoopR F (fun n s' => ∃ i τ H', Inv X pins τ H' s' ∧ tn i s'.heap ∧ (∀ b ∈ fp, H' b = none) ∧ W i n τ H') ?_ m0 ⟨0, σ, H2, I2, st2, fun b hb => (f2 b hb).1, w0⟩
    rintro n s3 ⟨i, τ, H3, I3, st3, fr3, w3⟩
    rcases turn i n τ H3 w3 with ⟨stop, fg, qn⟩ | ⟨go, step⟩
    · refine thn (T.done X rfl rfl rfl hc i pins s3 τ H3 _ I3 (stat fr3) st3 stop) fun r s4 ⟨hr, I4⟩ => ?_
      subst hr
      exact ⟨rfl, H3, I4.weak fg.1 fg.2, qn⟩
    · refine thn (T.item X rfl rfl rfl hc i pins s3 τ H3 _ I3 (stat fr3) st3 go) fun r s4 ⟨u, hr, h4⟩ => ?_
      subst hr
      refine thn h4 fun _ s5 ⟨x, H5, I5, r5, y5, st5, fr5⟩ => ?_
      have I5' := I5.pinned (stat fr5) (T.obj _ _ st5)
      refine thn (nr (hg _ s5 τ H5 x u _ I5' r5 (step x H5 y5))) fun _ s6 ⟨τ6, H6, I6, q6⟩ => ?_
      refine wpAny_pure ?_
      refine thn (nr (he _ s6 τ6 H6 _ _ I6 q6)) fun _ s7 ⟨H7, I7, m', hm, w7⟩ => ?_
      refine ⟨m', hm, i + 1, τ6, H7, I7.unpinned, T.keep _ _ _ st5 fun b hb o e => (I7.pin (b, o) (List.mem_append_right _ (List.mem_append_right _ (mem_pinsAt hb e)))).1, fun b hb => ?_, w7⟩
      obtain ⟨o, e, d⟩ := T.obj _ _ st5 b hb
      exact (I7.pin (b, o) (List.mem_append_right _ (List.mem_append_right _ (mem_pinsAt hb e)))).2.1
  refine wpAny_bind (wpAny_runOwn (codeAny_mono (code_compStartR F loop (T.self X.A 0 _ _ _ st2 loop)) fun r s3 hr => ?_) ?_)
  · obtain ⟨rfl, H', I', q⟩ := hr
    exact wpAny_pure ⟨H', I', q⟩
  · intro z; cases z
/-- {elt for a in xs for b in ys} -/
theorem pe_set2 {elt tg1 it1 tg2 : Expr} {scope : Scope} {pos : Pos} {N' : List Str} {ixs : List (Option Nat)} {g1 g2 : TG} {w1 w2 : TI} {te : TE} (hc : X.calm = true) (S : CompScope X.N X.env.scope N' ixs scope) (hi : PI X tg1 it1 w1)
    (hb : ∀ s H fp, PG (cxComp X N' scope s H fp) tg1 g1 ∧ PI (cxComp X N' scope s H fp) tg2 it2 w2 ∧ PG (cxComp X N' scope s H fp) tg2 g2 ∧ PEm (cxComp X N' scope s H fp) (emitSet elt) (tmSet X.prog X.w te))
    (hs : ∀ x, foldedSetIterable it1 X.env x = pure x := by intro _; rfl) (hs2 : ∀ (env : Env) x, foldedSetIterable it2 env x = pure x := by intro _ _; rfl) :
    PE X (set2 elt tg1 it1 tg2 it2 scope pos) (tCompG w1 ixs g1 (fun σ H Q => Q true H) (tmTwo w2 g2 (tmSet X.prog X.w te)) fun p => SetO X.prog X.w p []) :=
  pe_compR form_set2 rfl rfl new_set hc S hi (fun s H fp => ⟨(hb s H fp).1, pifs_nil, em_two hc rfl form_set2i (hb s H fp).2.1 (hb s H fp).2.2.1 (hb s H fp).2.2.2 fun x => hs2 _ x⟩) hs
end
end L2
namespace L2
open PySem
/-! ### rows of names: the pure side -/
/-- the first wish, from the k-th row on, that another name stand ahead of n -/
def wishFrom (k : Nat) : List (List Str) → Str → Option (Nat × Str)
  | [], _ => none
  | [] :: rest, n => wishFrom (k + 1) rest n
  | (x :: r) :: rest, n => if n ∈ x :: r ∧ x ≠ n then some (k, x) else wishFrom (k + 1) rest n
theorem wishFrom_miss {k : Nat} {r : List Str} {rest : List (List Str)} {n : Str} (h : ¬ (n ∈ r ∧ r.head? ≠ some n)) : wishFrom k (r :: rest) n = wishFrom (k + 1) rest n := by
  cases r with
  | nil => rfl
  | cons x r => exact if_neg fun z => h ⟨z.1, by simpa using z.2⟩
theorem wishFrom_hit {k : Nat} {x : Str} {r : List Str} {rest : List (List Str)} {n : Str} (h : n ∈ x :: r ∧ x ≠ n) : wishFrom k ((x :: r) :: rest) n = some (k, x) := by
  exact if_pos h
/-- the earliest free head -/
def freeFrom (all : List (List Str)) : List (List Str) → Option Str
  | [] => none
  | [] :: rest => freeFrom all rest
  | (x :: _) :: rest => if (wishFrom 0 all x).isNone then some x else freeFrom all rest
def leastFree (rest : List (List Str)) : Option Str := freeFrom rest rest
def without (n : Str) (rest : List (List Str)) : List (List Str) := rest.map fun r => r.filter fun y => !decide (y = n)
def total (rest : List (List Str)) : Nat := (rest.map List.length).sum
def mergeG : Nat → List (List Str) → Option (List Str)
  | 0, _ => some []
  | k + 1, rest => if (rest.any fun r => !r.isEmpty) = true then (match leastFree rest with | none => none | some n => (mergeG k (without n rest)).map (n :: ·)) else some []
theorem freeFrom_head {all : List (List Str)} {n : Str} : ∀ {rest : List (List Str)}, freeFrom all rest = some n → ∃ r ∈ rest, r.head? = some n
  | [], h => by cases h
  | [] :: rest, h => let ⟨r, hr, e⟩ := freeFrom_head (rest := rest) h; ⟨r, List.mem_cons_of_mem _ hr, e⟩
  | (x :: t) :: rest, h => by
    have h : (if (wishFrom 0 all x).isNone then some x else freeFrom all rest) = some n := h
    split at h
    · cases h; exact ⟨n :: t, List.mem_cons_self, rfl⟩
    · obtain ⟨r, hr, e⟩ := freeFrom_head (rest := rest) h
      exact ⟨r, List.mem_cons_of_mem _ hr, e⟩
theorem total_without_le (n : Str) : ∀ rest : List (List Str), total (without n rest) ≤ total rest
  | [] => Nat.le_refl _
  | r :: rest => by
    have h1 := total_without_le n rest
    have h2 := List.length_filter_le (fun y => !decide (y = n)) r
    simp only [total, without, List.map_cons, List.sum_cons] at *
    omega
theorem total_without_lt {n : Str} : ∀ {rest : List (List Str)}, (∃ r ∈ rest, n ∈ r) → total (without n rest) < total rest
  | [], ⟨_, h, _⟩ => by simp at h
  | r :: rest, ⟨q, hq, hn⟩ => by
    have h1 := total_without_le n rest
    have h2 := List.length_filter_le (fun y => !decide (y = n)) r
    rcases List.mem_cons.mp hq with rfl | hq
    · have h3 : (q.filter fun y => !decide (y = n)).length < q.length := by
        exact List.length_filter_lt_length_iff_exists.mpr ⟨n, hn, by simp⟩
      simp only [total, without, List.map_cons, List.sum_cons] at *
      omega
    · have h3 := total_without_lt ⟨q, hq, hn⟩
      simp only [total, without, List.map_cons, List.sum_cons] at *
      omega
theorem le_total {r : List Str} : ∀ {rest : List (List Str)}, r ∈ rest → r.length ≤ total rest
  | [], h => by simp at h
  | q :: rest, h => by
    have e : total (q :: rest) = q.length + total rest := by simp [total]
    rcases List.mem_cons.mp h with rfl | h
    · omega
    · have := le_total h
      omega
theorem total_pos {rest : List (List Str)} (h : (rest.any fun r => !r.isEmpty) = true) : 0 < total rest := by
  obtain ⟨r, hr, e⟩ := List.any_eq_true.mp h
  have h1 : 0 < r.length := by cases r with
    | nil => simp at e
    | cons _ _ => simp
  have h2 : r.length ≤ total rest := le_total hr
  omega

/-! ### rows on the heap -/
def RowsV (H : Hp) (vs : List V) (rows : List (List Str)) : Prop := Paired (fun y r => ∃ a, y = V.ref a ∧ H a = some (.tup (r.map V.str))) vs rows
theorem RowsV.same {H H' : Hp} {vs : List V} {rows : List (List Str)} (h : RowsV H vs rows) (s : Same H H') : RowsV H' vs rows := Paired.imp' (fun _ _ ⟨a, e, q⟩ => ⟨a, e, s _ _ q⟩) h
theorem RowsV.length {H : Hp} {vs : List V} {rows : List (List Str)} (h : RowsV H vs rows) : vs.length = rows.length := Paired.length h
theorem RowsV.get {H : Hp} : ∀ {vs : List V} {rows : List (List Str)} {i : Nat} {v : V}, RowsV H vs rows → vs[i]? = some v → ∃ a r, v = V.ref a ∧ rows[i]? = some r ∧ H a = some (.tup (r.map V.str))
  | _, _, i, v, .nil, e => by simp at e
  | _, _, 0, v, .cons p _, e => by
    obtain ⟨a, rfl, q⟩ := p
    simp at e; subst e
    exact ⟨a, _, rfl, rfl, q⟩
  | _, _, i + 1, v, .cons _ t, e => by
    obtain ⟨a, r, e1, e2, q⟩ := RowsV.get (i := i) t (by simpa using e)
    exact ⟨a, r, e1, by simpa using e2, q⟩
theorem RowsV.append {H : Hp} {vs : List V} {rows : List (List Str)} {a : Addr} {r : List Str} : RowsV H vs rows → H a = some (.tup (r.map V.str)) → RowsV H (vs ++ [.ref a]) (rows ++ [r])
  | .nil, q => .cons ⟨a, rfl, q⟩ .nil
  | .cons p t, q => .cons p (RowsV.append t q)
end L2
namespace K11
open PySem L2 PySem.W
def top (i : Nat) : Stmt := PySem.Challenge.pw_parentlines_k11_rows_merged_or_a_ring.main.body.getD i (.Pass ⟨0, 0, 0, 0⟩)
abbrev sRing : Stmt := inClass (top 2) 0
abbrev sMerged : Stmt := top 7
abbrev sLeast : Stmt := top 8
abbrev sWish : Stmt := top 9
abbrev sRingW : Stmt := top 10
abbrev sKeeps : Stmt := top 11
abbrev sIsRow : Stmt := top 12
abbrev sNamesIn : Stmt := top 13
abbrev sIsRing : Stmt := top 14
abbrev sIsWish : Stmt := top 15
abbrev sIsWhole : Stmt := top 4
abbrev sIsName : Stmt := top 5
abbrev sPot : Stmt := top 17
abbrev sDigit : Stmt := top 18
abbrev sNames : Stmt := top 19
abbrev sShuf : Stmt := top 20
abbrev sRows : Stmt := top 21
abbrev sTold : Stmt := top 22
abbrev sKept : Stmt := top 23
abbrev sLRing : Stmt := top 24
abbrev sLaw : Stmt := top 25
structure Blt (mg : Str → Option Value) : Prop where
  len : mg "len" = none
  max : mg "max" = none
  min : mg "min" = none
  abs : mg "abs" = none
  range : mg "range" = none
  any : mg "any" = none
  all : mg "all" = none
  list : mg "list" = none
  tuple : mg "tuple" = none
  enu : mg "enumerate" = none
theorem at0 {y : Str} {r : List Str} : atI ((y :: r).map V.str) 0 = some (V.str y) := (show atI ((y :: r).map V.str) ((0 : Nat) : Int) = some (V.str y) from atI_nat rfl)
theorem same_new {H : Hp} {q : Addr} {o : HO} (hq : H q = none) : Same H (upd H q o) := fun b u e => by rw [upd_ne (ne_of_none e hq)]; exact e
theorem for_enum {K : Frag} {a : Addr} {xs : List V} {g : TG} {tb : TS} {D : Ends} {σ : St} {H : Hp} (Pv : Nat → St → Hp → Prop) (h0 : Pv 0 σ H) (hl : ∀ i σ H, i ≤ xs.length → Pv i σ H → SqL K H a xs)
    (hs : ∀ i x σ H t, xs[i]? = some x → Pv i σ H → H t = none → g (.ref t) σ (upd H t (.tup [.int i, x])) fun σ2 H2 => tb { D with nx := Pv (i + 1), ct := Pv (i + 1), bk := D.nx } σ2 H2) (hd : ∀ σ H, Pv xs.length σ H → D.nx σ H) :
    ∃ W : Nat → Nat → St → Hp → Prop, (∃ m, W 0 m σ H) ∧ ∀ i m σ H, W i m σ H →
      ((Ite K a).stop i H ∧ D.nx σ H) ∨ ((Ite K a).go i H ∧ ∃ N : St → Hp → Prop, (∀ σ' H', N σ' H' → ∃ m', m' < m ∧ W (i + 1) m' σ' H') ∧ ∀ x H', (Ite K a).yld i H x H' → g x σ H' fun σ2 H2 => tb { D with nx := N, ct := N, bk := D.nx } σ2 H2) := by
  refine ⟨fun i m σ H => m = xs.length - i ∧ i ≤ xs.length ∧ Pv i σ H, ⟨xs.length, by simp, Nat.zero_le _, h0⟩, ?_⟩
  rintro i m σ H ⟨rfl, hi, p⟩
  have q := hl i σ H hi p
  by_cases hlt : i < xs.length
  · refine .inr ⟨⟨xs, xs[i], q, by simp [hlt]⟩, Pv (i + 1), fun σ' H' p' => ⟨xs.length - (i + 1), by omega, rfl, hlt, p'⟩, fun x H' y => ?_⟩
    obtain ⟨t, v, ht, rfl, hv, rfl⟩ := y
    exact hs i v σ _ t (hv xs q) p ht
  · have e : i = xs.length := by omega
    subst e
    exact .inl ⟨⟨xs, q, Nat.le_refl _⟩, hd σ H p⟩
section
variable {P : Program} {w : World} {K : Frag} {mg : Str → Option Value} {base : Heap} {f : Addr} {fd : FuncData}
@[irreducible] def spWish : Sp := fun vs H Q _ => ∃ (l : Addr) (ws : List V) (rows : List (List Str)) (n : Str), vs = [.ref l, .str n] ∧ H l = some (.lst ws) ∧ RowsV H ws rows ∧
  (wishFrom 0 rows n = none → ∀ H', Same H H' → Q .non H') ∧ (∀ i x, wishFrom 0 rows n = some (i, x) → ∀ p H', H p = none → Same H H' → H' p = some (.tup [.int i, .str x, .str n]) → Q (.ref p) H')
theorem scWish : FnScope ["rest", "name", "at", "row"] ["rest", "name"] (defScope sWish) := ⟨rfl, rfl, rfl, by decide +kernel, rfl, by decide +kernel, by decide +kernel⟩
theorem ok_wish (F : Fun K "wish_against" "wish_against" sWish f fd) (B : Blt mg) : FnOk P w K mg base CX0 1 f fd ["rest", "name"] spWish := by
  refine F.ok scWish (fun vs H Q E h => ?_) (fun cdv A outer s H vs Q E hr h => ?_)
  · unfold spWish at h; obtain ⟨l, ws, rows, n, rfl, _⟩ := h; rfl
  · unfold spWish at h
    obtain ⟨l, ws, rows, n, rfl, hl, hR, qn, qs⟩ := h
    refine ⟨_, pss_cons (ps_for PassesOwn.never rfl (pi_enum rfl B.enu (pa_cons (pv 0) pa_nil)) (pg_tup rfl (pgs_cons (pg_name (i := 2) scWish.nd rfl (Or.inl rfl)) (pgs_cons (pg_name (i := 3) scWish.nd rfl (Or.inl rfl)) pgs_nil)))
        (pss_one (ps_if (PW.pt (pw_and (pt_cmpR op_in_seq (pv 1) (pv 3) rfl) (pw_and1 (pt_cmpR op_ne (pe_ix ix_tup (pv 3) pe_int (fun _ _ => rfl)) (pv 1) (nomark _)))))
          (pss_one (ps_ret (pe_tup (pa_cons (pv 2) (pa_cons (pe_ix ix_tup (pv 3) pe_int (fun _ _ => rfl)) (pa_cons (pv 1) pa_nil)))))) pss_nil)))
      (pss_one (ps_ret pe_non)), ?_⟩
    refine ⟨_, rfl, l, rfl, ⟨_, SqL.of hl⟩, for_enum (xs := ws) (fun i σ H1 => ∃ v2 v3 : Option V, σ = [some (.ref l), some (.str n), v2, v3] ∧ Same H H1 ∧ wishFrom i (rows.drop i) n = wishFrom 0 rows n) ⟨none, none, rfl, Same.refl _, by simp⟩ (fun i σ H1 _ ⟨_, _, _, z, _⟩ => SqL.of (z _ _ hl)) ?_ ?_⟩
    · rintro i x σ H1 t hx ⟨v2, v3, rfl, S1, hw⟩ ht
      obtain ⟨a, r, rfl, hri, har⟩ := hR.get hx
      have S2 : Same H (upd H1 t (.tup [.int i, .ref a])) := S1.trans (same_new ht)
      have ha2 := S2 _ _ har
      have hdr : rows.drop i = r :: rows.drop (i + 1) := by
        have hi := (List.getElem?_eq_some_iff.mp hri)
        obtain ⟨hi1, rfl⟩ := hi
        exact List.drop_eq_getElem_cons hi1
      rw [hdr] at hw
      refine ⟨t, _, rfl, SqT.of upd_same, rfl, _, _, rfl, _, _, rfl, rfl, ?_⟩
      refine ⟨_, rfl, _, rfl, a, _, rfl, .inr (SqT.of ha2), rfl, flat_strs _, _, rfl, ?_⟩
      rw [if_neg Bool.false_ne_true, inV_strs]
      refine ite2 (fun hin => ?_) (fun hin => ?_)
      · have hin' : n ∈ r := by simpa using hin
        cases r with
        | nil => simp at hin'
        | cons y r =>
          refine ⟨_, rfl, a, _, 0, .str y, rfl, rfl, SqT.of ha2, at0, _, rfl, rfl, _, rfl, ?_⟩
          refine ite2 (fun hne => ?_) (fun hne => ?_)
          · have hne' : y ≠ n := fun z => by subst z; simp at hne
            refine ⟨_, rfl, _, rfl, a, _, 0, .str y, rfl, rfl, SqT.of ha2, at0, _, rfl, by show 3 ≤ sizeLine; rw [sizeLine_eq]; decide, fun p hp => ?_⟩
            rw [wishFrom_hit ⟨hin', hne'⟩] at hw
            exact qs i y hw.symm p _ (S2.free hp) (S2.trans (same_new hp)) upd_same
          · have hy : y = n := by
              by_cases z : y = n
              · exact z
              · exact absurd (by simp [z]) hne
            refine ⟨_, _, rfl, S2, ?_⟩
            rw [← hw, wishFrom_miss fun z => z.2 (by rw [hy]; rfl)]
      · refine ⟨_, _, rfl, S2, ?_⟩
        rw [← hw, wishFrom_miss fun z => hin (by simpa using z.1)]
    · rintro σ H1 ⟨v2, v3, rfl, S1, hw⟩
      rw [hR.length, List.drop_length] at hw
      exact qn hw.symm H1 S1
theorem wish_sp {l : Addr} {ws : List V} {rows : List (List Str)} {n : Str} {H : Hp} {Q : VK} {E : XK} (hl : H l = some (.lst ws)) (hR : RowsV H ws rows) (qn : wishFrom 0 rows n = none → ∀ H', Same H H' → Q .non H')
    (qs : ∀ i x, wishFrom 0 rows n = some (i, x) → ∀ p H', H p = none → Same H H' → H' p = some (.tup [.int i, .str x, .str n]) → Q (.ref p) H') : spWish [.ref l, .str n] H Q E := by
  unfold spWish; exact ⟨l, ws, rows, n, rfl, hl, hR, qn, qs⟩
end
end K11
namespace K11
open PySem L2 PySem.W
section
variable {P : Program} {w : World} {K : Frag} {mg : Str → Option Value} {base : Heap} {f : Addr} {fd : FuncData}
def optV : Option Str → V
  | none => .non
  | some n => .str n
@[irreducible] def spLeast : Sp := fun vs H Q _ => ∃ (l : Addr) (ws : List V) (rows : List (List Str)), vs = [.ref l] ∧ H l = some (.lst ws) ∧ RowsV H ws rows ∧ ∀ H', Same H H' → Q (optV (leastFree rows)) H'
theorem scLeast : FnScope ["rest", "row"] ["rest"] (defScope sLeast) := ⟨rfl, rfl, rfl, by decide +kernel, rfl, by decide +kernel, by decide +kernel⟩
theorem ok_least {fW : Addr} {fdW : FuncData} (F : Fun K "least_free" "least_free" sLeast f fd) (B : Blt mg) (FW : Fun K "wish_against" "wish_against" sWish fW fdW) (bW : Binds K fdW ["rest", "name"] []) (mW : mg "wish_against" = some (.ref fW)) :
    FnOk P w K mg base CX0 2 f fd ["rest"] spLeast := by
  have GW : FnOk P w K mg base CX0 1 fW fdW ["rest", "name"] spWish := ok_wish FW B
  refine F.ok scLeast (fun vs H Q E h => ?_) (fun cdv A outer s H vs Q E hr h => ?_)
  · unfold spLeast at h; obtain ⟨l, ws, rows, rfl, _⟩ := h; rfl
  · unfold spLeast at h
    obtain ⟨l, ws, rows, rfl, hl, hR, q⟩ := h
    have hr1 : Room 1 _ := hr
    refine ⟨_, pss_cons (ps_for PassesOwn.never rfl (pi_list (pv 0)) (pg_name (i := 1) scLeast.nd rfl (Or.inl rfl))
        (pss_one (ps_if (PW.pt (pw_and (pt_truth (pv 1) (fun _ => rfl)) (pw_and1 (pt_cmpR op_isN (pe_call GW hr1 rfl mW FW.kp bW .nil pass0 (pa_cons (pv 0) (pa_cons (pe_ix ix_tup (pv 1) pe_int (fun _ _ => rfl)) pa_nil))) pe_non (nomark _)))))
          (pss_one (ps_ret (pe_ix ix_tup (pv 1) pe_int (fun _ _ => rfl)))) pss_nil)))
      (pss_one (ps_ret pe_non)), ?_⟩
    refine ⟨_, rfl, l, rfl, ⟨_, SqL.of hl⟩, for_list (xs := ws) (fun i σ H1 => ∃ v1 : Option V, σ = [some (.ref l), v1] ∧ Same H H1 ∧ freeFrom rows (rows.drop i) = leastFree rows) ⟨none, rfl, Same.refl _, by simp [leastFree]⟩ (fun i σ H1 _ ⟨_, _, z, _⟩ => SqL.of (z _ _ hl)) ?_ ?_⟩
    · rintro i x σ H1 hx ⟨v1, rfl, S1, hw⟩
      obtain ⟨a, r, rfl, hri, har⟩ := hR.get hx
      have ha1 := S1 _ _ har
      have hdr : rows.drop i = r :: rows.drop (i + 1) := by
        obtain ⟨hi1, rfl⟩ := List.getElem?_eq_some_iff.mp hri
        exact List.drop_eq_getElem_cons hi1
      rw [hdr] at hw
      refine ⟨_, rfl, !(r.map V.str).isEmpty, .inr (.inl ⟨_, SqT.of ha1, rfl⟩), ?_⟩
      cases r with
      | nil => exact ⟨_, rfl, S1, hw⟩
      | cons y r =>
        have hw : (if (wishFrom 0 rows y).isNone then some y else freeFrom rows (rows.drop (i + 1))) = leastFree rows := hw
        refine ⟨_, rfl, _, rfl, a, _, 0, .str y, rfl, rfl, SqT.of ha1, at0, ?_⟩
        refine wish_sp (S1 _ _ hl) (hR.same S1) (fun en H2 S2 => ?_) (fun j z es p H2 hp S2 h2 => ?_)
        · refine ⟨rfl, _, rfl, ?_⟩
          refine ⟨_, rfl, a, _, 0, .str y, rfl, rfl, SqT.of (S2 _ _ ha1), at0, ?_⟩
          rw [en] at hw
          have e : leastFree rows = some y := hw.symm
          have := q H2 (S1.trans S2)
          rw [e] at this
          exact this
        · refine ⟨rfl, _, rfl, ?_⟩
          rw [es] at hw
          exact ⟨_, rfl, S1.trans S2, hw⟩
    · rintro σ H1 ⟨v1, rfl, S1, hw⟩
      rw [hR.length, List.drop_length] at hw
      have e : leastFree rows = none := hw.symm
      have := q H1 S1
      rw [e] at this
      exact this
theorem least_sp {l : Addr} {ws : List V} {rows : List (List Str)} {H : Hp} {Q : VK} {E : XK} (hl : H l = some (.lst ws)) (hR : RowsV H ws rows) (q : ∀ H', Same H H' → Q (optV (leastFree rows)) H') : spLeast [.ref l] H Q E := by
  unfold spLeast; exact ⟨l, ws, rows, rfl, hl, hR, q⟩
end
end K11
namespace K11
open PySem L2 PySem.W
theorem nm_leaves {x : Str} (h : Nm x) : (x.cps.toList.all fun c => decide (c < 16 ^ 8)) = true := by
  rw [List.all_eq_true]; intro c hc; have := (h.az c hc).2; exact decide_eq_true (by omega)
/-- a wish on the heap -/
def WishV (H : Hp) (v : V) : Prop := ∃ (a : Addr) (i : Nat) (x n : Str), v = .ref a ∧ H a = some (.tup [.int i, .str x, .str n]) ∧ i < 10 ∧ Nm x ∧ Nm n
theorem WishV.same {H H' : Hp} {v : V} (h : WishV H v) (s : Same H H') : WishV H' v := let ⟨a, i, x, n, e, q, r⟩ := h; ⟨a, i, x, n, e, s _ _ q, r⟩
theorem small_int : ∀ i : Nat, i < 10 → PyData.leavesShort 13 (.int i) = true ∧ PyData.showable (.int i) = true := by decide +kernel
theorem wishes_data {H : Hp} : ∀ {vs : List V}, (∀ v ∈ vs, WishV H v) → ∃ ds, RepAll H vs ds ∧ PyData.showableAll ds = true ∧ PyData.hasDictAll ds = false ∧ PyData.depthAll ds ≤ 1 ∧ PyData.leavesShortAll 13 ds = true ∧ PyData.bulkAll ds ≤ 25 * vs.length
  | [], _ => ⟨[], .nil, rfl, rfl, Nat.zero_le _, rfl, Nat.zero_le _⟩
  | v :: vs, h => by
    obtain ⟨ds, h1, h2, h3, h4, h5, h6⟩ := wishes_data (vs := vs) fun u hu => h u (List.mem_cons_of_mem _ hu)
    obtain ⟨a, i, x, n, rfl, ha, hi, hx, hn⟩ := h v List.mem_cons_self
    obtain ⟨s1, s2⟩ := small_int i hi
    have s1' : PyData.leavesShort 13 (.int (i : Int)) = true := s1
    have s2' : PyData.showable (.int (i : Int)) = true := s2
    have z1 : x.cps.size ≤ 8 := hx.hi
    have z2 : n.cps.size ≤ 8 := hn.hi
    refine ⟨.tuple [.int i, .str x, .str n] :: ds, .cons (.tup ha (.cons (.int _) (.cons (.str _) (.cons (.str _) .nil)))) h1, ?_, ?_, ?_, ?_, ?_⟩
    · simp only [PyData.showableAll, PyData.showable, h2, Bool.and_true]
      simpa [PyData.showable] using s2'
    · simp only [PyData.hasDictAll, PyData.hasDict, h3, Bool.or_false]
    · simp only [PyData.depthAll, PyData.depth]; omega
    · simp only [PyData.leavesShortAll, PyData.leavesShort, h5, nm_leaves hx, nm_leaves hn, Bool.and_true]
      simpa [PyData.leavesShort] using s1'
    · simp only [PyData.bulkAll, PyData.bulk, List.length_cons]; omega
theorem wishes_fmt {H : Hp} {p : Addr} {vs : List V} (hp : H p = some (.tup vs)) (h : ∀ v ∈ vs, WishV H v) (few : vs.length ≤ 100) : FmtOk H (.ref p) := by
  obtain ⟨ds, h1, h2, h3, h4, h5, h6⟩ := wishes_data h
  refine .inr (.inr ⟨p, .tuple ds, rfl, .tup hp h1, h2, h3, ?_, ?_⟩)
  · simp only [PyData.depth]; omega
  · have := PyData.shown_le_bulk 13 (by decide) (.tuple ds) h5
    simp only [PyData.bulk] at this
    omega
/-- the names that head a row -/
def heads (rows : List (List Str)) : List Str := rows.filterMap List.head?
theorem heads_len (rows : List (List Str)) : (heads rows).length ≤ rows.length := List.length_filterMap_le _ _
theorem mem_heads {rows : List (List Str)} {n : Str} : n ∈ heads rows ↔ ∃ r ∈ rows, r.head? = some n := by
  unfold heads; rw [List.mem_filterMap]
/-- a wish's first name heads a row; the row is one of them -/
theorem wishFrom_at : ∀ {rows : List (List Str)} {k : Nat} {n : Str} {i : Nat} {x : Str}, wishFrom k rows n = some (i, x) → k ≤ i ∧ i < k + rows.length ∧ x ∈ heads rows
  | [], k, n, i, x, h => by cases h
  | [] :: rest, k, n, i, x, h => by
    obtain ⟨h1, h2, h3⟩ := wishFrom_at (rows := rest) (k := k + 1) (n := n) h
    refine ⟨by omega, by simp only [List.length_cons]; omega, ?_⟩
    obtain ⟨r, hr, e⟩ := mem_heads.mp h3
    exact mem_heads.mpr ⟨r, List.mem_cons_of_mem _ hr, e⟩
  | (y :: r) :: rest, k, n, i, x, h => by
    have h : (if n ∈ y :: r ∧ y ≠ n then some (k, y) else wishFrom (k + 1) rest n) = some (i, x) := h
    split at h
    · cases h
      exact ⟨Nat.le_refl _, by simp only [List.length_cons]; omega, mem_heads.mpr ⟨_ :: r, List.mem_cons_self, rfl⟩⟩
    · obtain ⟨h1, h2, h3⟩ := wishFrom_at (rows := rest) (k := k + 1) (n := n) h
      refine ⟨by omega, by simp only [List.length_cons]; omega, ?_⟩
      obtain ⟨r', hr, e⟩ := mem_heads.mp h3
      exact mem_heads.mpr ⟨r', List.mem_cons_of_mem _ hr, e⟩
theorem freeFrom_none {all : List (List Str)} : ∀ {rest : List (List Str)}, freeFrom all rest = none → ∀ n ∈ heads rest, wishFrom 0 all n ≠ none
  | [], _, n, hn => by simp [heads] at hn
  | [] :: rest, h, n, hn => freeFrom_none (rest := rest) h n hn
  | (y :: r) :: rest, h, n, hn => by
    have h : (if (wishFrom 0 all y).isNone then some y else freeFrom all rest) = none := h
    split at h
    · cases h
    next hy =>
      have hn : n ∈ y :: heads rest := hn
      rcases List.mem_cons.mp hn with rfl | hn
      · intro z; rw [z] at hy; exact hy rfl
      · exact freeFrom_none h n hn
end K11
/-! ### rings, pure -/
namespace K11
open PySem L2 PySem.W
abbrev Wi := Nat × Str × Str
def walkR (rows : List (List Str)) : Nat → Str → List Str → List Wi → List Wi
  | 0, _, _, _ => []
  | k + 1, nm, ps, ws => if nm ∈ ps then (ws.drop (ps.idxOf nm)).reverse else
    match wishFrom 0 rows nm with
    | some (i, x) => walkR rows k x (ps ++ [nm]) (ws ++ [(i, x, nm)])
    | none => []
def ringOf (rows : List (List Str)) : List Wi := walkR rows (rows.length + 1) ((heads rows).headD "") [] []
structure RingP (At : Wi → Prop) (most : Nat) (W : List Wi) : Prop where
  len : 2 ≤ W.length
  few : W.length ≤ most
  at_ : ∀ w ∈ W, At w
  turn : (W.map (·.2.1)).drop 1 ++ (W.map (·.2.1)).take 1 = W.map (·.2.2)
  nd : (W.map (·.2.1)).Nodup
def WishAt (rows : List (List Str)) (w : Wi) : Prop := ∃ r, rows[w.1]? = some (w.2.1 :: r) ∧ w.2.2 ∈ r ∧ w.2.1 ≠ w.2.2
theorem wishFrom_is : ∀ {rows : List (List Str)} {k : Nat} {n : Str} {i : Nat} {x : Str}, wishFrom k rows n = some (i, x) → ∃ j r, i = k + j ∧ rows[j]? = some (x :: r) ∧ n ∈ r ∧ x ≠ n
  | [], k, n, i, x, h => by cases h
  | [] :: rest, k, n, i, x, h => by
    obtain ⟨j, r, h1, h2, h3⟩ := wishFrom_is (rows := rest) (k := k + 1) (n := n) h
    exact ⟨j + 1, r, by omega, by simpa using h2, h3⟩
  | (y :: r) :: rest, k, n, i, x, h => by
    have h : (if n ∈ y :: r ∧ y ≠ n then some (k, y) else wishFrom (k + 1) rest n) = some (i, x) := h
    split at h
    next c =>
      cases h
      refine ⟨0, r, rfl, rfl, ?_, c.2⟩
      rcases List.mem_cons.mp c.1 with z | z
      · exact absurd z.symm c.2
      · exact z
    · obtain ⟨j, r', h1, h2, h3⟩ := wishFrom_is (rows := rest) (k := k + 1) (n := n) h
      exact ⟨j + 1, r', by omega, by simpa using h2, h3⟩
theorem few_in {ps hs : List Str} (nd : ps.Nodup) (h : ∀ n ∈ ps, n ∈ hs) : ps.length ≤ hs.length := by
  by_cases z : ps.length ≤ hs.length
  · exact z
  · obtain ⟨y, hy, hn⟩ := pigeon (found := hs) nd (by omega)
    exact absurd (h y hy) hn
theorem walk_ring {rows : List (List Str)} (hF : leastFree rows = none) : ∀ {k : Nat} {nm : Str} {ps : List Str} {ws : List Wi}, nm ∈ heads rows → (∀ n ∈ ps, n ∈ heads rows) → ps.Nodup → (∀ w ∈ ws, WishAt rows w) → ws.map (·.2.2) = ps → ws.map (·.2.1) = (ps ++ [nm]).tail →
    k + ps.length = rows.length + 1 → RingP (WishAt rows) rows.length (walkR rows k nm ps ws)
  | 0, nm, ps, ws, hn, hp, nd, hw, e1, e2, hk => by
    have := few_in nd hp
    have := heads_len rows
    omega
  | k + 1, nm, ps, ws, hn, hp, nd, hw, e1, e2, hk => by
    unfold walkR
    by_cases c : nm ∈ ps
    · rw [if_pos c]
      have hj : ps.idxOf nm < ps.length := List.idxOf_lt_length_iff.mpr c
      obtain ⟨j, hj'⟩ : ∃ j, ps.idxOf nm = j := ⟨_, rfl⟩
      have hpj : ps[j]? = some nm := by rw [← hj']; rw [List.getElem?_eq_getElem hj]; exact congrArg some (List.getElem_idxOf hj)
      rw [hj'] at hj ⊢
      have d1 : ps.drop j = nm :: ps.drop (j + 1) := by
        rw [List.drop_eq_getElem_cons hj]
        rw [List.getElem?_eq_getElem hj] at hpj
        rw [Option.some.inj hpj]
      generalize ht : ps.drop (j + 1) = t at d1
      have f2 : (ws.drop j).map (·.2.2) = nm :: t := by rw [List.map_drop, e1, d1]
      have f1 : (ws.drop j).map (·.2.1) = t ++ [nm] := by
        rw [List.map_drop, e2, ← List.drop_one, List.drop_drop, Nat.add_comm 1 j, List.drop_append_of_le_length (by omega), ht]
      have ndt : (nm :: t).Nodup := by rw [← d1]; exact nd.sublist (List.drop_sublist _ _)
      have l1 : (ws.drop j).length = t.length + 1 := by
        have := congrArg List.length f2
        rwa [List.length_map, List.length_cons] at this
      have sub : ∀ w ∈ ws.drop j, WishAt rows w := fun w h => hw w (List.mem_of_mem_drop h)
      generalize ws.drop j = U at f1 f2 l1 sub
      have tne : t ≠ [] := by
        rintro rfl
        match U, f1, f2, sub with
        | [w], f1, f2, sub =>
          obtain ⟨r, _, _, ne⟩ := sub w List.mem_cons_self
          have g1 : w.2.1 = nm := by simpa using f1
          have g2 : w.2.2 = nm := by simpa using f2
          exact ne (g1.trans g2.symm)
      have tl : 1 ≤ t.length := List.length_pos_iff.mpr tne
      refine ⟨by rw [List.length_reverse]; omega, ?_, fun w h => sub w (List.mem_reverse.mp h), ?_, ?_⟩
      · have q1 := few_in ndt (hs := heads rows) fun n h => by
          rw [← d1] at h; exact hp n (List.mem_of_mem_drop h)
        have q2 := heads_len rows
        rw [List.length_cons] at q1
        rw [List.length_reverse]; omega
      · rw [List.map_reverse, List.map_reverse, f1, f2]; simp
      · rw [List.map_reverse, f1]
        rw [List.reverse_append]; exact List.nodup_cons.mpr ⟨fun z => (List.nodup_cons.mp ndt).1 (List.mem_reverse.mp z), (List.reverse_perm t).nodup_iff.mpr (List.nodup_cons.mp ndt).2⟩
    · rw [if_neg c]
      have nn : wishFrom 0 rows nm ≠ none := freeFrom_none hF nm hn
      cases e : wishFrom 0 rows nm with
      | none => exact absurd e nn
      | some w =>
        obtain ⟨i, x⟩ := w
        obtain ⟨j, r, hi, hr, hnr, ne⟩ := wishFrom_is e
        have ij : i = j := by omega
        subst ij
        refine walk_ring hF (mem_heads.mpr ⟨_, List.mem_of_getElem? hr, rfl⟩) (fun n h => ?_) ?_ (fun w h => ?_) ?_ ?_ ?_
        · rcases List.mem_append.mp h with h | h
          · exact hp n h
          · rw [List.mem_singleton.mp h]; exact hn
        · rw [List.nodup_append]
          exact ⟨nd, by simp, fun a ha b hb => by rw [List.mem_singleton.mp hb]; exact fun z => c (z ▸ ha)⟩
        · rcases List.mem_append.mp h with h | h
          · exact hw w h
          · rw [List.mem_singleton.mp h]; exact ⟨r, hr, hnr, ne⟩
        · rw [List.map_append, e1]; rfl
        · rw [List.map_append, e2]
          cases ps with
          | nil => rfl
          | cons y ps => simp
        · rw [List.length_append, List.length_singleton]; omega
theorem ring_of {rows : List (List Str)} (hF : leastFree rows = none) (hA : (rows.any fun r => !r.isEmpty) = true) : RingP (WishAt rows) rows.length (ringOf rows) := by
  unfold ringOf
  have : (heads rows).headD "" ∈ heads rows := by
    obtain ⟨r, hr, e⟩ := List.any_eq_true.mp hA
    cases r with
    | nil => simp at e
    | cons y r =>
      have : y ∈ heads rows := mem_heads.mpr ⟨_, hr, rfl⟩
      cases q : heads rows with
      | nil => rw [q] at this; simp at this
      | cons a t => exact List.mem_cons_self
  exact walk_ring hF this (by simp) List.nodup_nil (by simp) rfl rfl (by simp)
/-! ### the same ring in the rows as they were -/
def WishIn (rows : List (List Str)) (w : Wi) : Prop := ∃ pre post, rows[w.1]? = some (pre ++ w.2.1 :: post) ∧ w.2.2 ∈ post ∧ w.2.1 ∉ pre ∧ w.2.2 ∉ pre ∧ w.2.1 ≠ w.2.2
def Cut (rows rest : List (List Str)) : Prop := rest.length = rows.length ∧ ∀ (i : Nat) (r : List Str), rest[i]? = some r → ∃ (r0 : List Str) (p : Str → Bool), rows[i]? = some r0 ∧ r = r0.filter p
theorem Cut.refl (rows : List (List Str)) : Cut rows rows := ⟨rfl, fun i r e => ⟨r, fun _ => true, e, (List.filter_eq_self.mpr fun _ _ => rfl).symm⟩⟩
theorem Cut.without {rows rest : List (List Str)} (h : Cut rows rest) (n : Str) : Cut rows (L2.without n rest) := by
  refine ⟨by unfold L2.without; rw [List.length_map]; exact h.1, fun i r e => ?_⟩
  unfold L2.without at e
  rw [List.getElem?_map] at e
  obtain ⟨q, hq, rfl⟩ := Option.map_eq_some_iff.mp e
  obtain ⟨r0, p, h0, rfl⟩ := h.2 i q hq
  exact ⟨r0, _, h0, by rw [List.filter_filter]⟩
theorem Cut.wish {rows rest : List (List Str)} (h : Cut rows rest) {w : Wi} (q : WishAt rest w) : WishIn rows w := by
  obtain ⟨r, hr, hn, ne⟩ := q
  obtain ⟨r0, p, h0, e⟩ := h.2 _ _ hr
  obtain ⟨l1, l2, rfl, a1, a2, a3⟩ := List.filter_eq_cons_iff.mp e.symm
  have hn2 : w.2.2 ∈ l2 ∧ p w.2.2 = true := by rw [← a3] at hn; exact List.mem_filter.mp hn
  exact ⟨l1, l2, h0, hn2.1, fun z => a1 _ z a2, fun z => a1 _ z hn2.2, ne⟩
theorem RingP.imp {At At' : Wi → Prop} {m : Nat} {W : List Wi} (h : RingP At m W) (f : ∀ w, At w → At' w) : RingP At' m W := ⟨h.len, h.few, fun w q => f w (h.at_ w q), h.turn, h.nd⟩
/-- what is left where no name is free -/
def stuckG : Nat → List (List Str) → List (List Str)
  | 0, rest => rest
  | k + 1, rest => match leastFree rest with
    | some n => stuckG k (L2.without n rest)
    | none => rest
theorem stuck_some {k : Nat} {rest : List (List Str)} {n : Str} (h : leastFree rest = some n) : stuckG (k + 1) rest = stuckG k (L2.without n rest) := by
  show (match leastFree rest with | some n => _ | none => _) = _
  rw [h]
theorem stuck_none {k : Nat} {rest : List (List Str)} (h : leastFree rest = none) : stuckG k rest = rest := by
  cases k with
  | zero => rfl
  | succ k => show (match leastFree rest with | some n => _ | none => _) = _; rw [h]
def ringG (rows : List (List Str)) : List Wi := ringOf (stuckG 1000 rows)
theorem walk_on {rows : List (List Str)} {k : Nat} {nm x : Str} {ps : List Str} {W : List Wi} {j : Nat} (h : nm ∉ ps) (e : wishFrom 0 rows nm = some (j, x)) : walkR rows (k + 1) nm ps W = walkR rows k x (ps ++ [nm]) (W ++ [(j, x, nm)]) := by
  rw [walkR, if_neg h, e]
theorem walk_end {rows : List (List Str)} {k : Nat} {nm : Str} {ps : List Str} {W : List Wi} (h : nm ∈ ps) : walkR rows (k + 1) nm ps W = (W.drop (ps.idxOf nm)).reverse := by
  rw [walkR, if_pos h]
theorem idx_first : ∀ {ps : List Str} {n : Str} {j : Nat}, ps[j]? = some n → (∀ m : Nat, m < j → ps[m]? ≠ some n) → ps.idxOf n = j
  | [], n, j, h, _ => by simp at h
  | x :: ps, n, 0, h, _ => by
    have : x = n := by simpa using h
    rw [this]; exact List.idxOf_cons_self
  | x :: ps, n, j + 1, h, q => by
    have ne : x ≠ n := fun z => q 0 (by omega) (by simp [z])
    rw [List.idxOf_cons, show (x == n) = false from beq_eq_false_iff_ne.mpr ne, cond_false, idx_first (j := j) (by simpa using h) fun m hm => by simpa using q (m + 1) (by omega)]
/-! ### wishes on the heap -/
def WsV (H : Hp) : List V → List Wi → Prop := Paired fun v w => ∃ a, v = V.ref a ∧ H a = some (.tup [.int w.1, .str w.2.1, .str w.2.2])
theorem ws_append {H : Hp} {vs : List V} {W : List Wi} {v : V} {w : Wi} (h : WsV H vs W) (q : ∃ a, v = V.ref a ∧ H a = some (.tup [.int w.1, .str w.2.1, .str w.2.2])) : WsV H (vs ++ [v]) (W ++ [w]) := by
  induction h with
  | nil => exact .cons q .nil
  | cons p _ ih => exact .cons p ih
theorem ws_drop {H : Hp} {vs : List V} {W : List Wi} {j : Nat} (h : WsV H vs W) : WsV H (vs.drop j) (W.drop j) := by
  induction h generalizing j with
  | nil => simp; exact .nil
  | cons p t ih =>
    cases j with
    | zero => exact .cons p t
    | succ j => exact ih
theorem ws_rev {H : Hp} {vs : List V} {W : List Wi} (h : WsV H vs W) : WsV H vs.reverse W.reverse := by
  induction h with
  | nil => exact .nil
  | cons p t ih => rw [List.reverse_cons, List.reverse_cons]; exact ws_append ih p
theorem WsV.same {H H' : Hp} {vs : List V} {W : List Wi} (h : WsV H vs W) (s : Same H H') : WsV H' vs W := Paired.imp' (fun v w ⟨a, e, q⟩ => ⟨a, e, s _ _ q⟩) h
theorem cut_from (xs : List V) (k : Nat) : cutV xs (some (k : Int)) none = xs.drop k := by
  unfold cutV; rw [HT.sIx_none, HT.sIx_nat]
  by_cases h : k ≤ xs.length
  · rw [Nat.min_eq_left h, List.take_of_length_le (by rw [List.length_drop]; omega)]
  · rw [Nat.min_eq_right (by omega), List.drop_length, List.drop_of_length_le (by omega)]; simp
theorem cut_to (xs : List V) (k : Nat) : cutV xs none (some (k : Int)) = xs.take k := by
  unfold cutV; rw [HT.sIx_none, HT.sIx_nat]
  by_cases h : k ≤ xs.length
  · rw [Nat.min_eq_left h]; simp
  · rw [Nat.min_eq_right (by omega)]; simp; rw [List.take_of_length_le (by omega)]
end K11
namespace K11
open PySem L2 PySem.W
theorem pt_truth_K {X : Cx} {a : Expr} {ta : TE} (K : Frag) (h : X.K = K) (ha : PE X a ta) (he : ∀ whole, isTrue a X.env whole = (do let v ← whole; standAt a.pos; holding [v] (truthy v))) :
    PT X a (fun σ H Q => ta σ H fun x H' => ∃ k, TruV K x H' k ∧ Q k H') := by subst h; exact pt_truth ha he
def forBody (s : Stmt) : List Stmt := match s with | .For _ _ b _ _ => b | _ => []
def whileBody (s : Stmt) : List Stmt := match s with | .While _ b _ _ => b | _ => []
def bodyAt (l : List Stmt) (i : Nat) : Stmt := l.getD i (.Pass ⟨0, 0, 0, 0⟩)
def asgV (s : Stmt) : Expr := match s with | .Assign _ v _ => v | _ => .Constant .none 0 ⟨0, 0, 0, 0⟩
def retV (s : Stmt) : Expr := match s with | .Return (some v) _ => v | _ => .Constant .none 0 ⟨0, 0, 0, 0⟩
def arg0 (e : Expr) : Expr := match e with | .Call _ (a :: _) _ _ => a | _ => .Constant .none 0 ⟨0, 0, 0, 0⟩
def subV (e : Expr) : Expr := match e with | .Subscript a _ _ => a | _ => .Constant .none 0 ⟨0, 0, 0, 0⟩
def eltOf (e : Expr) : Expr := match e with | .ListComp x _ _ _ => x | _ => .Constant .none 0 ⟨0, 0, 0, 0⟩
def compSc (e : Expr) : Scope := match e with | .ListComp _ _ sc _ => sc | _ => { kind := .function, names := [], isGenerator := false, isCoroutine := false }
theorem boot_tuple : bootBuiltins "tuple" = some (.type "tuple") := by decide +kernel
theorem boot_list : bootBuiltins "list" = some (.type "list") := by decide +kernel
section
variable {P : Program} {w : World} {K : Frag} {mg : Str → Option Value} {base : Heap} {f : Addr} {fd : FuncData}
/-- small rows of names -/
structure Small (rows : List (List Str)) : Prop where
  few : rows.length ≤ 10
  short : ∀ r ∈ rows, r.length ≤ 20
  nm : ∀ r ∈ rows, ∀ n ∈ r, Nm n
theorem Small.head {rows : List (List Str)} (S : Small rows) {n : Str} (h : n ∈ heads rows) : Nm n := by
  obtain ⟨r, hr, e⟩ := mem_heads.mp h
  exact S.nm r hr n (List.mem_of_head? e)
@[irreducible] def spRingW : Sp := fun vs H Q _ => ∃ (l : Addr) (ws : List V) (rows : List (List Str)), vs = [.ref l] ∧ H l = some (.lst ws) ∧ RowsV H ws rows ∧ Small rows ∧ leastFree rows = none ∧ (rows.any fun r => !r.isEmpty) = true ∧
  ∀ p vs H', Same H H' → H p = none → H' p = some (.tup vs) → WsV H' vs (ringOf rows) → FmtOk H' (.ref p) → Q (.ref p) H'
abbrev nRingW : List Str := ["rest", "name", "passed", "wishes", "wish", "around"]
theorem scRingW : FnScope nRingW ["rest"] (defScope sRingW) := ⟨rfl, rfl, rfl, by decide +kernel, rfl, by decide +kernel, by decide +kernel⟩
abbrev scR1 : Scope := compSc (subV (asgV (bodyAt (defBody sRingW) 0)))
theorem csR1 : CompScope nRingW (defScope sRingW) ["row"] [none] scR1 := ⟨rfl, by decide +kernel, by decide +kernel, rfl, fv_of (by decide +kernel), by decide +kernel⟩
theorem heads_cons (rows : List (List Str)) (h : (rows.any fun r => !r.isEmpty) = true) : ∃ x t, heads rows = x :: t := by
  obtain ⟨r, hr, e⟩ := List.any_eq_true.mp h
  cases r with
  | nil => simp at e
  | cons y r =>
    have : y ∈ heads rows := mem_heads.mpr ⟨_, hr, rfl⟩
    cases q : heads rows with
    | nil => rw [q] at this; simp at this
    | cons a t => exact ⟨a, t, rfl⟩
theorem first_at : ∀ {ps : List Str} {n : Str}, n ∈ ps → ∃ j : Nat, ps[j]? = some n ∧ ∀ m : Nat, m < j → ps[m]? ≠ some n
  | [], n, h => by simp at h
  | x :: ps, n, h => by
    by_cases e : x = n
    · exact ⟨0, by rw [e]; rfl, fun m hm => by omega⟩
    · have h' : n ∈ ps := by
        rcases List.mem_cons.mp h with z | z
        · exact absurd z.symm e
        · exact z
      obtain ⟨j, h1, h2⟩ := first_at h'
      refine ⟨j + 1, by simpa using h1, fun m hm => ?_⟩
      cases m with
      | zero => simpa using e
      | succ m => simpa using h2 m (by omega)
/-- the walk's word -/
structure RingInv (H : Hp) (rows : List (List Str)) (l pa wa : Addr) (m : Nat) (σ : St) (H1 : Hp) (nm : Str) (ps : List Str) (wv : List V) (W : List Wi) : Prop where
  st : ∃ v4 : Option V, σ = [some (.ref l), some (.str nm), some (.ref pa), some (.ref wa), v4, none]
  mm : m = rows.length - ps.length
  hn : nm ∈ heads rows
  hp : ∀ n ∈ ps, n ∈ heads rows
  nd : ps.Nodup
  pa : H1 pa = some (.lst (ps.map V.str))
  wa : H1 wa = some (.lst wv)
  ln : wv.length = ps.length
  wvs : ∀ v ∈ wv, WishV H1 v
  sm : Same H H1
  pw : WsV H1 wv W
  eq : walkR rows (rows.length + 1 - ps.length) nm ps W = ringOf rows
theorem few_of {ps hs : List Str} (nd : ps.Nodup) (h : ∀ n ∈ ps, n ∈ hs) : ps.length ≤ hs.length := by
  by_cases z : ps.length ≤ hs.length
  · exact z
  · obtain ⟨y, hy, hn⟩ := pigeon (found := hs) nd (by omega)
    exact absurd (h y hy) hn
theorem ok_ringw {fW : Addr} {fdW : FuncData} (F : Fun K "ring_within" "ring_within" sRingW f fd) (B : Blt mg) (FW : Fun K "wish_against" "wish_against" sWish fW fdW) (bW : Binds K fdW ["rest", "name"] []) (mW : mg "wish_against" = some (.ref fW)) :
    FnOk P w K mg base CX0 2 f fd ["rest"] spRingW := by
  have GW : FnOk P w K mg base CX0 1 fW fdW ["rest", "name"] spWish := ok_wish FW B
  refine F.ok scRingW (fun vs H Q E h => ?_) (fun cdv A outer s H vs Q E hr h => ?_)
  · unfold spRingW at h; obtain ⟨l, ws, rows, rfl, _⟩ := h; rfl
  · unfold spRingW at h
    obtain ⟨l, ws, rows, rfl, hl, hR, hS, hF, hA, q⟩ := h
    have hr1 : Room 1 _ := hr
    refine ⟨_, pss_cons (ps_set (i := 1) scRingW.nd rfl (Or.inl rfl) (pe_ix ix_list (pe_comp rfl csR1 (pi_list (pv 0)) (fun s H fp => ⟨pg_name (i := 0) csR1.nd rfl (Or.inl rfl), pifs_one (pt_truth_K K rfl (pv 0) (fun _ => rfl)), pe_ix (ix_tup_K K rfl) (pv 0) pe_int (fun _ _ => rfl)⟩)) pe_int (fun _ _ => rfl)))
      (pss_cons (ps_set (i := 2) scRingW.nd rfl (Or.inl rfl) (pe_lst pa_nil))
      (pss_cons (ps_set (i := 3) scRingW.nd rfl (Or.inl rfl) (pe_lst pa_nil))
      (pss_cons (ps_while PassesOwn.never (pt_cmpR op_notIn_seq (pv 1) (pv 2) rfl)
        (pss_cons (ps_expr (pe_bm PySem.F.plainAttrs_list PySem.F.slot_list_append PySem.F.type_list_append mt_append (pv 2) (pa_cons (pv 1) pa_nil)))
        (pss_cons (ps_set (i := 4) scRingW.nd rfl (Or.inl rfl) (pe_call GW hr1 rfl mW FW.kp bW .nil pass0 (pa_cons (pv 0) (pa_cons (pv 1) pa_nil))))
        (pss_cons (ps_expr (pe_bm PySem.F.plainAttrs_list PySem.F.slot_list_append PySem.F.type_list_append mt_append (pv 3) (pa_cons (pv 4) pa_nil)))
        (pss_one (ps_set (i := 1) scRingW.nd rfl (Or.inl rfl) (pe_ix ix_tup (pv 4) pe_int (fun _ _ => rfl))))))))
      (pss_cons (ps_set (i := 5) scRingW.nd rfl (Or.inl rfl) (pe_slice sl_list (pv 3) (po_some (pe_bm PySem.F.plainAttrs_list PySem.F.slot_list_index PySem.F.type_list_index mt_index (pv 2) (pa_cons (pv 1) pa_nil))) po_none))
      (pss_one (ps_ret (pe_callTy call_tuple_of rfl B.tuple boot_tuple (pa_cons (pe_rev (pv 5)) pa_nil)))))))), ?_⟩
    refine ⟨_, rfl, l, rfl, ⟨_, SqL.of hl⟩, fun a1 ha1 => ?_⟩
    refine comp_list (xs := ws) (fun i zs τ H1 => ∃ t0 : Option V, zs = (heads (rows.take i)).map V.str ∧ τ = [t0] ∧ H1 = upd H a1 (.lst zs)) ⟨none, rfl, rfl, rfl⟩ (fun i zs τ H1 ⟨_, _, _, z⟩ => by rw [z]; exact ⟨upd_same, SqL.of (by rw [upd_ne (ne_of_none hl ha1)]; exact hl)⟩) ?_ ?_
    · rintro i x zs τ H1 hx ⟨t0, rfl, rfl, rfl⟩
      obtain ⟨a, r, rfl, hri, har⟩ := hR.get hx
      have hlt : i < ws.length := (List.getElem?_eq_some_iff.mp hx).1
      have ha2 : (upd H a1 (.lst ((heads (rows.take i)).map V.str))) a = some (.tup (r.map V.str)) := by rw [upd_ne (ne_of_none har ha1)]; exact har
      have tk : rows.take (i + 1) = rows.take i ++ [r] := by rw [List.take_succ, hri]; rfl
      refine ⟨_, rfl, !(r.map V.str).isEmpty, .inr (.inl ⟨_, SqT.of ha2, rfl⟩), ?_⟩
      cases r with
      | nil => exact cw_next hlt ⟨_, by rw [tk]; simp [heads], rfl, rfl⟩
      | cons y r =>
        refine ⟨_, rfl, a, _, 0, .str y, rfl, rfl, SqT.of ha2, at0, upd_same, ?_, cw_next hlt ⟨_, ?_, rfl, by rw [upd_upd]⟩⟩
        · have h1 := heads_len (rows.take i)
          have h2 : (rows.take i).length ≤ rows.length := by rw [List.length_take]; omega
          have h3 := hS.few
          rw [List.length_map, sizeLine_eq]; omega
        · rw [tk]; simp [heads]
    · rintro zs τ H1 ⟨t0, rfl, rfl, rfl⟩
      rw [hR.length, List.take_length]
      obtain ⟨x0, ht, hx0⟩ := heads_cons rows hA
      rw [hx0]
      refine ⟨a1, _, 0, .str x0, rfl, rfl, SqL.of upd_same, at0, ?_⟩
      have S0 := same_new (o := .lst ((x0 :: ht).map V.str)) ha1
      refine ⟨Nat.zero_le _, fun pa hpa => ⟨Nat.zero_le _, fun wa hwa => ?_⟩⟩
      have S1 := S0.trans (same_new (o := .lst []) hpa)
      have S2 := S1.trans (same_new (o := .lst []) hwa)
      have hpaH : H pa = none := S0.free hpa
      have hwaH : H wa = none := S1.free hwa
      have npw : pa ≠ wa := ne_of_none upd_same hwa
      refine ⟨fun m σ H1 => ∃ nm ps wv W, RingInv H rows l pa wa m σ H1 nm ps wv W, ⟨_, x0, [], [], [], ⟨none, rfl⟩, rfl, by rw [hx0]; exact List.mem_cons_self, (fun n hn => by simp at hn), List.nodup_nil, by rw [upd_ne npw]; exact upd_same, upd_same, rfl, (fun v hv => by simp at hv), S2, .nil, by unfold ringOf; rw [hx0]; rfl⟩, ?_⟩
      rintro m σ H1 ⟨nm, ps, wv, W, R⟩
      obtain ⟨v4, rfl⟩ := R.st
      have len1 : ps.length ≤ 10 := by
        have h1 := few_of R.nd R.hp
        have h2 := heads_len rows
        have h3 := hS.few
        omega
      refine ⟨_, rfl, _, rfl, pa, _, rfl, .inl (SqL.of R.pa), rfl, flat_strs _, _, rfl, ?_⟩
      rw [if_pos rfl, inV_strs]
      refine ite2 (fun hn => ?_) (fun hn => ?_)
      · have hn' : nm ∉ ps := by simpa using hn
        have nd1 : (nm :: ps).Nodup := List.nodup_cons.mpr ⟨hn', R.nd⟩
        have lenR : (nm :: ps).length ≤ rows.length := Nat.le_trans (few_of nd1 fun n z => by
          rcases List.mem_cons.mp z with rfl | z
          · exact R.hn
          · exact R.hp n z) (heads_len rows)
        refine ⟨fun σ' H' => ∃ m', m' < m ∧ ∃ nm ps wv W, RingInv H rows l pa wa m' σ' H' nm ps wv W, fun _ _ z => z, ?_⟩
        refine ⟨_, rfl, .inl ⟨rfl, _, SqL.of R.pa⟩, _, rfl, pa, _, _, rfl, rfl, R.pa, by rw [List.length_map, sizeLine_eq]; omega, ?_⟩
        have S3 : Same H (upd H1 pa (.lst (ps.map V.str ++ [.str nm]))) := fun b o e => by rw [upd_ne (ne_of_none e hpaH)]; exact R.sm b o e
        refine ⟨_, rfl, _, rfl, wish_sp (S3 _ _ hl) (hR.same S3) (fun en => absurd en (freeFrom_none hF nm R.hn)) (fun j x es p H3 hp S4 h3 => ?_)⟩
        obtain ⟨_, hj, hx⟩ := wishFrom_at es
        have hwa3 : H3 wa = some (.lst wv) := S4 _ _ (by rw [upd_ne (Ne.symm npw)]; exact R.wa)
        have hpa3 : H3 pa = some (.lst (ps.map V.str ++ [.str nm])) := S4 _ _ upd_same
        refine ⟨_, rfl, .inl ⟨rfl, _, SqL.of hwa3⟩, _, rfl, wa, _, _, rfl, rfl, hwa3, by rw [R.ln, sizeLine_eq]; omega, ?_⟩
        have S5 : Same H (upd H3 wa (.lst (wv ++ [.ref p]))) := fun b o e => by rw [upd_ne (ne_of_none e hwaH)]; exact S4 _ _ (S3 b o e)
        have npw3 : p ≠ wa := ne_of h3 hwa3 (by intro z; cases z)
        have hp4 : (upd H3 wa (.lst (wv ++ [.ref p]))) p = some (.tup [.int j, .str x, .str nm]) := by rw [upd_ne npw3]; exact h3
        have keepW : ∀ v, WishV H1 v → WishV (upd H3 wa (.lst (wv ++ [.ref p]))) v := fun v ⟨a, i, y, n, e, ha, r⟩ => ⟨a, i, y, n, e, by
          have n1 : a ≠ pa := ne_of ha R.pa (by intro z; cases z)
          have n2 : a ≠ wa := ne_of ha R.wa (by intro z; cases z)
          rw [upd_ne n2]
          exact S4 _ _ (by rw [upd_ne n1]; exact ha), r⟩
        refine ⟨_, rfl, p, _, 1, .str x, rfl, rfl, SqT.of hp4, (show atI [V.int j, .str x, .str nm] ((1 : Nat) : Int) = some (V.str x) from atI_nat rfl), ?_⟩
        have lenR' : ps.length + 1 ≤ rows.length := by simpa using lenR
        have hfew := hS.few
        refine ⟨rows.length - (ps ++ [nm]).length, by rw [R.mm, List.length_append]; simp only [List.length_singleton]; omega, x, ps ++ [nm], wv ++ [.ref p], W ++ [(j, x, nm)], ⟨_, rfl⟩, rfl, hx, ?_, ?_, ?_, upd_same, ?_, ?_, S5, ?_, ?_⟩
        · intro n z
          rcases List.mem_append.mp z with z | z
          · exact R.hp n z
          · have : n = nm := by simpa using z
            rw [this]; exact R.hn
        · rw [List.nodup_append]
          exact ⟨R.nd, by simp, fun a ha b hb => by have : b = nm := by simpa using hb
                                                    rw [this]; exact fun h => hn' (h ▸ ha)⟩
        · rw [upd_ne npw, hpa3, List.map_append]; rfl
        · rw [List.length_append, List.length_append, R.ln]; rfl
        · intro v z
          rcases List.mem_append.mp z with z | z
          · exact keepW v (R.wvs v z)
          · have : v = .ref p := by simpa using z
            rw [this]
            exact ⟨p, j, x, nm, rfl, hp4, by omega, hS.head hx, hS.head R.hn⟩
        · refine ws_append (Paired.imp' (fun v w' ⟨a, e, ha⟩ => ⟨a, e, ?_⟩) R.pw) (w := (j, x, nm)) ⟨p, rfl, hp4⟩
          have n1 : a ≠ pa := ne_of ha R.pa (by intro z; cases z)
          have n2 : a ≠ wa := ne_of ha R.wa (by intro z; cases z)
          rw [upd_ne n2]
          exact S4 _ _ (by rw [upd_ne n1]; exact ha)
        · rw [← R.eq]
          obtain ⟨k, hk⟩ : ∃ k, rows.length + 1 - ps.length = k + 1 := ⟨rows.length - ps.length, by omega⟩
          rw [hk, show rows.length + 1 - (ps ++ [nm]).length = k by rw [List.length_append, List.length_singleton]; omega]
          exact (walk_on hn' es).symm
      · have hn' : nm ∈ ps := by simpa using hn
        obtain ⟨j, hj, hno⟩ := first_at hn'
        refine ⟨_, rfl, _, rfl, .inl ⟨rfl, _, SqL.of R.pa⟩, _, rfl, pa, ps, nm, j, rfl, rfl, R.pa, hj, hno, _, rfl, wa, wv, rfl, SqL.of R.wa, fun p5 hp5 => ?_⟩
        refine ⟨_, rfl, p5, _, rfl, SqL.of upd_same, fun p6 hp6 => ?_⟩
        refine ⟨p6, _, rfl, .inl ⟨SqL.of upd_same, fun p7 hp7 => ?_⟩⟩
        have T5 := R.sm.trans (same_new (o := .lst (cutV wv (some (j : Int)) none)) hp5)
        have T1 : Same H1 _ := (same_new (o := .lst (cutV wv (some (j : Int)) none)) hp5).trans ((same_new (o := .lst (cutV wv (some (j : Int)) none).reverse) hp6).trans (same_new (o := .tup (cutV wv (some (j : Int)) none).reverse) hp7))
        refine q p7 _ _ (R.sm.trans T1) ((R.sm.trans ((same_new (o := .lst (cutV wv (some (j : Int)) none)) hp5).trans (same_new (o := .lst (cutV wv (some (j : Int)) none).reverse) hp6))).free hp7) upd_same ?_ (wishes_fmt upd_same (fun v hv => ?_) ?_)
        · have ej : ps.idxOf nm = j := idx_first hj hno
          obtain ⟨k, hk⟩ : ∃ k, rows.length + 1 - ps.length = k + 1 := ⟨rows.length - ps.length, by have := few_of R.nd R.hp; have := heads_len rows; omega⟩
          rw [← R.eq, hk, walk_end hn', ej]
          rw [show cutV wv (some (j : Int)) none = wv.drop j from cut_from _ _] at T1 ⊢
          exact ws_rev (ws_drop (Paired.imp' (fun v w' ⟨a, e, ha⟩ => ⟨a, e, T1 _ _ ha⟩) R.pw))
        · have hv1 : v ∈ cutV wv (some (j : Int)) none := List.mem_reverse.mp hv
          exact (R.wvs v (List.mem_of_mem_drop (List.mem_of_mem_take hv1))).same T1
        · have h1 := cutV_length wv (some (j : Int)) none
          rw [List.length_reverse]
          have := R.ln
          omega
theorem ringw_sp {l : Addr} {ws : List V} {rows : List (List Str)} {H : Hp} {Q : VK} {E : XK} (hl : H l = some (.lst ws)) (hR : RowsV H ws rows) (hS : Small rows) (hF : leastFree rows = none) (hA : (rows.any fun r => !r.isEmpty) = true)
    (q : ∀ p vs H', Same H H' → H p = none → H' p = some (.tup vs) → WsV H' vs (ringOf rows) → FmtOk H' (.ref p) → Q (.ref p) H') : spRingW [.ref l] H Q E := by
  unfold spRingW; exact ⟨l, ws, rows, rfl, hl, hR, hS, hF, hA, q⟩
end
end K11
namespace K11
open PySem L2 PySem.W
/-! ### pure: fuel -/
theorem total_zero {rest : List (List Str)} (h : total rest = 0) : (rest.any fun r => !r.isEmpty) = false := by
  cases e : rest.any fun r => !r.isEmpty with
  | false => rfl
  | true => have := total_pos e; omega
theorem least_mem {rest : List (List Str)} {n : Str} (h : leastFree rest = some n) : ∃ r ∈ rest, n ∈ r := by
  obtain ⟨r, hr, e⟩ := freeFrom_head h
  exact ⟨r, hr, List.mem_of_head? e⟩
theorem merge_fuel : ∀ (k : Nat) (r : List (List Str)), total r ≤ k → ∀ j, total r ≤ j → mergeG k r = mergeG j r
  | 0, r, h, j, _ => by
    have z := total_zero (show total r = 0 by omega)
    cases j with
    | zero => rfl
    | succ j => unfold mergeG; rw [if_neg (by rw [z]; exact Bool.false_ne_true)]
  | k + 1, r, h, 0, hj => by
    have z := total_zero (show total r = 0 by omega)
    unfold mergeG; rw [if_neg (by rw [z]; exact Bool.false_ne_true)]
  | k + 1, r, h, j + 1, hj => by
    unfold mergeG
    split
    · cases e : leastFree r with
      | none => rfl
      | some n =>
        have := total_without_lt (least_mem e)
        show Option.map _ _ = Option.map _ _
        rw [merge_fuel k (without n r) (by omega) j (by omega)]
    · rfl
theorem merge_stop {r : List (List Str)} (h : (r.any fun r => !r.isEmpty) = false) : mergeG (total r) r = some [] := by
  cases total r with
  | zero => rfl
  | succ k => unfold mergeG; rw [if_neg (by rw [h]; exact Bool.false_ne_true)]
theorem merge_none {r : List (List Str)} (h : (r.any fun r => !r.isEmpty) = true) (e : leastFree r = none) : mergeG (total r) r = none := by
  have := total_pos h
  cases q : total r with
  | zero => omega
  | succ k => unfold mergeG; rw [if_pos h, e]
theorem merge_some {r : List (List Str)} {n : Str} (h : (r.any fun r => !r.isEmpty) = true) (e : leastFree r = some n) : mergeG (total r) r = (mergeG (total (without n r)) (without n r)).map (n :: ·) := by
  have := total_without_lt (least_mem e)
  cases q : total r with
  | zero => omega
  | succ k =>
    show (if (r.any fun r => !r.isEmpty) = true then _ else _) = _
    rw [if_pos h, e]
    show Option.map _ _ = _
    rw [merge_fuel k (without n r) (by omega) _ (Nat.le_refl _)]
/-! ### a block within a block -/
theorem relabel_cell {env : Env} : ∀ {names : List (Str × NameKind)} {x : Str}, names.lookup x = some .cell →
    (names.map fun (n, k) => if (k == NameKind.free && env.scope.kind == .function && env.kindOf n == some .cell) then (n, NameKind.cell) else (n, k)).lookup x = some .cell
  | [], _, h => by simp at h
  | (n, k0) :: r, x, h => by
    have ih := @relabel_cell env r x
    show List.lookup x ((if (k0 == NameKind.free && env.scope.kind == .function && env.kindOf n == some .cell) = true then (n, NameKind.cell) else (n, k0)) :: _) = _
    rw [List.lookup_cons] at h
    cases hx : x == n with
    | true =>
      rw [hx] at h
      cases h
      rw [if_neg (by simp), List.lookup_cons, hx]
    | false =>
      rw [hx] at h
      by_cases hc : (k0 == NameKind.free && env.scope.kind == .function && env.kindOf n == some .cell) = true
      · rw [if_pos hc, List.lookup_cons, hx]; exact ih h
      · rw [if_neg hc, List.lookup_cons, hx]; exact ih h
theorem nest {N N' : List Str} {ixs : List (Option Nat)} {scO sc : Scope} {env : Env} (kind : sc.kind = .function) (keys : (sc.names.map (·.1)).Nodup) (nd : N'.Nodup) (len : ixs.length = N'.length) (fv : fvOk N N' ixs sc = true)
    (free : ∀ p ∈ sc.names, p.2 = .free → scO.names.lookup p.1 = some .cell ∨ scO.names.lookup p.1 = some .free) : CompScope N (relabel scO env) N' ixs sc :=
  ⟨kind, keys, nd, len, fv_of fv, fun p hp e => by
    rcases free p hp e with z | z
    · exact .inl (relabel_cell z)
    · exact lookup_relabel_of z⟩
theorem call_tuple_K {X : Cx} (K : Frag) (h : X.K = K) : CallR X (.type "tuple") (fun xs H Q => ∃ p ys, xs = [.ref p] ∧ ((SqL K H p ys ∧ ∀ l, H l = none → Q (.ref l) (upd H l (.tup ys))) ∨ (SqT K H p ys ∧ Q (.ref p) H))) := by subst h; exact call_tuple_of
theorem boot_any : bootBuiltins "any" = some (.builtin "any") := by decide +kernel
/-! ### Ring -/
def xclsOk (K : Frag) (C : Addr) : Bool :=
  findIn K (.ref C) "__getattribute__" == some (some (.builtin "BaseException.__getattribute__")) && (findIn K (.ref C) "__getattr__" == some none && (findIn K (.ref C) "__setattr__" == some (some (.builtin "object.__setattr__")) && (hasDictIn K C &&
  (((clsIn K C).any fun cd => overE cd.mro) && (mroIn K C (.type "BaseException") == some true && (mroIn K C (.type "ValueError") == some true && (mroIn K C (.type "object") == some true && (findIn K (.ref C) "__class__" == some (some (.builtin "object.__class__")) &&
  (specialIn K (.builtin "object.__class__") "__get__" == some (some (.builtin "getset_descriptor.__get__")) && takesIn K (.builtin "object.__class__") == some true)))))))))
theorem xcls_of {K : Frag} {C : Addr} (h : xclsOk K C = true) : XCls K C := by
  unfold xclsOk at h
  simp only [Bool.and_eq_true, beq_iff_eq] at h
  obtain ⟨a, b, c, d, e, f, g, i, j, k, l⟩ := h
  exact ⟨a, b, c, d, e, f, g, i, j, k, l⟩
def Keep (a : Addr) (H H' : Hp) : Prop := ∀ b o, H b = some o → b ≠ a → H' b = some o
@[irreducible] def spTwo (K : Frag) (f g : Str) : Sp := fun vs H Q _ => ∃ (a C : Addr) (k r : V) (i : Option Value), vs = [.ref a, k, r] ∧ H a = some (ExcO C none a) ∧ XCls K C ∧ excInI K C i = true ∧ FmtOk H k ∧ FmtOk H r ∧ findIn K (.ref C) f = some none ∧ findIn K (.ref C) g = some none ∧
  ∀ d H', H d = none → d ≠ a → H' a = some (ExcO C (some d) a) → H' d = some (ExcD d [(f, k), (g, r)]) → Keep a H H' → Q .non H'
theorem keep_new {a d C : Addr} {fs : List (Str × V)} {H : Hp} (hd : H d = none) : Keep a H (upd (upd H d (ExcD d fs)) a (ExcO C (some d) a)) := fun b o e n => by
  rw [upd_ne n, upd_ne (ne_of_none e hd)]; exact e
section
variable {P : Program} {w : World} {K : Frag} {mg : Str → Option Value} {base : Heap} {B : Addr} {f : Addr} {fd : FuncData}
theorem scRing : FnScope ["self", "kind", "ring"] ["self", "kind", "ring"] (defScope sRing) := ⟨rfl, rfl, rfl, by decide +kernel, rfl, by decide +kernel, by decide +kernel⟩
theorem ok_ring (F : Fun K "__init__" "Ring.__init__" sRing f fd) (b : BaseIn K B) (mB : mg "LineError" = some (.ref B)) : FnOk P w K mg base CX0 1 f fd ["self", "kind", "ring"] (spTwo K "kind" "ring") := by
  refine F.ok scRing (fun vs H Q E h => ?_) (fun cdv A outer s H vs Q E hr h => ?_)
  · unfold spTwo at h; obtain ⟨a, C, k, r, i, rfl, _⟩ := h; rfl
  · unfold spTwo at h
    obtain ⟨a, C, k, r, i, rfl, ha, c, qi, fk, fr, nk, nr, q⟩ := h
    have hu := hr.units
    have hg := hr.gd
    refine ⟨_, pss_cons (ps_expr (pe_baseInit b rfl mB (pa_cons (pv 0) (pa_cons (pe_fstr (pj_cons pe_str (pj_cons (pe_fmt hu hg (pv 1)) (pj_cons pe_str (pj_cons (pe_fmt hu hg (pv 2)) pj_nil))))) pa_nil))))
      (pss_cons (ps_xnew (pv 0) (pv 1)) (pss_one (ps_xmore (pv 0) (pv 2)))), ?_⟩
    refine ⟨_, rfl, ⟨_, rfl, by decide +kernel⟩, _, rfl, fk, fun y1 hy1 => ⟨⟨_, rfl, hy1⟩, ⟨_, rfl, by decide +kernel⟩, _, rfl, fr, fun y2 hy2 => ⟨⟨_, rfl, hy2⟩, fun y hy => ?_⟩⟩⟩
    refine ⟨a, C, none, _, i, rfl, ha, c, qi, ?_⟩
    refine ⟨_, rfl, _, rfl, a, C, rfl, ha, c, nk, fun d hd nda => ?_⟩
    refine ⟨_, rfl, _, rfl, a, C, d, _, rfl, upd_same, (by rw [upd_ne nda]; exact upd_same), c, nr, (by show 1 < 100; decide), ?_⟩
    refine q d _ hd nda ?_ upd_same fun b o e n => ?_
    · rw [upd_ne (Ne.symm nda)]; exact upd_same
    · rw [upd_ne (ne_of_none e hd)]; exact keep_new hd b o e n
end
end K11
namespace K11
open PySem L2 PySem.W
abbrev nMerged : List Str := ["rows", "order", "rest", "name"]
theorem scMerged : FnScope nMerged ["rows"] (defScope sMerged) := ⟨rfl, rfl, rfl, by decide +kernel, rfl, by decide +kernel, by decide +kernel⟩
abbrev eOut : Expr := asgV (bodyAt (whileBody (bodyAt (defBody sMerged) 2)) 3)
abbrev scO : Scope := compSc eOut
abbrev scI : Scope := compSc (arg0 (eltOf eOut))
theorem csO : CompScope nMerged (defScope sMerged) ["row", "name"] [none, some 3] scO := ⟨rfl, by decide +kernel, by decide +kernel, rfl, fv_of (by decide +kernel), by decide +kernel⟩
theorem csI {env : Env} : CompScope ["row", "name"] (relabel scO env) ["other", "name"] [none, some 1] scI := nest rfl (by decide +kernel) (by decide +kernel) rfl (by decide +kernel) (by decide +kernel)
theorem ndI : (["other", "name"] : List Str).Nodup := by decide +kernel
structure RingT (K : Frag) (mg : Str → Option Value) (B C fI : Addr) (fdI : FuncData) : Prop where
  mC : mg "Ring" = some (.ref C)
  q : excInI K C (some (.ref fI)) = true
  fn : isFn K (.ref fI) = true
  kp : keepIn K (.ref C) = true
  F : Fun K "__init__" "Ring.__init__" sRing fI fdI
  b : BaseIn K B
  mB : mg "LineError" = some (.ref B)
  bi : Binds K fdI ["self", "kind", "ring"] []
  x : XCls K C
  nk : findIn K (.ref C) "kind" = some none
  nr : findIn K (.ref C) "ring" = some none
theorem fmt_same {H H' : Hp} {x : V} (h : FmtOk H x) (s : Same H H') : FmtOk H' x := by
  rcases h with h | h | ⟨a, d, e, r, q⟩
  · exact .inl h
  · exact .inr (.inl h)
  · exact .inr (.inr ⟨a, d, e, r.same s, q⟩)
theorem two_sp {K : Frag} {f g : Str} {a C : Addr} {k r : V} {i : Option Value} {H : Hp} {Q : VK} {E : XK} (ha : H a = some (ExcO C none a)) (x : XCls K C) (q : excInI K C i = true) (fk : FmtOk H k) (fr : FmtOk H r) (nk : findIn K (.ref C) f = some none) (nr : findIn K (.ref C) g = some none)
    (h : ∀ d H', H d = none → d ≠ a → H' a = some (ExcO C (some d) a) → H' d = some (ExcD d [(f, k), (g, r)]) → Keep a H H' → Q .non H') : spTwo K f g [.ref a, k, r] H Q E := by
  unfold spTwo; exact ⟨a, C, k, r, i, rfl, ha, x, q, fk, fr, nk, nr, h⟩
theorem rows_keep {H H' : Hp} {vs : List V} {rows : List (List Str)} (h : RowsV H vs rows) (s : ∀ b xs, H b = some (.tup xs) → H' b = some (.tup xs)) : RowsV H' vs rows := Paired.imp' (fun _ _ ⟨a, e, q⟩ => ⟨a, e, s _ _ q⟩) h
theorem without_small {rest : List (List Str)} {n : Str} (S : Small rest) : Small (without n rest) := by
  refine ⟨by unfold L2.without; rw [List.length_map]; exact S.few, fun r hr => ?_, fun r hr y hy => ?_⟩
  · obtain ⟨q, hq, rfl⟩ := List.mem_map.mp hr
    exact Nat.le_trans (List.length_filter_le _ _) (S.short q hq)
  · obtain ⟨q, hq, rfl⟩ := List.mem_map.mp hr
    exact S.nm q hq y (List.mem_filter.mp hy).1
/-- the walk's word -/
structure MInv (H : Hp) (rows : List (List Str)) (t oa : Addr) (m : Nat) (σ : St) (H1 : Hp) (rest : List (List Str)) (ws : List V) (acc : List Str) (rl : Addr) : Prop where
  st : ∃ v3 : Option V, σ = [some (.ref t), some (.ref oa), some (.ref rl), v3]
  mm : m = total rest
  hoa : H1 oa = some (.lst (acc.map V.str))
  hrl : H1 rl = some (.lst ws)
  rr : RowsV H1 ws rest
  sm : Small rest
  ne : rl ≠ oa
  same : Same H H1
  lim : acc.length + total rest ≤ 1000
  eq : mergeG (total rows) rows = (mergeG (total rest) rest).map (acc ++ ·)
  stk : stuckG 1000 rows = stuckG (1000 - acc.length) rest
  cut : Cut rows rest
theorem small_total : ∀ {rows : List (List Str)}, (∀ r ∈ rows, r.length ≤ 20) → total rows ≤ 20 * rows.length
  | [], _ => Nat.zero_le _
  | r :: rows, h => by
    have h1 := small_total fun q hq => h q (List.mem_cons_of_mem _ hq)
    have h2 := h r List.mem_cons_self
    have e : total (r :: rows) = r.length + total rows := by simp [total]
    rw [e, List.length_cons]; omega
theorem pairs_of {K : Frag} {H : Hp} {ws : List V} {rows : List (List Str)} (h : RowsV H ws rows) : Paired (fun y r => ∃ a, y = V.ref a ∧ SqT K H a r) ws (rows.map fun r => r.map V.str) := by
  induction h with
  | nil => exact .nil
  | cons p _ ih => obtain ⟨a, e, q⟩ := p; exact .cons ⟨a, e, SqT.of q⟩ ih
theorem any_map (rows : List (List Str)) : ((rows.map fun r => r.map V.str).any fun r => !r.isEmpty) = rows.any fun r => !r.isEmpty := by
  rw [List.any_map]; congr 1; funext r; cases r <;> rfl
section
variable {P : Program} {w : World} {K : Frag} {mg : Str → Option Value} {base : Heap} {f : Addr} {fd : FuncData}
@[irreducible] def spMerged (C : Addr) : Sp := fun vs H Q E => ∃ (t : Addr) (ws : List V) (rows : List (List Str)), vs = [.ref t] ∧ H t = some (.tup ws) ∧ RowsV H ws rows ∧ Small rows ∧
  (mergeG (total rows) rows = none → ∀ a d p vs H', H a = none → H d = none → H p = none → RingP (WishIn rows) 10 (ringG rows) → Same H H' → H' a = some (CgtO C (some d) a) → H' d = some (ExcD d [("kind", .non), ("ring", .ref p)]) → H' p = some (.tup vs) → WsV H' vs (ringG rows) → E (.ref C) (some a) H') ∧ (∀ o, mergeG (total rows) rows = some o → ∀ p H', H p = none → Same H H' → H' p = some (.tup (o.map V.str)) → Q (.ref p) H')
theorem ok_merged {B C fI fL fW fR : Addr} {fdI fdL fdW fdR : FuncData} (F : Fun K "merged" "merged" sMerged f fd) (Bl : Blt mg) (T : RingT K mg B C fI fdI)
    (FW : Fun K "wish_against" "wish_against" sWish fW fdW) (bW : Binds K fdW ["rest", "name"] []) (mW : mg "wish_against" = some (.ref fW))
    (FL : Fun K "least_free" "least_free" sLeast fL fdL) (bL : Binds K fdL ["rest"] []) (mL : mg "least_free" = some (.ref fL))
    (FR : Fun K "ring_within" "ring_within" sRingW fR fdR) (bR : Binds K fdR ["rest"] []) (mR : mg "ring_within" = some (.ref fR)) :
    FnOk P w K mg base (CXD P w) 3 f fd ["rows"] (spMerged C) := by
  have GL : FnOk P w K mg base CX0 2 fL fdL ["rest"] spLeast := ok_least FL Bl FW bW mW
  have GR : FnOk P w K mg base CX0 2 fR fdR ["rest"] spRingW := ok_ringw FR Bl FW bW mW
  have GI : FnOk P w K mg base CX0 1 fI fdI ["self", "kind", "ring"] (spTwo K "kind" "ring") := ok_ring T.F T.b T.mB
  refine F.okD scMerged (fun vs H Q E h => ?_) (fun cdv A outer s H vs Q E hr h => ?_)
  · unfold spMerged at h; obtain ⟨t, ws, rows, rfl, _⟩ := h; rfl
  · unfold spMerged at h
    obtain ⟨t, ws, rows, rfl, ht, hR, hS, qn, qs⟩ := h
    have hr2 : Room 2 _ := hr
    refine ⟨_, pss_cons (ps_set (i := 1) scMerged.nd rfl (Or.inl rfl) (pe_lst pa_nil))
      (pss_cons (ps_set (i := 2) scMerged.nd rfl (Or.inl rfl) (pe_callTy call_list_of rfl Bl.list boot_list (pa_cons (pv 0) pa_nil)))
      (pss_cons (ps_while PassesOwn.leaving (pt_truth (pe_callB (call_anyT rfl) rfl Bl.any boot_any (pa_cons (pv 2) pa_nil)) (fun _ => rfl))
        (pss_cons (ps_set (i := 3) scMerged.nd rfl (Or.inr rfl) (pe_call GL hr2 rfl mL FL.kp bL .nil pass0 (pa_cons (pv 2) pa_nil)))
        (pss_cons (ps_if (pt_cmpR op_isN (pv 3) pe_non (nomark _)) (pss_one (ps_raiseD (pe_excI T.q T.fn T.kp GI hr2 T.bi pass0 rfl T.mC (pa_cons pe_non (pa_cons (pe_call GR hr2 rfl mR FR.kp bR .nil pass0 (pa_cons (pv 2) pa_nil)) pa_nil))))) pss_nil)
        (pss_cons (ps_expr (pe_bm PySem.F.plainAttrs_list PySem.F.slot_list_append PySem.F.type_list_append mt_append (pv 1) (pa_cons (pv 3) pa_nil)))
        (pss_one (ps_setComp (i := 2) rfl csO scMerged.nd rfl rfl (pi_list (pv 2)) (fun s H fp => ⟨pg_name (i := 0) csO.nd rfl (Or.inl rfl), pifs_nil,
          pe_callTy (call_tuple_K K rfl) rfl Bl.tuple boot_tuple (pa_cons (pe_comp rfl csI (pi_tup_K K rfl (pv 0)) (fun s H fp => ⟨pg_name (i := 0) ndI rfl (Or.inl rfl), pifs_one (pt_cmpR op_ne (pv 0) (pv 1) rfl), pv 0⟩)) pa_nil)⟩)))))))
      (pss_one (ps_ret (pe_callTy call_tuple_of rfl Bl.tuple boot_tuple (pa_cons (pv 1) pa_nil)))))), ?_⟩
    refine ⟨Nat.zero_le _, fun oa hoa => ⟨_, rfl, t, ws, rfl, .inr (SqT.of (by rw [upd_ne (ne_of_none ht hoa)]; exact ht)), fun rl hrl => ?_⟩⟩
    have hoa1 : (upd (upd H oa (.lst [])) rl (.lst ws)) oa = some (.lst []) := by rw [upd_ne (ne_of_none upd_same hrl)]; exact upd_same
    have S1 : Same H (upd (upd H oa (.lst [])) rl (.lst ws)) := (same_new hoa).trans (same_new hrl)
    refine ⟨fun m σ H1 => ∃ rest ws' acc rl, MInv H rows t oa m σ H1 rest ws' acc rl, ⟨_, rows, ws, [], rl, ⟨none, rfl⟩, rfl, hoa1, upd_same, hR.same S1, hS, Ne.symm (ne_of_none upd_same hrl), S1, by have := small_total hS.short; have := hS.few; simp only [List.length_nil]; omega, by cases mergeG (total rows) rows <;> rfl, rfl, .refl _⟩, ?_⟩
    rintro m σ H1 ⟨rest, ws', acc, rl, R⟩
    obtain ⟨v3, rfl⟩ := R.st
    refine ⟨_, rfl, rl, ws', _, rfl, SqL.of R.hrl, pairs_of R.rr, _, rfl, ?_⟩
    rw [any_map]
    refine ite2 (fun hA => ?_) (fun hA => ?_)
    · refine ⟨fun σ' H' => ∃ m', m' < m ∧ ∃ rest ws' acc rl, MInv H rows t oa m' σ' H' rest ws' acc rl, fun _ _ z => z, ?_⟩
      refine ⟨_, rfl, least_sp R.hrl R.rr fun H2 S2 => ?_⟩
      have hpos := total_pos hA
      cases e : leastFree rest with
      | none =>
        refine ⟨_, rfl, rfl, _, rfl, ?_⟩
        refine ⟨_, rfl, ringw_sp (S2 _ _ R.hrl) (R.rr.same S2) R.sm e hA fun p vs H3 S3 hp2 hp3 hws hf => ?_⟩
        have S4 : Same H H3 := R.same.trans (S2.trans S3)
        refine ⟨by show 2 ≤ 100; decide, fun a ha => ?_⟩
        have haH : H a = none := S4.free ha
        have hpH : H p = none := (R.same.trans S2).free hp2
        have npa : p ≠ a := ne_of_none hp3 ha
        have eR : ringG rows = ringOf rest := by unfold ringG; rw [R.stk, stuck_none e]
        refine two_sp upd_same T.x T.q (.inr (.inl rfl)) (fmt_same hf (same_new ha)) T.nk T.nr fun d H4 hd nda h1 h2 kp => ⟨rfl, a, C, some d, _, rfl, h1, fun d' ed => by cases ed; exact ⟨_, h2⟩, T.x, T.q, haH, ?_⟩
        have hd3 : H3 d = none := by rw [upd_ne nda] at hd; exact hd
        have kp4 : ∀ b o, H3 b = some o → upd H4 a (CgtO C (some d) a) b = some o := fun b o hb => by
          have nb : b ≠ a := ne_of_none hb ha
          rw [upd_ne nb]; exact kp b o (by rw [upd_ne nb]; exact hb) nb
        refine qn (by rw [R.eq, merge_none hA e]; rfl) a d p vs _ haH (S4.free hd3) hpH ?_ (fun b o hb => kp4 b o (S4 b o hb)) upd_same (by rw [upd_ne nda]; exact h2) (kp4 _ _ hp3) ?_
        · rw [eR]
          have q := (ring_of e hA).imp fun w => R.cut.wish
          exact ⟨q.len, Nat.le_trans q.few R.sm.few, q.at_, q.turn, q.nd⟩
        · rw [eR]; exact Paired.imp' (fun v w ⟨b, eb, hb⟩ => ⟨b, eb, kp4 _ _ hb⟩) hws
      | some n =>
        refine ⟨_, rfl, rfl, _, rfl, ?_⟩
        have hoa2 : H2 oa = some (.lst (acc.map V.str)) := S2 _ _ R.hoa
        refine ⟨_, rfl, .inl ⟨rfl, _, SqL.of hoa2⟩, _, rfl, oa, _, _, rfl, rfl, hoa2, by have := R.lim; rw [List.length_map, sizeLine_eq]; omega, ?_⟩
        generalize hH3 : upd H2 oa (.lst (acc.map V.str ++ [optV (some n)])) = H3
        have S3 : Same H H3 := fun b o eb => by rw [← hH3, upd_ne (ne_of_none eb hoa)]; exact S2 _ _ (R.same b o eb)
        have nro : rl ≠ oa := R.ne
        have hrl3 : H3 rl = some (.lst ws') := by rw [← hH3, upd_ne nro]; exact S2 _ _ R.hrl
        have hR3 : RowsV H3 ws' rest := rows_keep R.rr fun b xs hb => by rw [← hH3, upd_ne (ne_of (S2 _ _ hb) hoa2 (by intro z; cases z))]; exact S2 _ _ hb
        have hoa3 : H3 oa = some (.lst ((acc ++ [n]).map V.str)) := by rw [← hH3, upd_same, List.map_append]; rfl
        refine ⟨_, rfl, rl, rfl, ⟨_, SqL.of hrl3⟩, fun a1 ha1 => ?_⟩
        have n1o : a1 ≠ oa := fun z => by rw [z, hoa3] at ha1; cases ha1
        refine comp_list (xs := ws') (fun i ys τ H4 => ∃ t0 : Option V, τ = [t0, some (.str n)] ∧ H4 a1 = some (.lst ys) ∧ Same H3 H4 ∧ RowsV H4 ys (L2.without n (rest.take i))) ⟨none, rfl, upd_same, same_new ha1, .nil⟩ (fun i ys τ H4 ⟨_, _, h1, h2, _⟩ => ⟨h1, SqL.of (h2 _ _ hrl3)⟩) ?_ ?_
        · rintro i x ys τ H4 hx ⟨t0, rfl, h41, S4, hR4⟩
          obtain ⟨a, r, rfl, hri, har⟩ := hR3.get hx
          have hlt : i < ws'.length := (List.getElem?_eq_some_iff.mp hx).1
          have tk : rest.take (i + 1) = rest.take i ++ [r] := by rw [List.take_succ, hri]; rfl
          refine ⟨_, rfl, a, rfl, ⟨_, SqT.of (S4 _ _ har)⟩, fun b1 hb1 => ?_⟩
          have hab : (upd H4 b1 (.lst [])) a = some (.tup (r.map V.str)) := by rw [upd_ne (ne_of_none (S4 _ _ har) hb1)]; exact S4 _ _ har
          have nab : a ≠ b1 := ne_of_none (S4 _ _ har) hb1
          refine comp_tup (xs := r.map V.str) (fun j zs τ' H5 => ∃ t1 : Option V, τ' = [t1, some (.str n)] ∧ zs = ((r.take j).filter fun y => !decide (y = n)).map V.str ∧ H5 = upd H4 b1 (.lst zs)) ⟨none, rfl, rfl, rfl⟩ (fun j zs τ' H5 ⟨_, _, _, z⟩ => by rw [z]; exact ⟨upd_same, SqT.of (by rw [upd_ne nab]; exact S4 _ _ har)⟩) ?_ ?_
          · rintro j x zs τ' H5 hx' ⟨t1, rfl, rfl, rfl⟩
            have hjl : j < (r.map V.str).length := (List.getElem?_eq_some_iff.mp hx').1
            have hjr : j < r.length := by simpa using hjl
            obtain rfl : V.str r[j] = x := by simpa [hjr] using hx'
            have tkj : r.take (j + 1) = r.take j ++ [r[j]] := by rw [List.take_succ, List.getElem?_eq_getElem hjr]; rfl
            refine ⟨_, rfl, _, rfl, rfl, _, rfl, ?_⟩
            refine ite2 (fun hne => ?_) (fun hne => ?_)
            · have hne' : r[j] ≠ n := fun z => by rw [z] at hne; simp at hne
              refine ⟨_, rfl, upd_same, ?_, cw_next hjl ⟨_, rfl, ?_, by rw [upd_upd]⟩⟩
              · have h1 := List.length_filter_le (fun y => !decide (y = n)) (r.take j)
                have h2 : (r.take j).length ≤ r.length := by rw [List.length_take]; omega
                have h3 := R.sm.short r (List.mem_of_getElem? hri)
                rw [List.length_map, sizeLine_eq]; omega
              · rw [tkj, List.filter_append, List.map_append, List.filter_cons_of_pos (by simpa using hne')]; rfl
            · have hy : r[j] = n := by
                by_cases z : r[j] = n
                · exact z
                · exact absurd (by simp [z]) hne
              refine cw_next hjl ⟨_, rfl, ?_, rfl⟩
              rw [tkj]; simp [hy]
          · rintro zs τ' H5 ⟨t1, rfl, rfl, rfl⟩
            rw [List.length_map, List.take_length]
            refine ⟨b1, _, rfl, .inl ⟨SqL.of upd_same, fun l hl => ?_⟩⟩
            have n1b : a1 ≠ b1 := ne_of_none h41 hb1
            have Sb : Same H4 (upd (upd H4 b1 (.lst ((r.filter fun y => !decide (y = n)).map V.str))) l (.tup ((r.filter fun y => !decide (y = n)).map V.str))) := (same_new hb1).trans (same_new hl)
            have n1l : a1 ≠ l := ne_of_none (by rw [upd_ne n1b]; exact h41) hl
            refine ⟨Sb _ _ h41, ?_, cw_next hlt ⟨_, rfl, upd_same, fun b o hb => ?_, ?_⟩⟩
            · have h1 := hR4.length
              have h2 : (L2.without n (rest.take i)).length ≤ rest.length := by unfold L2.without; rw [List.length_map, List.length_take]; omega
              have h3 := R.sm.few
              rw [sizeLine_eq]; omega
            · rw [upd_ne (ne_of_none hb ha1)]; exact Sb _ _ (S4 b o hb)
            · have e1 : L2.without n (rest.take (i + 1)) = L2.without n (rest.take i) ++ [r.filter fun y => !decide (y = n)] := by rw [tk]; unfold L2.without; rw [List.map_append]; rfl
              rw [e1]
              refine RowsV.append (rows_keep hR4 fun b xs hb => ?_) ?_
              · rw [upd_ne (ne_of hb h41 (by intro z; cases z))]; exact Sb _ _ hb
              · rw [upd_ne (Ne.symm n1l)]; exact upd_same
        · rintro ys τ H4 ⟨t0, rfl, h41, S4, hR4⟩
          rw [hR3.length, List.take_length] at hR4
          have lt := total_without_lt (least_mem e)
          refine ⟨_, by rw [R.mm]; exact lt, L2.without n rest, ys, acc ++ [n], a1, ⟨_, rfl⟩, rfl, S4 _ _ hoa3, h41, hR4, without_small R.sm, n1o, S3.trans S4, ?_, ?_, ?_, R.cut.without n⟩
          · have := R.lim; rw [List.length_append, List.length_singleton]; omega
          · rw [R.eq, merge_some hA e, Option.map_map]
            congr 1
            funext z
            simp
          · have hlim := R.lim
            rw [R.stk, List.length_append, List.length_singleton]
            obtain ⟨k, hk⟩ : ∃ k, 1000 - acc.length = k + 1 := ⟨1000 - acc.length - 1, by omega⟩
            rw [hk, stuck_some e, show 1000 - (acc.length + 1) = k by omega]
    · refine ⟨_, rfl, oa, _, rfl, .inl ⟨SqL.of R.hoa, fun p hp => ?_⟩⟩
      refine qs acc ?_ p _ (R.same.free hp) (R.same.trans (same_new hp)) upd_same
      rw [R.eq, merge_stop (by simpa using hA)]
      show some (acc ++ []) = some acc
      rw [List.append_nil]
end
end K11
namespace K11
open PySem L2 PySem.W
section
variable {P : Program} {w : World} {K : Frag} {mg : Str → Option Value} {base : Heap} {f : Addr} {fd : FuncData}
abbrev MN (C : Addr) (rows : List (List Str)) (H : Hp) (E : XK) : Prop := ∀ a d p vs H', H a = none → H d = none → H p = none → RingP (WishIn rows) 10 (ringG rows) → Same H H' → H' a = some (CgtO C (some d) a) → H' d = some (ExcD d [("kind", .non), ("ring", .ref p)]) → H' p = some (.tup vs) → WsV H' vs (ringG rows) → E (.ref C) (some a) H'
theorem merged_sp {C t : Addr} {ws : List V} {rows : List (List Str)} {H : Hp} {Q : VK} {E : XK} (ht : H t = some (.tup ws)) (hR : RowsV H ws rows) (hS : Small rows) (qn : mergeG (total rows) rows = none → MN C rows H E)
    (qs : ∀ o, mergeG (total rows) rows = some o → ∀ p H', H p = none → Same H H' → H' p = some (.tup (o.map V.str)) → Q (.ref p) H') : spMerged C [.ref t] H Q E := by
  unfold spMerged; exact ⟨t, ws, rows, rfl, ht, hR, hS, qn, qs⟩
abbrev ToldRing (rows : List (List Str)) (H : Hp) (Q : VK) : Prop := mergeG (total rows) rows = none → ∀ p r vs H', H p = none → Same H H' → RingP (WishIn rows) 10 (ringG rows) → H' p = some (.tup [.str "ring", .non, .ref r]) → H' r = some (.tup vs) → WsV H' vs (ringG rows) → Q (.ref p) H'
abbrev ToldRow (rows : List (List Str)) (H : Hp) (Q : VK) : Prop := ∀ o, mergeG (total rows) rows = some o → ∀ p r H', H p = none → Same H H' → H' p = some (.tup [.str "row", .ref r]) → H' r = some (.tup (o.map V.str)) → Q (.ref p) H'
@[irreducible] def spTold : Sp := fun vs H Q _ => ∃ (t : Addr) (ws : List V) (rows : List (List Str)), vs = [.ref t] ∧ H t = some (.tup ws) ∧ RowsV H ws rows ∧ Small rows ∧ ToldRing rows H Q ∧ ToldRow rows H Q
theorem told_sp {t : Addr} {ws : List V} {rows : List (List Str)} {H : Hp} {Q : VK} {E : XK} (ht : H t = some (.tup ws)) (hR : RowsV H ws rows) (hS : Small rows) (qn : ToldRing rows H Q) (qs : ToldRow rows H Q) : spTold [.ref t] H Q E := by
  unfold spTold; exact ⟨t, ws, rows, rfl, ht, hR, hS, qn, qs⟩
abbrev nTold : List Str := ["_law_rows_here", "_law_told_here", "e"]
theorem scTold : FnScope nTold ["_law_rows_here"] (defScope sTold) := ⟨rfl, rfl, rfl, by decide +kernel, rfl, by decide +kernel, by decide +kernel⟩
theorem ok_told {C fM : Addr} {fdM : FuncData} {ci : Option Value} (F : Fun K "_law_told" "_law_told" sTold f fd) (GM : FnOk P w K mg base (CXD P w) 3 fM fdM ["rows"] (spMerged C)) (kM : keepIn K (.ref fM) = true) (bM : Binds K fdM ["rows"] []) (mM : mg "merged" = some (.ref fM))
    (mC : mg "Ring" = some (.ref C)) (x : XCls K C) (me : mroIn K C (.ref C) = some true) (q : excInI K C ci = true) (nk : findIn K (.ref C) "kind" = some none) (nr : findIn K (.ref C) "ring" = some none) :
    FnOk P w K mg base CX0 4 f fd ["_law_rows_here"] spTold := by
  refine F.ok scTold (fun vs H Q E h => ?_) (fun cdv A outer s H vs Q E hr h => ?_)
  · unfold spTold at h; obtain ⟨t, ws, rows, rfl, _⟩ := h; rfl
  · unfold spTold at h
    obtain ⟨t, ws, rows, rfl, ht, hR, hS, qn, qs⟩ := h
    have hr3 : Room 3 _ := hr
    refine ⟨_, pss_cons (ps_set (i := 1) scTold.nd rfl (Or.inl rfl) (pe_tup (pa_cons pe_str pa_nil)))
      (pss_cons (ps_tryAs (j := 2) (C := C) (fun pins D => pss_one (ps_set (i := 1) scTold.nd rfl (Or.inl rfl) (pe_tup (pa_cons pe_str (pa_cons (pe_callT GM hr3 rfl mM kM bM (pa_cons (pv 0) pa_nil)) pa_nil)))))
          scTold.nd rfl rfl rfl rfl rfl rfl rfl mC x me q (fun a => pss_one (ps_set (i := 1) scTold.nd rfl (Or.inl rfl) (pe_tup (pa_cons pe_str (pa_cons (pe_cget (pv 2)) (pa_cons (pe_cget (pv 2)) pa_nil)))))))
      (pss_one (ps_ret (pv 1)))), ?_⟩
    refine ⟨by show 1 ≤ sizeLine; rw [sizeLine_eq]; decide, fun p0 hp0 => ?_⟩
    have S0 := same_new (o := .tup [.str "none"]) hp0
    refine ⟨_, rfl, merged_sp (S0 _ _ ht) (hR.same S0) hS (fun e => ?_) (fun o e r H1 hr1 S1 hr' => ?_)⟩
    · intro a d r vs H1 ha hd hr1 RP S1 ha' hd' hr' hws
      refine ⟨rfl, a, rfl, ?_⟩
      refine ⟨_, rfl, a, C, d, _, .non, rfl, ha', hd', x, nk, rfl, ?_⟩
      refine ⟨_, rfl, a, C, d, _, .ref r, rfl, ha', hd', x, nr, rfl, ?_⟩
      refine ⟨by show 3 ≤ sizeLine; rw [sizeLine_eq]; decide, fun p hp => ?_⟩
      have S2 := same_new (o := .tup [.str "ring", .non, .ref r]) hp
      exact ⟨_, rfl, qn e p r vs _ ((S0.trans S1).free hp) (S0.trans (S1.trans S2)) RP upd_same (S2 _ _ hr') (hws.same S2)⟩
    · refine ⟨by show 2 ≤ sizeLine; rw [sizeLine_eq]; decide, fun p hp => ?_⟩
      have S2 := same_new (o := .tup [.str "row", .ref r]) hp
      exact ⟨_, rfl, qs o e p r _ ((S0.trans S1).free hp) (S0.trans (S1.trans S2)) upd_same (S2 _ _ hr')⟩
end
end K11
namespace K11
open PySem L2
theorem boot_max : bootBuiltins "max" = some (.builtin "max") := by decide +kernel
theorem boot_abs : bootBuiltins "abs" = some (.builtin "abs") := by decide +kernel
section
variable {P : Program} {w : World} {K : PySem.W.Frag} {mg : Str → Option Value} {base : Heap}
@[irreducible] def spPot (K : PySem.W.Frag) : Sp := fun vs H Q _ => ∃ (a : Addr) (ns : List Int) (k : Int), vs = [.ref a, .int k] ∧ SqL K H a (ns.map V.int) ∧ 0 ≤ k ∧ k ≤ 100 ∧ ns.length ≤ 63 ∧
  ∀ (p : Addr) (x y : Int), H p = none → 0 ≤ x → 0 ≤ y → y < 4294967296 → Q (.ref p) (upd H p (.lst [.int x, .int y]))
theorem scPot : FnScope ["_law_script", "_law_k", "_law_cell"] ["_law_script", "_law_k"] (defScope sPot) := ⟨rfl, rfl, rfl, by decide +kernel, rfl, by decide +kernel, by decide +kernel⟩
theorem get_int {ns : List Int} {i : Nat} (h : i < ns.length) : ∃ z, (ns.map V.int)[i]? = some (V.int z) := ⟨ns[i], by rw [List.getElem?_map, List.getElem?_eq_getElem h]; rfl⟩
theorem ok_pot {f : Addr} {fd : FuncData} (F : Fun K "_law_pot" "_law_pot" sPot f fd) (B : Blt mg) : FnOk P w K mg base CX0 1 f fd ["_law_script", "_law_k"] (spPot K) := by
  refine F.ok scPot (fun vs H Q E h => ?_) (fun cdv A outer s H vs Q E hr h => ?_)
  · unfold spPot at h; obtain ⟨a, ns, k, rfl, _⟩ := h; rfl
  · unfold spPot at h
    obtain ⟨a, ns, k, rfl, hS, k0, k1, hl, q⟩ := h
    refine ⟨_, pss_cons (ps_set (i := 2) scPot.nd rfl (Or.inl rfl) pe_int)
      (pss_cons (ps_if (pt_cmpR op_lt (pv 1) (pe_callB call_len_seq (by rfl) B.len boot_len (pa_cons (pv 0) pa_nil)) (nomark _))
          (pss_one (ps_set (i := 2) scPot.nd rfl (Or.inl rfl) (pe_ix ix_list (pv 0) (pv 1) (fun _ _ => rfl)))) pss_nil)
      (pss_one (ps_ret (pe_lst (pa_cons (pe_callB (call_max2 rfl) (by rfl) B.max boot_max (pa_cons pe_int (pa_cons (pe_op op_sub (pe_callB call_abs (by rfl) B.abs boot_abs (pa_cons (pv 2) pa_nil)) (pe_op op_pow pe_int pe_int)) pa_nil)))
        (pa_cons (pe_op op_add (pe_op op_add (pe_op op_mod (pe_callB call_abs (by rfl) B.abs boot_abs (pa_cons (pv 2) pa_nil)) pe_int) (pe_op op_mul pe_int (pv 1))) pe_int) pa_nil)))))), ?_⟩
    -- 0; k < len(script)
    refine ⟨_, rfl, _, rfl, a, _, rfl, .inl hS, _, _, rfl, rfl, _, rfl, ?_⟩
    have abs0 : ∀ c : Int, 0 ≤ (if c < 0 then -c else c) := fun c => by split <;> omega
    have fin : ∀ c : Int, ∀ p, H p = none → Q (.ref p) (upd H p (.lst [.int (if (if c < 0 then -c else c) - 10 ^ (18 : Int).toNat > 0 then (if c < 0 then -c else c) - 10 ^ (18 : Int).toNat else 0), .int ((if c < 0 then -c else c) % 2147483587 + 101 * k + 3)])) := fun c p hp => by
      have h1 := Int.emod_nonneg (if c < 0 then -c else c) (show (2147483587 : Int) ≠ 0 by decide)
      have h2 := Int.emod_lt_of_pos (if c < 0 then -c else c) (show (0 : Int) < 2147483587 by decide)
      refine q p _ _ hp ?_ (by omega) (by omega)
      generalize (if c < 0 then -c else c) - 10 ^ (18 : Int).toNat = d
      split <;> omega
    have tail : ∀ c : Int, ∃ (x : V), ([some (.ref a), some (.int k), some (.int c)] : St)[2]? = some (some x) := fun c => ⟨_, rfl⟩
    refine ite2 (fun hk => ?_) (fun hk => ?_)
    · have hk' : k < ((ns.map V.int).length : Int) := of_decide_eq_true hk
      rw [List.length_map] at hk'
      obtain ⟨z, hz⟩ := get_int (ns := ns) (i := k.toNat) (by omega)
      refine ⟨_, rfl, _, rfl, a, _, _, _, rfl, rfl, hS, (by rw [show k = ((k.toNat : Nat) : Int) by omega]; exact atI_nat hz), ?_⟩
      refine ⟨_, rfl, z, rfl, _, _, rfl, rfl, ⟨by decide, by decide, by decide⟩, _, _, rfl, rfl, _, _, rfl, ?_⟩
      refine ⟨_, rfl, z, rfl, _, _, rfl, rfl, (by show (0 : Int) < 2147483587; decide), _, rfl, _, _, rfl, rfl, .inl ⟨by decide, by decide⟩, _, _, rfl, rfl, _, _, rfl, rfl, (by show 2 ≤ sizeLine; rw [sizeLine_eq]; decide), fun p hp => fin z p hp⟩
    · refine ⟨_, rfl, 0, rfl, _, _, rfl, rfl, ⟨by decide, by decide, by decide⟩, _, _, rfl, rfl, _, _, rfl, ?_⟩
      refine ⟨_, rfl, 0, rfl, _, _, rfl, rfl, (by show (0 : Int) < 2147483587; decide), _, rfl, _, _, rfl, rfl, .inl ⟨by decide, by decide⟩, _, _, rfl, rfl, _, _, rfl, rfl, (by show 2 ≤ sizeLine; rw [sizeLine_eq]; decide), fun p hp => fin 0 p hp⟩
@[irreducible] def spDigit : Sp := fun vs H Q _ => ∃ (p : Addr) (m x y : Int), vs = [.ref p, .int m] ∧ H p = some (.lst [.int x, .int y]) ∧ 0 ≤ x ∧ 0 ≤ y ∧ y < 4294967296 ∧ 0 < m ∧ m ≤ 1000 ∧
  ∀ (d x' y' : Int), 0 ≤ d → d < m → 0 ≤ x' → 0 ≤ y' → y' < 4294967296 → Q (.int d) (upd H p (.lst [.int x', .int y']))
theorem scDigit : FnScope ["_law_pot_here", "_law_many", "_law_digit_here"] ["_law_pot_here", "_law_many"] (defScope sDigit) := ⟨rfl, rfl, rfl, by decide +kernel, rfl, by decide +kernel, by decide +kernel⟩
theorem ok_digit {f : Addr} {fd : FuncData} (F : Fun K "_law_digit" "_law_digit" sDigit f fd) : FnOk P w K mg base CX0 1 f fd ["_law_pot_here", "_law_many"] spDigit := by
  refine F.ok scDigit (fun vs H Q E h => ?_) (fun cdv A outer s H vs Q E hr h => ?_)
  · unfold spDigit at h; obtain ⟨p, m, x, y, rfl, _⟩ := h; rfl
  · unfold spDigit at h
    obtain ⟨p, m, x, y, rfl, hp, x0, y0, y1, m0, m1, q⟩ := h
    refine ⟨_, pss_cons (ps_if (pt_cmpR op_gt (pe_ix ix_list (pv 0) pe_int (fun _ _ => rfl)) pe_int (nomark _))
        (pss_cons (ps_set (i := 2) scDigit.nd rfl (Or.inl rfl) (pe_op op_mod (pe_ix ix_list (pv 0) pe_int (fun _ _ => rfl)) (pv 1)))
        (pss_cons (ps_asg (pe_op op_fdiv (pe_ix ix_list (pv 0) pe_int (fun _ _ => rfl)) (pv 1)) (pg_sub (pv 0) pe_int set_list))
        (pss_one (ps_ret (pv 2))))) pss_nil)
      (pss_cons (ps_asg (pe_op op_mod (pe_op op_add (pe_op op_mul (pe_ix ix_list (pv 0) pe_int (fun _ _ => rfl)) pe_int) pe_int) pe_int) (pg_sub (pv 0) pe_int set_list))
      (pss_one (ps_ret (pe_op op_mod (pe_op op_fdiv (pe_op op_mod (pe_op op_mul (pe_ix ix_list (pv 0) pe_int (fun _ _ => rfl)) (pe_ix ix_list (pv 0) pe_int (fun _ _ => rfl))) pe_int) pe_int) (pv 1))))), ?_⟩
    have hl : SqL K H p [.int x, .int y] := SqL.of hp
    refine ⟨_, rfl, p, _, 0, _, rfl, rfl, hl, rfl, _, _, rfl, rfl, _, rfl, ?_⟩
    refine ite2 (fun hx => ?_) (fun hx => ?_)
    · refine ⟨_, rfl, p, _, 0, _, rfl, rfl, hl, rfl, _, rfl, _, _, rfl, rfl, m0, ?_⟩
      refine ⟨_, rfl, p, _, 0, _, rfl, rfl, hl, rfl, _, rfl, _, _, rfl, rfl, ⟨m0, by omega⟩, _, rfl, p, _, 0, 0, rfl, rfl, hp, rfl, ?_⟩
      refine ⟨_, rfl, ?_⟩
      exact q _ _ _ (Int.emod_nonneg _ (by omega)) (Int.emod_lt_of_pos _ m0) (Int.ediv_nonneg x0 (by omega)) y0 y1
    · refine ⟨_, rfl, p, _, 1, _, rfl, rfl, hl, rfl, _, _, rfl, rfl, .inr ⟨by decide, by decide⟩, _, _, rfl, rfl, _, _, rfl, rfl, (by show (0 : Int) < 2147483647; decide), _, rfl, p, _, 1, 1, rfl, rfl, hp, rfl, ?_⟩
      have h1 := Int.emod_nonneg (y * 39373 + 20011) (show (2147483647 : Int) ≠ 0 by decide)
      have h2 := Int.emod_lt_of_pos (y * 39373 + 20011) (show (0 : Int) < 2147483647 by decide)
      refine ⟨_, rfl, p, _, 1, _, rfl, rfl, SqL.of upd_same, rfl, _, rfl, p, _, 1, _, rfl, rfl, SqL.of upd_same, rfl, _, _, rfl, rfl, .inl ⟨Int.lt_of_lt_of_le (by decide) h1, Int.lt_of_lt_of_le h2 (by decide)⟩, _, _, rfl, rfl, (by show (0 : Int) < 2147483563; decide), _, _, rfl, rfl, ⟨by decide, by decide⟩, _, rfl, _, _, rfl, rfl, m0, ?_⟩
      exact q _ x _ (Int.emod_nonneg _ (by omega)) (Int.emod_lt_of_pos _ m0) x0 h1 (by omega)
end
end K11
namespace K11
open PySem L2
/-- the pot at p is in order -/
def PotOk (p : Addr) (H : Hp) : Prop := ∃ x y : Int, H p = some (.lst [.int x, .int y]) ∧ 0 ≤ x ∧ 0 ≤ y ∧ y < 4294967296
/-- from H to H' nothing else was touched -/
structure PotAt (p : Addr) (H H' : Hp) : Prop where
  ok : PotOk p H'
  kp : ∀ b o, H b = some o → b ≠ p → H' b = some o
section
variable {p q : Addr} {H H1 H2 : Hp} {o : HO}
theorem PotAt.refl (h : PotOk p H) : PotAt p H H := ⟨h, fun _ _ e _ => e⟩
theorem PotAt.trans (a : PotAt p H H1) (b : PotAt p H1 H2) : PotAt p H H2 := ⟨b.ok, fun c o e n => b.kp c o (a.kp c o e n) n⟩
theorem PotOk.ne (h : PotOk p H) (hq : H q = none) : p ≠ q := let ⟨_, _, e, _⟩ := h; ne_of_none e hq
theorem PotAt.new (a : PotAt p H H1) (hq : H1 q = none) : PotAt p H (upd H1 q o) := by
  refine ⟨?_, fun b u e n => ?_⟩
  · obtain ⟨x, y, e, r⟩ := id a.ok
    exact ⟨x, y, by rw [upd_ne (a.ok.ne hq)]; exact e, r⟩
  · rw [upd_ne (ne_of_none (a.kp b u e n) hq)]; exact a.kp b u e n
theorem PotAt.free (a : PotAt p H H1) (hq : H1 q = none) : H q = none := by
  cases e : H q with
  | none => rfl
  | some u =>
    by_cases h : q = p
    · subst h; obtain ⟨_, _, z, _⟩ := a.ok; rw [z] at hq; cases hq
    · rw [a.kp q u e h] at hq; cases hq
/-- an own object that the pot's step keeps is written -/
theorem PotAt.write (a : PotAt p H H1) (hq : H q = none) (hp : p ≠ q) : PotAt p H (upd H1 q o) := by
  refine ⟨?_, fun b u e n => ?_⟩
  · obtain ⟨x, y, e, r⟩ := id a.ok
    exact ⟨x, y, by rw [upd_ne hp]; exact e, r⟩
  · rw [upd_ne (ne_of_none e hq)]; exact a.kp b u e n
theorem digit_sp {m : Int} {Q : VK} {E : XK} (h : PotOk p H) (m0 : 0 < m) (m1 : m ≤ 1000) (k : ∀ d H', 0 ≤ d → d < m → PotAt p H H' → Q (.int d) H') : spDigit [.ref p, .int m] H Q E := by
  obtain ⟨x, y, e, x0, y0, y1⟩ := h
  unfold spDigit
  exact ⟨p, m, x, y, rfl, e, x0, y0, y1, m0, m1, fun d x' y' d0 d1 h1 h2 h3 => k d _ d0 d1 ⟨⟨x', y', upd_same, h1, h2, h3⟩, fun b o z n => by rw [upd_ne n]; exact z⟩⟩
end
theorem sum_signs : ∀ cs : List Nat, ((cs.map sign).map (·.length)).sum = cs.length
  | [] => rfl
  | c :: cs => by
    have e : (sign c).length = 1 := rfl
    simp only [List.map_cons, List.sum_cons, sum_signs cs, List.length_cons, e]; omega
abbrev letters : Str := "abcdefghijklmnopqrstuvwxyz"
theorem letter_at {d : Int} (h0 : 0 ≤ d) (h1 : d < 26) : ∃ c : Nat, atI letters.cps.toList d = some c ∧ 97 ≤ c ∧ c ≤ 122 ∧ c = 97 + d.toNat := by
  have all : ∀ i : Nat, i < 26 → letters.cps.toList[i]? = some (97 + i) := by decide +kernel
  refine ⟨97 + d.toNat, ?_, by omega, by omega, rfl⟩
  rw [show d = ((d.toNat : Nat) : Int) by omega]
  exact atI_nat (all d.toNat (by omega))
section
variable {P : Program} {w : World} {K : PySem.W.Frag} {mg : Str → Option Value} {base : Heap}
@[irreducible] def spNames : Sp := fun vs H Q _ => ∃ (p : Addr) (m : Nat), vs = [.ref p, .int m] ∧ PotOk p H ∧ m ≤ 20 ∧
  ∀ (l : Addr) (ys : List Str) (H' : Hp), H l = none → ys.length = m → (∀ y ∈ ys, Nm y) → ys.Nodup → PotAt p H H' → H' l = some (.lst (ys.map V.str)) → Q (.ref l) H'
abbrev nNames : List Str := ["_law_pot_here", "_law_many", "_law_letters", "_law_found", "_law_k", "_law_size", "_law_name", "_law_some"]
theorem scNames : FnScope nNames ["_law_pot_here", "_law_many"] (defScope sNames) := ⟨rfl, rfl, rfl, by decide +kernel, rfl, by decide +kernel, by decide +kernel⟩
/-- what a loop's body is, and a comprehension's scope, by its place -/
def ifBody (s : Stmt) : List Stmt := match s with | .If _ b _ _ => b | _ => []
abbrev scC1 : Scope := compSc (arg0 (asgV (bodyAt (forBody (bodyAt (defBody sNames) 2)) 1)))
abbrev scC2 : Scope := compSc (asgV (bodyAt (ifBody (bodyAt (forBody (bodyAt (defBody sNames) 2)) 2)) 0))
abbrev scC3 : Scope := compSc (subV (asgV (bodyAt (ifBody (bodyAt (forBody (bodyAt (defBody sNames) 2)) 2)) 1)))
theorem cs1 : CompScope nNames (defScope sNames) ["_law_turn", "_law_letters", "_law_pot_here"] [none, some 2, some 0] scC1 := ⟨rfl, by decide +kernel, by decide +kernel, rfl, fv_of (by decide +kernel), by decide +kernel⟩
theorem cs2 : CompScope nNames (defScope sNames) ["_law_turn", "_law_letters", "_law_name"] [none, some 2, some 6] scC2 := ⟨rfl, by decide +kernel, by decide +kernel, rfl, fv_of (by decide +kernel), by decide +kernel⟩
theorem cs3 : CompScope nNames (defScope sNames) ["_law_one", "_law_found"] [none, some 3] scC3 := ⟨rfl, by decide +kernel, by decide +kernel, rfl, fv_of (by decide +kernel), by decide +kernel⟩
theorem ok_names {f fD : Addr} {fd fdD : FuncData} (F : Fun K "_law_names" "_law_names" sNames f fd) (B : Blt mg) (FD : Fun K "_law_digit" "_law_digit" sDigit fD fdD) (bD : Binds K fdD ["_law_pot_here", "_law_many"] []) (mD : mg "_law_digit" = some (.ref fD)) :
    FnOk P w K mg base CX0 3 f fd ["_law_pot_here", "_law_many"] spNames := by
  have GD : FnOk P w K mg base CX0 1 fD fdD ["_law_pot_here", "_law_many"] spDigit := ok_digit FD
  refine F.ok scNames (fun vs H Q E h => ?_) (fun cdv A outer s H vs Q E hr h => ?_)
  · unfold spNames at h; obtain ⟨p, m, rfl, _⟩ := h; rfl
  · unfold spNames at h
    obtain ⟨p, m, rfl, hp, m1, q⟩ := h
    have hr1 : Room 1 _ := hr.mono (by decide)
    refine ⟨_, pss_cons (ps_set (i := 2) scNames.nd rfl (Or.inr rfl) pe_str)
      (pss_cons (ps_set (i := 3) scNames.nd rfl (Or.inr rfl) (pe_lst pa_nil))
      (pss_cons (ps_for PassesOwn.never rfl (pi_range1 rfl B.range (pa_cons (pv 1) pa_nil)) (pg_name (i := 4) scNames.nd rfl (Or.inl rfl))
        (pss_cons (ps_set (i := 5) scNames.nd rfl (Or.inl rfl) (pe_op op_add pe_int (pe_call GD hr1 rfl mD FD.kp bD .nil pass0 (pa_cons (pv 0) (pa_cons (pe_ix ix_list (pe_lst (pa_cons pe_int (pa_cons pe_int (pa_cons pe_int pa_nil))))
            (pe_call GD hr1 rfl mD FD.kp bD .nil pass0 (pa_cons (pv 0) (pa_cons pe_int pa_nil))) (fun _ _ => rfl)) pa_nil)))))
        (pss_cons (ps_set (i := 6) scNames.nd rfl (Or.inr rfl) (pe_bm PySem.F.plainAttrs_str PySem.F.slot_str_join PySem.F.type_str_join mt_join pe_str
            (pa_cons (pe_comp rfl cs1 (pi_range1 rfl B.range (pa_cons (pv 5) pa_nil)) (fun s H fp => ⟨pg_name (i := 0) cs1.nd rfl (Or.inl rfl), pifs_nil, pe_ix ix_str (pv 1) (pe_call GD hr1 rfl mD FD.kp bD .nil pass0 (pa_cons (pv 2) (pa_cons pe_int pa_nil))) (fun _ _ => rfl)⟩)) pa_nil)))
        (pss_cons (ps_if (pt_cmpR op_in_seq (pv 6) (pv 3) rfl)
            (pss_cons (ps_setComp (i := 7) rfl cs2 scNames.nd rfl rfl (pi_range1 rfl B.range (pa_cons (pe_op op_add (pv 1) pe_int) pa_nil)) (fun s H fp => ⟨pg_name (i := 0) cs2.nd rfl (Or.inl rfl), pifs_nil,
                pe_op op_add_str (pe_op op_add_str (pe_slice sl_str (pv 2) po_none (po_some pe_int)) (pe_ix ix_str (pv 1) (pv 0) (fun _ _ => rfl))) pe_str⟩))
            (pss_one (ps_set (i := 6) scNames.nd rfl (Or.inr rfl) (pe_ix ix_list (pe_comp rfl cs3 (pi_list (pv 7)) (fun s H fp => ⟨pg_name (i := 0) cs3.nd rfl (Or.inl rfl), pifs_one (pt_cmpR (op_notIn_K K rfl) (pv 0) (pv 1) rfl), pv 0⟩)) pe_int (fun _ _ => rfl)))))
            pss_nil)
        (pss_one (ps_expr (pe_bm PySem.F.plainAttrs_list PySem.F.slot_list_append PySem.F.type_list_append mt_append (pv 3) (pa_cons (pv 6) pa_nil))))))))
      (pss_one (ps_ret (pv 3))))), ?_⟩
    refine ⟨Nat.zero_le _, fun l hl => ?_⟩
    have hpl : p ≠ l := hp.ne hl
    have em : ((m : Int)).toNat = m := Int.toNat_natCast m
    refine ⟨_, rfl, (m : Int), rfl, by omega, by omega, for_range (fun i σ H1 => ∃ (ys : List Str) (v4 v5 v6 v7 : Option V), σ = [some (.ref p), some (.int m), some (.str letters), some (.ref l), v4, v5, v6, v7] ∧ ys.length = i ∧ (∀ y ∈ ys, Nm y) ∧ ys.Nodup ∧ PotAt p H H1 ∧ H1 l = some (.lst (ys.map V.str)))
      ⟨[], none, none, none, none, rfl, rfl, (fun y hy => by simp at hy), List.nodup_nil, (PotAt.refl hp).new hl, upd_same⟩ ?_ ?_⟩
    · rintro i σ H1 hi ⟨ys, v4, v5, v6, v7, rfl, hlen, hnm, hnd, pa, hl1⟩
      rw [em] at hi
      -- size = 1 + digit(pot, [1, 2, 8][digit(pot, 3)])
      refine ⟨_, rfl, by show 3 ≤ sizeLine; rw [sizeLine_eq]; decide, fun a hq => ⟨_, rfl, ?_⟩⟩
      have nqp : a ≠ p := Ne.symm (pa.ok.ne hq)
      refine digit_sp (p := p) (m := 3) ((PotAt.refl pa.ok).new hq).ok (by decide) (by decide) fun d H2 d0 d1 pb => ?_
      obtain ⟨mv, hat, mv0, mv1⟩ : ∃ mv : Int, atI [V.int 1, V.int 2, V.int 8] d = some (V.int mv) ∧ 0 < mv ∧ mv ≤ 8 := by
        have : d = 0 ∨ d = 1 ∨ d = 2 := by omega
        rcases this with rfl | rfl | rfl
        · exact ⟨1, rfl, by decide, by decide⟩
        · exact ⟨2, rfl, by decide, by decide⟩
        · exact ⟨8, rfl, by decide, by decide⟩
      refine ⟨a, _, d, _, rfl, rfl, SqL.of (pb.kp a _ upd_same nqp), hat, ?_⟩
      refine digit_sp (p := p) (m := mv) pb.ok mv0 (by omega) fun e H3 e0 e1 pc => ⟨_, _, rfl, rfl, ?_⟩
      have pd : PotAt p H1 H3 := (((PotAt.refl pa.ok).new hq).trans pb).trans pc
      have hl3 : H3 l = some (.lst (ys.map V.str)) := pd.kp l _ hl1 (Ne.symm hpl)
      -- name = ''.join([letters[digit(pot, 26)] for turn in range(size)])
      refine ⟨rfl, _, rfl, 1 + e, rfl, by omega, by omega, fun a1 ha1 => ?_⟩
      have na1 : p ≠ a1 := pc.ok.ne ha1
      refine comp_range (fun i zs τ H4 => ∃ (cs : List Nat) (t0 : Option V), zs = (cs.map sign).map V.str ∧ cs.length = i ∧ (∀ c ∈ cs, 97 ≤ c ∧ c ≤ 122) ∧ τ = [t0, some (.str letters), some (.ref p)] ∧ PotAt p H3 H4 ∧ H4 a1 = some (.lst zs))
        ⟨[], none, rfl, rfl, (fun c hc => by simp at hc), rfl, (PotAt.refl pc.ok).new ha1, upd_same⟩ (fun i zs τ H4 ⟨_, _, _, _, _, _, _, z⟩ => z) ?_ ?_
      · rintro j zs τ H4 hj ⟨cs, t0, rfl, hcl, haz, rfl, pe, hz⟩
        refine ⟨_, rfl, _, rfl, digit_sp (p := p) (m := 26) pe.ok (by decide) (by decide) fun d H5 d0 d1 pf => ?_⟩
        obtain ⟨c, hc, c0, c1, _⟩ := letter_at d0 d1
        have hz5 : H5 a1 = _ := pf.kp a1 _ hz (Ne.symm na1)
        refine ⟨letters, d, c, rfl, rfl, (by rw [sizeLine_eq]; decide +kernel), hc, hz5, ?_, cw_next hj ⟨cs ++ [c], _, ?_, ?_, ?_, rfl, ?_, upd_same⟩⟩
        · rw [List.length_map, List.length_map, hcl, sizeLine_eq]; omega
        · rw [List.map_append, List.map_append]; rfl
        · rw [List.length_append, hcl]; rfl
        · intro x hx
          rcases List.mem_append.mp hx with h | h
          · exact haz x h
          · have : x = c := by simpa using h
            rw [this]; exact ⟨c0, c1⟩
        · exact (pe.trans pf).write ((PotAt.refl pc.ok).free ha1) na1
      · rintro zs τ H4 ⟨cs, t0, rfl, hcl, haz, rfl, pe, hz⟩
        have hsl : ((cs.map sign).map (·.length)).sum = cs.length := by
          exact sum_signs cs
        refine ⟨("" : Str), a1, cs.map sign, rfl, rfl, .inl (SqL.of hz), ?_, ?_⟩
        · have : (Str.length ("" : Str)) = 0 := rfl
          rw [hsl, this, hcl]; omega
        rw [join_signs]
        generalize hnme : (⟨cs.toArray⟩ : Str) = nm
        have nmOk : Nm nm := by
          have el : nm.length = cs.length := by rw [← hnme]; show cs.toArray.size = _; simp
          refine ⟨by omega, by omega, fun c hc => haz c ?_⟩
          rw [← hnme] at hc; simpa using hc
        have pg : PotAt p H1 H4 := pd.trans pe
        have hl4 : H4 l = some (.lst (ys.map V.str)) := pe.kp l _ hl3 (Ne.symm hpl)
        -- if name in found
        refine ⟨_, rfl, _, rfl, l, _, rfl, .inl (SqL.of hl4), rfl, flat_strs _, _, rfl, ?_⟩
        rw [if_neg Bool.false_ne_true, inV_strs]
        refine ite2 (fun hin => ?_) (fun hin => ?_)
        · -- some = [..]
          refine ⟨_, rfl, _, _, rfl, rfl, (m : Int) + 1, rfl, by omega, by omega, fun a2 ha2 => ?_⟩
          refine comp_range (fun i zs τ H5 => ∃ t0 : Option V, zs = ((List.range i).map fun j => Txt.slice nm none (some 6) ++ sign (97 + j) ++ ("q" : Str)).map V.str ∧ τ = [t0, some (.str letters), some (.str nm)] ∧ H5 = upd H4 a2 (.lst zs))
            ⟨none, rfl, rfl, rfl⟩ (fun i zs τ H5 ⟨_, _, _, z⟩ => by rw [z]; exact upd_same) ?_ ?_
          · rintro j zs τ H5 hj ⟨t0, rfl, rfl, rfl⟩
            have hj' : j < m + 1 := by omega
            obtain ⟨c, hc, c0, c1, hce⟩ := letter_at (d := 0 + (j : Int)) (by omega) (by omega)
            have hce' : c = 97 + j := by rw [hce]; omega
            have l1 : (Txt.slice nm none (some 6)).length ≤ 6 := slice6_len nm
            refine ⟨_, rfl, _, rfl, nm, rfl, by have := nmOk.hi; omega, _, rfl, _, rfl, letters, _, c, rfl, rfl, (by rw [sizeLine_eq]; decide +kernel), hc, _, _, rfl, rfl, ?_, _, _, rfl, rfl, ?_, upd_same, ?_, cw_next hj ⟨_, ?_, rfl, ?_⟩⟩
            · show _ + 1 ≤ sizeLine; rw [sizeLine_eq]; omega
            · have e1 : (Txt.slice nm none (some 6) ++ (⟨#[c]⟩ : Str)).length = (Txt.slice nm none (some 6)).length + 1 := by
                show (_ ++ #[c] : Array Nat).size = _; rw [Array.size_append]; rfl
              have e2 : (("q" : Str)).length = 1 := by decide +kernel
              show (Txt.slice nm none (some 6) ++ (⟨#[c]⟩ : Str)).length + _ ≤ sizeLine
              rw [e1, e2, sizeLine_eq]; omega
            · rw [List.length_map, List.length_map, List.length_range, sizeLine_eq]; omega
            · rw [List.range_succ, List.map_append, List.map_append, hce']; rfl
            · rw [upd_upd]
          · rintro zs τ H5 ⟨t0, rfl, rfl, rfl⟩
            have em1 : ((m : Int) + 1).toNat = m + 1 := by omega
            generalize hcd : (List.range ((m : Int) + 1).toNat).map (fun j => Txt.slice nm none (some 6) ++ sign (97 + j) ++ ("q" : Str)) = cands
            have cnd : cands.Nodup := by
              rw [← hcd]
              refine List.Pairwise.map _ (fun a b hab h => hab ?_) List.nodup_range
              have := cand_inj h
              omega
            have cnm : ∀ y ∈ cands, Nm y := by
              intro y hy
              rw [← hcd] at hy
              obtain ⟨j, hj, rfl⟩ := List.mem_map.mp hy
              have := List.mem_range.mp hj
              exact cand_nm nmOk.az ⟨by omega, by omega⟩
            have clen : cands.length = m + 1 := by rw [← hcd, List.length_map, List.length_range, em1]
            have hl5 : upd H4 a2 (.lst (cands.map V.str)) l = some (.lst (ys.map V.str)) := by rw [upd_ne (ne_of_none hl4 ha2)]; exact hl4
            -- name = [one for one in some if one not in found][0]
            refine ⟨_, rfl, a2, rfl, ⟨_, SqL.of upd_same⟩, fun a3 ha3 => ?_⟩
            refine comp_list (xs := cands.map V.str) (fun i zs τ H6 => ∃ t0 : Option V, zs = ((cands.take i).filter (fun y => !decide (y ∈ ys))).map V.str ∧ τ = [t0, some (.ref l)] ∧ H6 = upd (upd H4 a2 (.lst (cands.map V.str))) a3 (.lst zs))
              ⟨none, rfl, rfl, rfl⟩ (fun i zs τ H6 ⟨_, _, _, z⟩ => by rw [z]; exact ⟨upd_same, SqL.of (by rw [upd_ne (ne_of_none upd_same ha3)]; exact upd_same)⟩) ?_ ?_
            · rintro j x zs τ H6 hx ⟨t0, rfl, rfl, rfl⟩
              rw [List.getElem?_map] at hx
              obtain ⟨y, hy, rfl⟩ := Option.map_eq_some_iff.mp hx
              have hjl : j < (cands.map V.str).length := by rw [List.length_map]; exact (List.getElem?_eq_some_iff.mp hy).1
              have tk : cands.take (j + 1) = cands.take j ++ [y] := by rw [List.take_succ, hy]; rfl
              have hl6 : (upd (upd H4 a2 (.lst (cands.map V.str))) a3 (.lst (((cands.take j).filter (fun y => !decide (y ∈ ys))).map V.str))) l = some (.lst (ys.map V.str)) := by rw [upd_ne (ne_of_none hl5 ha3)]; exact hl5
              refine ⟨_, rfl, _, rfl, l, _, rfl, .inl (SqL.of hl6), rfl, flat_strs _, _, rfl, ?_⟩
              rw [if_pos rfl, inV_strs]
              refine ite2 (fun hn => ?_) (fun hn => ?_)
              · refine ⟨_, rfl, upd_same, ?_, cw_next hjl ⟨_, ?_, rfl, ?_⟩⟩
                · have h1 := List.length_filter_le (fun y => !decide (y ∈ ys)) (cands.take j)
                  have h2 : (cands.take j).length ≤ cands.length := by rw [List.length_take]; omega
                  rw [List.length_map, sizeLine_eq]; omega
                · rw [tk, List.filter_append, List.map_append, List.filter_cons, if_pos hn]; rfl
                · rw [upd_upd]
              · refine cw_next hjl ⟨_, ?_, rfl, rfl⟩
                rw [tk, List.filter_append, List.filter_cons, if_neg hn, List.filter_nil, List.append_nil]
            · rintro zs τ H6 ⟨t0, rfl, rfl, rfl⟩
              rw [List.length_map, List.take_length]
              obtain ⟨y0, hy0, hyn⟩ := pigeon (found := ys) cnd (by omega)
              have hmem : y0 ∈ cands.filter (fun y => !decide (y ∈ ys)) := List.mem_filter.mpr ⟨hy0, by simpa using hyn⟩
              cases hf : cands.filter (fun y => !decide (y ∈ ys)) with
              | nil => rw [hf] at hmem; simp at hmem
              | cons z1 zr =>
                have hz1 : z1 ∈ cands.filter (fun y => !decide (y ∈ ys)) := by rw [hf]; exact List.mem_cons_self
                obtain ⟨zc, zn⟩ := List.mem_filter.mp hz1
                have zn' : z1 ∉ ys := by simpa using zn
                have hl6 : (upd (upd H4 a2 (.lst (cands.map V.str))) a3 (.lst ((z1 :: zr).map V.str))) l = some (.lst (ys.map V.str)) := by rw [upd_ne (ne_of_none hl5 ha3)]; exact hl5
                have ph : PotAt p H (upd (upd H4 a2 (.lst (cands.map V.str))) a3 (.lst ((z1 :: zr).map V.str))) := ((pa.trans pg).new ha2).new ha3
                refine ⟨a3, _, 0, V.str z1, rfl, rfl, SqL.of upd_same, (show atI ((z1 :: zr).map V.str) ((0 : Nat) : Int) = some (V.str z1) from atI_nat rfl), ?_⟩
                refine ⟨_, rfl, .inl ⟨rfl, _, SqL.of hl6⟩, _, rfl, l, _, _, rfl, rfl, hl6, ?_, ?_⟩
                · rw [List.length_map, sizeLine_eq]; omega
                · refine ⟨ys ++ [z1], _, _, _, _, rfl, by rw [List.length_append, hlen]; rfl, ?_, ?_, ?_, ?_⟩
                  · intro y hy
                    rcases List.mem_append.mp hy with h | h
                    · exact hnm y h
                    · have : y = z1 := by simpa using h
                      rw [this]; exact cnm z1 zc
                  · rw [List.nodup_append]
                    exact ⟨hnd, by simp, fun a ha b hb => by have : b = z1 := by simpa using hb
                                                             rw [this]; exact fun h => zn' (h ▸ ha)⟩
                  · exact ph.write hl hpl
                  · rw [upd_same, List.map_append]; rfl
        · have hn' : nm ∉ ys := by simpa using hin
          have ph : PotAt p H H4 := pa.trans pg
          refine ⟨_, rfl, .inl ⟨rfl, _, SqL.of hl4⟩, _, rfl, l, _, _, rfl, rfl, hl4, ?_, ?_⟩
          · rw [List.length_map, sizeLine_eq]; omega
          · refine ⟨ys ++ [nm], _, _, _, _, rfl, by rw [List.length_append, hlen]; rfl, ?_, ?_, ?_, ?_⟩
            · intro y hy
              rcases List.mem_append.mp hy with h | h
              · exact hnm y h
              · have : y = nm := by simpa using h
                rw [this]; exact nmOk
            · rw [List.nodup_append]
              exact ⟨hnd, by simp, fun a ha b hb => by have : b = nm := by simpa using hb
                                                       rw [this]; exact fun h => hn' (h ▸ ha)⟩
            · exact ph.write hl hpl
            · rw [upd_same, List.map_append]; rfl
    · rintro σ H1 ⟨ys, v4, v5, v6, v7, rfl, hlen, hnm, hnd, pa, hl1⟩
      rw [em] at hlen
      exact ⟨_, rfl, q l ys H1 hl hlen hnm hnd pa hl1⟩
end
end K11
namespace K11
open PySem L2 PySem.W
theorem erase_perm {α : Type} : ∀ (l : List α) (k : Nat) (h : k < l.length), (l[k] :: l.eraseIdx k).Perm l
  | [], k, h => absurd h (Nat.not_lt_zero _)
  | x :: l, 0, _ => List.Perm.refl _
  | x :: l, k + 1, h => (List.Perm.swap _ _ _).trans ((erase_perm l k (Nat.lt_of_succ_lt_succ h)).cons x)
theorem map_erase {α β : Type} (f : α → β) : ∀ (l : List α) (k : Nat), (l.map f).eraseIdx k = (l.eraseIdx k).map f
  | [], _ => rfl
  | _ :: _, 0 => rfl
  | x :: l, k + 1 => congrArg (f x :: ·) (map_erase f l k)
section
variable {P : Program} {w : World} {K : Frag} {mg : Str → Option Value} {base : Heap} {f : Addr} {fd : FuncData}
@[irreducible] def spShuf : Sp := fun vs H Q _ => ∃ (p n : Addr) (ys : List Str), vs = [.ref p, .ref n] ∧ PotOk p H ∧ p ≠ n ∧ H n = some (.lst (ys.map V.str)) ∧ ys.length ≤ 20 ∧
  ∀ (l : Addr) (zs : List Str) (H' : Hp), H l = none → zs.Perm ys → PotAt p H H' → H' l = some (.lst (zs.map V.str)) → Q (.ref l) H'
theorem shuf_sp {p n : Addr} {ys : List Str} {H : Hp} {Q : VK} {E : XK} (hp : PotOk p H) (hpn : p ≠ n) (hn : H n = some (.lst (ys.map V.str))) (hl : ys.length ≤ 20)
    (q : ∀ (l : Addr) (zs : List Str) (H' : Hp), H l = none → zs.Perm ys → PotAt p H H' → H' l = some (.lst (zs.map V.str)) → Q (.ref l) H') : spShuf [.ref p, .ref n] H Q E := by
  unfold spShuf; exact ⟨p, n, ys, rfl, hp, hpn, hn, hl, q⟩
abbrev nShuf : List Str := ["_law_pot_here", "_law_names_here", "_law_left", "_law_found", "_law_turn"]
theorem scShuf : FnScope nShuf ["_law_pot_here", "_law_names_here"] (defScope sShuf) := ⟨rfl, rfl, rfl, by decide +kernel, rfl, by decide +kernel, by decide +kernel⟩
theorem ok_shuf {fD : Addr} {fdD : FuncData} (F : Fun K "_law_shuffled" "_law_shuffled" sShuf f fd) (B : Blt mg) (FD : Fun K "_law_digit" "_law_digit" sDigit fD fdD) (bD : Binds K fdD ["_law_pot_here", "_law_many"] []) (mD : mg "_law_digit" = some (.ref fD)) :
    FnOk P w K mg base CX0 2 f fd ["_law_pot_here", "_law_names_here"] spShuf := by
  have GD : FnOk P w K mg base CX0 1 fD fdD ["_law_pot_here", "_law_many"] spDigit := ok_digit FD
  refine F.ok scShuf (fun vs H Q E h => ?_) (fun cdv A outer s H vs Q E hr h => ?_)
  · unfold spShuf at h; obtain ⟨p, n, ys, rfl, _⟩ := h; rfl
  · unfold spShuf at h
    obtain ⟨p, n, ys, rfl, hp, hpn, hn, hlen, q⟩ := h
    have hr1 : Room 1 _ := hr
    refine ⟨_, pss_cons (ps_set (i := 2) scShuf.nd rfl (Or.inl rfl) (pe_callTy call_list_of rfl B.list boot_list (pa_cons (pv 1) pa_nil)))
      (pss_cons (ps_set (i := 3) scShuf.nd rfl (Or.inl rfl) (pe_lst pa_nil))
      (pss_cons (ps_for PassesOwn.never rfl (pi_range1 rfl B.range (pa_cons (pe_callB call_len_seq rfl B.len boot_len (pa_cons (pv 1) pa_nil)) pa_nil)) (pg_name (i := 4) scShuf.nd rfl (Or.inl rfl))
        (pss_one (ps_expr (pe_bm PySem.F.plainAttrs_list PySem.F.slot_list_append PySem.F.type_list_append mt_append (pv 3)
          (pa_cons (pe_bm PySem.F.plainAttrs_list PySem.F.slot_list_pop PySem.F.type_list_pop mt_popAt (pv 2)
            (pa_cons (pe_call GD hr1 rfl mD FD.kp bD .nil pass0 (pa_cons (pv 0) (pa_cons (pe_callB call_len_seq rfl B.len boot_len (pa_cons (pv 2) pa_nil)) pa_nil))) pa_nil)) pa_nil)))))
      (pss_one (ps_ret (pv 3))))), ?_⟩
    refine ⟨_, rfl, n, _, rfl, .inl (SqL.of hn), fun la hla => ?_⟩
    refine ⟨Nat.zero_le _, fun fa hfa => ?_⟩
    have npl : p ≠ la := hp.ne hla
    have nlf : la ≠ fa := ne_of_none upd_same hfa
    have hfaH : H fa = none := (same_new hla).free hfa
    have npf : p ≠ fa := hp.ne hfaH
    have P0 : PotAt p H (upd (upd H la (.lst (ys.map V.str))) fa (.lst [])) := ((PotAt.refl hp).new hla).new hfa
    refine ⟨_, rfl, n, _, rfl, .inl (SqL.of (P0.kp _ _ hn (Ne.symm hpn))), ((ys.map V.str).length : Int), rfl, by omega, by rw [List.length_map]; omega, for_range (fun i σ H1 => ∃ (zs ls : List Str) (v4 : Option V), σ = [some (.ref p), some (.ref n), some (.ref la), some (.ref fa), v4] ∧ zs.length = i ∧ (zs ++ ls).Perm ys ∧ PotAt p H H1 ∧ H1 la = some (.lst (ls.map V.str)) ∧ H1 fa = some (.lst (zs.map V.str)))
      ⟨[], ys, none, rfl, rfl, List.Perm.refl _, P0, by rw [upd_ne nlf]; exact upd_same, upd_same⟩ ?_ ?_⟩
    · rintro i σ H1 hi ⟨zs, ls, v4, rfl, hz, hP, pa, hla1, hfa1⟩
      have hlen2 := hP.length_eq
      rw [List.length_append] at hlen2
      have hi' : i < ys.length := by simpa using hi
      have hpos : 0 < ls.length := by omega
      refine ⟨_, rfl, .inl ⟨rfl, _, SqL.of hfa1⟩, _, rfl, .inl ⟨rfl, _, SqL.of hla1⟩, _, rfl, _, rfl, la, _, rfl, .inl (SqL.of hla1), ?_⟩
      refine digit_sp (p := p) pa.ok (by rw [List.length_map]; omega) (by rw [List.length_map]; omega) fun d H2 d0 d1 pb => ?_
      have hla2 := pb.kp _ _ hla1 (Ne.symm npl)
      have hfa2 := pb.kp _ _ hfa1 (Ne.symm npf)
      rw [List.length_map] at d1
      have hd : d.toNat < ls.length := by omega
      refine ⟨la, _, d, d.toNat, .str ls[d.toNat], rfl, rfl, hla2, by omega, by omega, seqIndex_of d0 (by rw [List.length_map]; exact d1), by rw [List.getElem?_map, List.getElem?_eq_getElem hd]; rfl, ?_⟩
      have hfa3 : (upd H2 la (.lst ((ls.map V.str).eraseIdx d.toNat))) fa = some (.lst (zs.map V.str)) := by rw [upd_ne (Ne.symm nlf)]; exact hfa2
      refine ⟨fa, _, _, rfl, rfl, hfa3, by rw [List.length_map, sizeLine_eq]; omega, ?_⟩
      refine ⟨zs ++ [ls[d.toNat]], ls.eraseIdx d.toNat, _, rfl, by rw [List.length_append]; simp [hz], ?_, ((pa.trans pb).write hla npl).write hfaH npf, ?_, ?_⟩
      · refine List.Perm.trans ?_ hP
        rw [List.append_assoc]
        exact List.Perm.append_left zs (erase_perm ls _ hd)
      · rw [upd_ne nlf, upd_same, map_erase]
      · rw [upd_same, List.map_append]; rfl
    · rintro σ H1 ⟨zs, ls, v4, rfl, hz, hP, pa, hla1, hfa1⟩
      have hlen2 := hP.length_eq
      rw [List.length_append, hz] at hlen2
      have e : ls = [] := List.eq_nil_of_length_eq_zero (by rw [List.length_map] at hlen2; omega)
      subst e
      exact ⟨_, rfl, q fa zs H1 hfaH (by simpa using hP) pa hfa1⟩
end
end K11
namespace K11
open PySem L2 PySem.W
theorem cut_hi (xs : List V) (k : Nat) (h : k ≤ xs.length) : cutV xs none (some (k : Int)) = xs.take k := by
  unfold cutV; rw [HT.sIx_none, HT.sIx_nat]; simp [Nat.min_eq_left h]
theorem cut_lo (xs : List V) (k : Nat) (h : k ≤ xs.length) : cutV xs (some (k : Int)) none = xs.drop k := by
  unfold cutV; rw [HT.sIx_none, HT.sIx_nat, Nat.min_eq_left h, List.take_of_length_le (by rw [List.length_drop]; omega)]
theorem swap_perm {α : Type} : ∀ (l : List α) (k : Nat) (h : k + 1 < l.length), (l.take k ++ [l[k + 1], l[k]] ++ l.drop (k + 2)).Perm l
  | [], k, h => absurd h (Nat.not_lt_zero _)
  | [x], k, h => by simp at h
  | x :: y :: l, 0, _ => List.Perm.swap _ _ _
  | x :: l, k + 1, h => (swap_perm l k (Nat.lt_of_succ_lt_succ h)).cons x
/-- rows of some names -/
structure RowsOk (ns : List Str) (rows : List (List Str)) : Prop where
  nd : ns.Nodup
  nm : ∀ n ∈ ns, Nm n
  rd : ∀ r ∈ rows, r.Nodup
  sub : ∀ r ∈ rows, ∀ n ∈ r, n ∈ ns
theorem via {G : Prop} {Cond C : Addr → Hp → Prop} (h1 : (∀ sb H6, Cond sb H6 → C sb H6) → G) (h2 : ∀ sb H6, Cond sb H6 → C sb H6) : G := h1 h2
theorem ite_f {A B : Prop} (h : B) : if false = true then A else B := h
theorem via3 {G : Prop} {Cond : Addr → Hp → Prop} {C : Addr → Option V → Hp → Prop} (h1 : (∀ sb v H6, Cond sb H6 → C sb v H6) → G) (h2 : ∀ sb v H6, Cond sb H6 → C sb v H6) : G := h1 h2
section
variable {P : Program} {w : World} {K : Frag} {mg : Str → Option Value} {base : Heap} {f : Addr} {fd : FuncData}
@[irreducible] def spRows : Sp := fun vs H Q _ => ∃ (p : Addr) (mn mr : Nat), vs = [.ref p, .int mn, .int mr] ∧ PotOk p H ∧ mn ≤ 18 ∧ mr ≤ 9 ∧
  ∀ (t : Addr) (ws : List V) (ns : List Str) (rows : List (List Str)) (H' : Hp), H t = none → PotAt p H H' → H' t = some (.tup ws) → RowsV H' ws rows → rows.length ≤ mr → ns.length ≤ mn → RowsOk ns rows → Q (.ref t) H'
theorem rows_sp {p : Addr} {mn mr : Nat} {H : Hp} {Q : VK} {E : XK} (hp : PotOk p H) (h1 : mn ≤ 18) (h2 : mr ≤ 9)
    (q : ∀ (t : Addr) (ws : List V) (ns : List Str) (rows : List (List Str)) (H' : Hp), H t = none → PotAt p H H' → H' t = some (.tup ws) → RowsV H' ws rows → rows.length ≤ mr → ns.length ≤ mn → RowsOk ns rows → Q (.ref t) H') : spRows [.ref p, .int mn, .int mr] H Q E := by
  unfold spRows; exact ⟨p, mn, mr, rfl, hp, h1, h2, q⟩
theorem names_sp {p : Addr} {m : Nat} {H : Hp} {Q : VK} {E : XK} (hp : PotOk p H) (hm : m ≤ 20)
    (q : ∀ (l : Addr) (ys : List Str) (H' : Hp), H l = none → ys.length = m → (∀ y ∈ ys, Nm y) → ys.Nodup → PotAt p H H' → H' l = some (.lst (ys.map V.str)) → Q (.ref l) H') : spNames [.ref p, .int m] H Q E := by
  unfold spNames; exact ⟨p, m, rfl, hp, hm, q⟩
abbrev nRows : List Str := ["_law_pot_here", "_law_most_names", "_law_most_rows", "_law_way", "_law_many", "_law_names_here", "_law_rows_here", "_law_turn", "_law_some", "_law_row", "_law_at"]
theorem scRows : FnScope nRows ["_law_pot_here", "_law_most_names", "_law_most_rows"] (defScope sRows) := ⟨rfl, rfl, rfl, by decide +kernel, rfl, by decide +kernel, by decide +kernel⟩
abbrev scRw : Scope := compSc (asgV (bodyAt (forBody (bodyAt (defBody sRows) 3)) 2))
theorem csRw : CompScope nRows (defScope sRows) ["_law_name", "_law_pot_here"] [none, some 0] scRw := ⟨rfl, by decide +kernel, by decide +kernel, rfl, fv_of (by decide +kernel), by decide +kernel⟩
theorem ok_rows {fD fN fS : Addr} {fdD fdN fdS : FuncData} (F : Fun K "_law_rows" "_law_rows" sRows f fd) (B : Blt mg) (FD : Fun K "_law_digit" "_law_digit" sDigit fD fdD) (bD : Binds K fdD ["_law_pot_here", "_law_many"] []) (mD : mg "_law_digit" = some (.ref fD))
    (FN : Fun K "_law_names" "_law_names" sNames fN fdN) (bN : Binds K fdN ["_law_pot_here", "_law_many"] []) (mN : mg "_law_names" = some (.ref fN))
    (FS : Fun K "_law_shuffled" "_law_shuffled" sShuf fS fdS) (bS : Binds K fdS ["_law_pot_here", "_law_names_here"] []) (mS : mg "_law_shuffled" = some (.ref fS)) :
    FnOk P w K mg base CX0 4 f fd ["_law_pot_here", "_law_most_names", "_law_most_rows"] spRows := by
  have GD : FnOk P w K mg base CX0 1 fD fdD ["_law_pot_here", "_law_many"] spDigit := ok_digit FD
  have GN : FnOk P w K mg base CX0 _ fN fdN ["_law_pot_here", "_law_many"] spNames := ok_names FN B FD bD mD
  have GS : FnOk P w K mg base CX0 2 fS fdS ["_law_pot_here", "_law_names_here"] spShuf := ok_shuf FS B FD bD mD
  refine F.ok scRows (fun vs H Q E h => ?_) (fun cdv A outer s H vs Q E hr h => ?_)
  · unfold spRows at h; obtain ⟨p, mn, mr, rfl, _⟩ := h; rfl
  · unfold spRows at h
    obtain ⟨p, mn, mr, rfl, hp, hmn, hmr, q⟩ := h
    have hr1 : Room 1 _ := hr.mono (by decide)
    have hr2 : Room 2 _ := hr.mono (by decide)
    have hr3 : Room 3 _ := hr
    refine ⟨_, pss_cons (ps_par (i := 3) (j := 4) rfl scRows.nd rfl rfl (by decide) rfl rfl (pa_cons (pe_call GD hr1 rfl mD FD.kp bD .nil pass0 (pa_cons (pv 0) (pa_cons pe_int pa_nil))) (pa_cons (pe_call GD hr1 rfl mD FD.kp bD .nil pass0 (pa_cons (pv 0) (pa_cons (pe_op op_add (pv 2) pe_int) pa_nil))) pa_nil)) rfl)
      (pss_cons (ps_set (i := 5) scRows.nd rfl (Or.inl rfl) (pe_call GS hr2 rfl mS FS.kp bS .nil pass0 (pa_cons (pv 0) (pa_cons (pe_call GN hr3 rfl mN FN.kp bN .nil pass0 (pa_cons (pv 0) (pa_cons (pe_call GD hr1 rfl mD FD.kp bD .nil pass0 (pa_cons (pv 0) (pa_cons (pe_op op_add (pv 1) pe_int) pa_nil))) pa_nil))) pa_nil))))
      (pss_cons (ps_set (i := 6) scRows.nd rfl (Or.inl rfl) (pe_lst pa_nil))
      (pss_cons (ps_for PassesOwn.never rfl (pi_range1 rfl B.range (pa_cons (pv 4) pa_nil)) (pg_name (i := 7) scRows.nd rfl (Or.inl rfl))
        (pss_cons (ps_set (i := 8) scRows.nd rfl (Or.inl rfl) (pe_callTy call_list_of rfl B.list boot_list (pa_cons (pv 5) pa_nil)))
        (pss_cons (ps_if (pt_cmpR op_eq (pv 3) pe_int (nomark _)) (pss_one (ps_set (i := 8) scRows.nd rfl (Or.inl rfl) (pe_call GS hr2 rfl mS FS.kp bS .nil pass0 (pa_cons (pv 0) (pa_cons (pv 5) pa_nil))))) pss_nil)
        (pss_cons (ps_setComp (i := 9) rfl csRw scRows.nd rfl rfl (pi_list (pv 8)) (fun s H fp => ⟨pg_name (i := 0) csRw.nd rfl (Or.inl rfl), pifs_one (pt_cmpR op_gt (pe_call GD hr1 rfl mD FD.kp bD .nil pass0 (pa_cons (pv 1) (pa_cons pe_int pa_nil))) pe_int (nomark _)), pv 0⟩))
        (pss_cons (ps_if (PW.pt (pw_and (pt_cmpR op_eq (pv 3) pe_int (nomark _)) (pw_and (pt_cmpR op_gt (pe_callB call_len_seq rfl B.len boot_len (pa_cons (pv 9) pa_nil)) pe_int (nomark _)) (pw_and1 (pt_cmpR op_eq (pe_call GD hr1 rfl mD FD.kp bD .nil pass0 (pa_cons (pv 0) (pa_cons pe_int pa_nil))) pe_int (nomark _))))))
          (pss_cons (ps_set (i := 10) scRows.nd rfl (Or.inl rfl) (pe_call GD hr1 rfl mD FD.kp bD .nil pass0 (pa_cons (pv 0) (pa_cons (pe_op op_sub (pe_callB call_len_seq rfl B.len boot_len (pa_cons (pv 9) pa_nil)) pe_int) pa_nil))))
          (pss_one (ps_set (i := 9) scRows.nd rfl (Or.inl rfl) (pe_op op_cat (pe_op op_cat (pe_slice sl_list (pv 9) po_none (po_some (pv 10))) (pe_lst (pa_cons (pe_ix ix_list (pv 9) (pe_op op_add (pv 10) pe_int) (fun _ _ => rfl)) (pa_cons (pe_ix ix_list (pv 9) (pv 10) (fun _ _ => rfl)) pa_nil)))) (pe_slice sl_list (pv 9) (po_some (pe_op op_add (pv 10) pe_int)) po_none)))))
          pss_nil)
        (pss_one (ps_expr (pe_bm PySem.F.plainAttrs_list PySem.F.slot_list_append PySem.F.type_list_append mt_append (pv 6) (pa_cons (pe_callTy call_tuple_of rfl B.tuple boot_tuple (pa_cons (pv 9) pa_nil)) pa_nil))))))))) 
      (pss_one (ps_ret (pe_callTy call_tuple_of rfl B.tuple boot_tuple (pa_cons (pv 6) pa_nil))))))), ?_⟩
    refine ⟨_, rfl, digit_sp (p := p) (m := 3) hp (by decide) (by decide) fun way H1 w0 w1 p1 => ?_⟩
    refine ⟨_, rfl, _, rfl, _, _, rfl, rfl, digit_sp (p := p) (m := (mr : Int) + 1) p1.ok (by omega) (by omega) fun many H2 m0 m1 p2 => ⟨_, _, rfl, ?_⟩⟩
    refine ⟨_, rfl, _, rfl, _, rfl, _, rfl, _, _, rfl, rfl, digit_sp (p := p) (m := (mn : Int) + 1) p2.ok (by omega) (by omega) fun dn H3 dn0 dn1 p3 => ?_⟩
    obtain ⟨k, rfl⟩ := Int.eq_ofNat_of_zero_le dn0
    refine names_sp (p := p) (m := k) p3.ok (by omega) fun l ys H4 hl hlen hnm hnd p4 h4 => ?_
    refine shuf_sp p4.ok (p3.ok.ne hl) h4 (by omega) fun na ns H5 hna hperm p5 h5 => ?_
    have p05 : PotAt p H H5 := p1.trans (p2.trans (p3.trans (p4.trans p5)))
    have hnaH : H na = none := (p1.trans (p2.trans (p3.trans p4))).free hna
    have npn : p ≠ na := hp.ne hnaH
    refine ⟨Nat.zero_le _, fun ra hra => ?_⟩
    have hraH : H ra = none := p05.free hra
    have npr : p ≠ ra := hp.ne hraH
    have nnr : na ≠ ra := ne_of_none h5 hra
    have nsd : ns.Nodup := hperm.nodup_iff.mpr hnd
    have nsn : ∀ n ∈ ns, Nm n := fun n hn => hnm n (hperm.mem_iff.mp hn)
    have nsl : ns.length ≤ mn := by have := hperm.length_eq; omega
    refine ⟨_, rfl, many, rfl, by omega, by omega, for_range (fun i σ H6 => ∃ (ws : List V) (rows : List (List Str)) (v7 v8 v9 v10 : Option V), σ = [some (.ref p), some (.int mn), some (.int mr), some (.int way), some (.int many), some (.ref na), some (.ref ra), v7, v8, v9, v10] ∧ rows.length = i ∧ PotAt p H H6 ∧ H6 na = some (.lst (ns.map V.str)) ∧ H6 ra = some (.lst ws) ∧ RowsV H6 ws rows ∧ RowsOk ns rows)
      ⟨[], [], none, none, none, none, rfl, rfl, p05.new hra, by rw [upd_ne nnr]; exact h5, upd_same, .nil, nsd, nsn, (fun r hr => by simp at hr), (fun r hr => by simp at hr)⟩ ?_ ?_⟩
    · rintro i σ H6 hi ⟨ws, rows, v7, v8, v9, v10, rfl, hlen6, p6, hna6, hra6, hR6, hok6⟩
      refine ⟨_, rfl, na, _, rfl, .inl (SqL.of hna6), fun sa hsa => ?_⟩
      refine ⟨_, rfl, rfl, _, rfl, ?_⟩
      apply via (Cond := fun sb H7 => ∃ zs : List Str, zs.Perm ns ∧ p ≠ sb ∧ PotAt p H6 H7 ∧ H7 sb = some (.lst (zs.map V.str)))
      · intro cont
        refine ite2 (fun h => ?_) (fun h => ?_)
        · refine ⟨_, rfl, _, rfl, shuf_sp ((p6.new hsa).ok) npn (by rw [upd_ne (ne_of_none hna6 hsa)]; exact hna6) (by omega) fun sb zs H7 hsb hz p7 h7 => ?_⟩
          exact cont sb H7 ⟨zs, hz, (p6.new hsa).ok.ne hsb, ((PotAt.refl p6.ok).new hsa).trans p7, h7⟩
        · exact cont sa _ ⟨ns, List.Perm.refl _, p6.ok.ne hsa, (PotAt.refl p6.ok).new hsa, upd_same⟩
      · rintro sb H7 ⟨zs, hz, nps, p7, h7⟩
        refine ⟨_, rfl, sb, rfl, ⟨_, SqL.of h7⟩, fun ca hca => ?_⟩
        have npc : p ≠ ca := p7.ok.ne hca
        have zl : zs.length ≤ 20 := by have := hz.length_eq; omega
        refine comp_list (xs := zs.map V.str) (fun j ys τ H8 => ∃ (t0 : Option V) (rs : List Str), ys = rs.map V.str ∧ τ = [t0, some (.ref p)] ∧ rs.Sublist (zs.take j) ∧ PotAt p H7 H8 ∧ H8 ca = some (.lst ys)) ⟨none, [], rfl, rfl, List.nil_sublist _, (PotAt.refl p7.ok).new hca, upd_same⟩ (fun j ys τ H8 ⟨_, rs, _, _, _, p8, h8⟩ => ⟨h8, SqL.of (p8.kp _ _ h7 (Ne.symm nps))⟩) ?_ ?_
        · rintro j x ys τ H8 hx ⟨t0, rs, rfl, rfl, hsub, p8, h8⟩
          have hjl : j < (zs.map V.str).length := (List.getElem?_eq_some_iff.mp hx).1
          have hjr : j < zs.length := by simpa using hjl
          obtain rfl : V.str zs[j] = x := by simpa [hjr] using hx
          have tkj : zs.take (j + 1) = zs.take j ++ [zs[j]] := by rw [List.take_succ, List.getElem?_eq_getElem hjr]; rfl
          have rl : rs.length ≤ 20 := by have := hsub.length_le; rw [List.length_take] at this; omega
          refine ⟨_, rfl, digit_sp (p := p) (m := 3) p8.ok (by decide) (by decide) fun d H9 d0 d1 p9 => ?_⟩
          refine ⟨_, _, rfl, rfl, _, rfl, ?_⟩
          have h9 := p9.kp _ _ h8 (Ne.symm npc)
          refine ite2 (fun hb => ?_) (fun hb => ?_)
          · refine ⟨_, rfl, h9, by rw [List.length_map, sizeLine_eq]; omega, cw_next hjl ⟨_, rs ++ [zs[j]], by rw [List.map_append]; rfl, rfl, ?_, (p8.trans p9).write hca npc, upd_same⟩⟩
            rw [tkj]; exact hsub.append (List.Sublist.refl _)
          · refine cw_next hjl ⟨_, rs, rfl, rfl, ?_, p8.trans p9, h9⟩
            rw [tkj]; exact hsub.trans (List.sublist_append_left _ _)
        · rintro ys τ H8 ⟨t0, rs, rfl, rfl, hsub, p8, h8⟩
          rw [List.length_map, List.take_length] at hsub
          have rnd : rs.Nodup := hsub.nodup (hz.nodup_iff.mpr nsd)
          have rsu : ∀ n ∈ rs, n ∈ ns := fun n hn => hz.mem_iff.mp (hsub.subset hn)
          have rl : rs.length ≤ 20 := by have := hsub.length_le; omega
          have p68 : PotAt p H6 H8 := p7.trans p8
          revert v10 H8 ca
          apply via3 (Cond := fun rb H9 => ∃ rs' : List Str, rs'.Nodup ∧ (∀ n ∈ rs', n ∈ ns) ∧ rs'.length ≤ 20 ∧ PotAt p H6 H9 ∧ H9 rb = some (.lst (rs'.map V.str)))
          · intro cont u10 cb hca npc G8 p8 h8 p68
            refine ⟨_, rfl, rfl, _, rfl, ?_⟩
            refine ite2 (fun h1 => ?_) (fun h1 => ite_f (cont cb u10 G8 ⟨rs, rnd, rsu, rl, p68, h8⟩))
            refine ⟨_, rfl, cb, _, rfl, .inl (SqL.of h8), _, _, rfl, rfl, _, rfl, ?_⟩
            refine ite2 (fun h2 => ?_) (fun h2 => ite_f (cont cb u10 G8 ⟨rs, rnd, rsu, rl, p68, h8⟩))
            have h2' : 1 < rs.length := by have := of_decide_eq_true h2; rw [List.length_map] at this; omega
            refine ⟨_, rfl, digit_sp (p := p) (m := 3) p8.ok (by decide) (by decide) fun d H9 d0 d1 p9 => ⟨rfl, _, rfl, ?_⟩⟩
            have h9 := p9.kp _ _ h8 (Ne.symm npc)
            refine ite2 (fun h3 => ?_) (fun h3 => cont cb u10 H9 ⟨rs, rnd, rsu, rl, p68.trans p9, h9⟩)
            refine ⟨_, rfl, _, rfl, cb, _, rfl, .inl (SqL.of h9), _, _, rfl, rfl, digit_sp (p := p) p9.ok (by rw [List.length_map]; omega) (by rw [List.length_map]; omega) fun at_ H10 a0 a1 p10 => ?_⟩
            have h10 := p10.kp _ _ h9 (Ne.symm npc)
            rw [List.length_map] at a1
            obtain ⟨k, rfl⟩ := Int.eq_ofNat_of_zero_le a0
            have hk : k + 1 < rs.length := by omega
            have g0 : (rs.map V.str)[k]? = some (.str rs[k]) := by rw [List.getElem?_map, List.getElem?_eq_getElem (by omega)]; rfl
            have g1 : (rs.map V.str)[k + 1]? = some (.str rs[k + 1]) := by rw [List.getElem?_map, List.getElem?_eq_getElem hk]; rfl
            refine ⟨_, rfl, _, rfl, _, rfl, cb, _, rfl, SqL.of h10, fun s1 hs1 => ?_⟩
            have p11 := (PotAt.refl p10.ok).new (o := .lst (cutV (rs.map V.str) none (some (k : Int)))) hs1
            have S1 := same_new (o := .lst (cutV (rs.map V.str) none (some (k : Int)))) hs1
            refine ⟨_, rfl, _, rfl, _, _, rfl, rfl, cb, _, _, _, rfl, rfl, SqL.of (S1 _ _ h10), (show atI (rs.map V.str) (((k + 1 : Nat) : Int)) = _ from atI_nat g1), ?_⟩
            refine ⟨_, rfl, _, rfl, cb, _, _, _, rfl, rfl, SqL.of (S1 _ _ h10), atI_nat g0, by show 2 ≤ sizeLine; rw [sizeLine_eq]; decide, fun s2 hs2 => ?_⟩
            have p12 := p11.new (o := .lst [V.str rs[k + 1], .str rs[k]]) hs2
            have S2 := S1.trans (same_new (o := .lst [V.str rs[k + 1], .str rs[k]]) hs2)
            refine ⟨s1, s2, _, _, rfl, rfl, by rw [upd_ne (ne_of_none upd_same hs2)]; exact upd_same, upd_same, by have := cutV_length (rs.map V.str) none (some (k : Int)); rw [List.length_map] at this; rw [sizeLine_eq]; show _ + 2 ≤ _; omega, fun s3 hs3 => ?_⟩
            have S3 := S2.trans (same_new (o := .lst (cutV (rs.map V.str) none (some (k : Int)) ++ [V.str rs[k + 1], .str rs[k]])) hs3)
            have p13 := p12.new (o := .lst (cutV (rs.map V.str) none (some (k : Int)) ++ [V.str rs[k + 1], .str rs[k]])) hs3
            refine ⟨_, rfl, _, rfl, _, _, rfl, rfl, _, rfl, cb, _, rfl, SqL.of (S3 _ _ h10), fun s4 hs4 => ?_⟩
            have p14 := p13.new (o := .lst (cutV (rs.map V.str) (some ((k : Int) + 2)) none)) hs4
            refine ⟨s3, s4, _, _, rfl, rfl, by rw [upd_ne (ne_of_none upd_same hs4)]; exact upd_same, upd_same, by have h1 := cutV_length (rs.map V.str) none (some (k : Int)); have h2 := cutV_length (rs.map V.str) (some ((k : Int) + 2)) none; rw [List.length_map] at h1 h2; rw [List.length_append, sizeLine_eq]; show _ + 2 + _ ≤ _; omega, fun s5 hs5 => ?_⟩
            have eqv : cutV (rs.map V.str) none (some (k : Int)) ++ [V.str rs[k + 1], .str rs[k]] ++ cutV (rs.map V.str) (some ((k : Int) + 2)) none = (rs.take k ++ [rs[k + 1], rs[k]] ++ rs.drop (k + 2)).map V.str := by
              rw [cut_hi _ _ (by rw [List.length_map]; omega), show ((k : Int) + 2) = ((k + 2 : Nat) : Int) from rfl, cut_lo _ _ (by rw [List.length_map]; omega)]
              simp [List.map_take, List.map_drop]
            have pm := swap_perm rs k hk
            refine cont s5 _ _ ⟨rs.take k ++ [rs[k + 1], rs[k]] ++ rs.drop (k + 2), pm.nodup_iff.mpr rnd, fun n hn => rsu n (pm.mem_iff.mp hn), by rw [pm.length_eq]; exact rl, (p68.trans (p9.trans p10)).trans (p14.new hs5), ?_⟩
            rw [upd_same, eqv]
          · rintro rb v H9 ⟨rs', rnd', rsu', rl', p69, hrb⟩
            have hra9 := p69.kp _ _ hra6 (Ne.symm npr)
            refine ⟨_, rfl, .inl ⟨rfl, _, SqL.of hra9⟩, _, rfl, rb, _, rfl, .inl ⟨SqL.of hrb, fun t ht => ?_⟩⟩
            have hra10 : (upd H9 t (.tup (rs'.map V.str))) ra = some (.lst ws) := by rw [upd_ne (ne_of_none hra9 ht)]; exact hra9
            have hln := hR6.length
            refine ⟨ra, _, _, rfl, rfl, hra10, by rw [sizeLine_eq]; omega, ?_⟩
            have p610 := p69.new (o := .tup (rs'.map V.str)) ht
            refine ⟨ws ++ [.ref t], rows ++ [rs'], _, _, _, _, rfl, by rw [List.length_append, hlen6]; rfl, (p6.trans p610).write hraH npr, ?_, upd_same, ?_, nsd, nsn, ?_, ?_⟩
            · rw [upd_ne nnr]; exact p610.kp _ _ hna6 (Ne.symm npn)
            · refine RowsV.append (rows_keep hR6 fun b xs hb => ?_) ?_
              · rw [upd_ne (ne_of hb hra6 (by intro z; cases z))]
                obtain ⟨x, y, e, _⟩ := p6.ok
                exact p610.kp _ _ hb (ne_of hb e (by intro z; cases z))
              · rw [upd_ne (ne_of upd_same hra10 (by intro z; cases z))]; exact upd_same
            · intro r hr
              rcases List.mem_append.mp hr with z | z
              · exact hok6.rd r z
              · have : r = rs' := by simpa using z
                rw [this]; exact rnd'
            · intro r hr
              rcases List.mem_append.mp hr with z | z
              · exact hok6.sub r z
              · have : r = rs' := by simpa using z
                rw [this]; exact rsu'
    · rintro σ H6 ⟨ws, rows, v7, v8, v9, v10, rfl, hlen6, p6, hna6, hra6, hR6, hok6⟩
      refine ⟨_, rfl, ra, _, rfl, .inl ⟨SqL.of hra6, fun t ht => ?_⟩⟩
      exact q t ws ns rows _ (p6.free ht) (p6.new ht) upd_same (rows_keep hR6 fun b xs hb => by rw [upd_ne (ne_of_none hb ht)]; exact hb) (by omega) nsl hok6
end
end K11
namespace K11
open PySem L2 PySem.W HT
def boolAt (e : Expr) (i : Nat) : Expr := match e with | .BoolOp _ es _ => es.getD i (.Constant .none 0 ⟨0, 0, 0, 0⟩) | _ => .Constant .none 0 ⟨0, 0, 0, 0⟩
def notV (e : Expr) : Expr := match e with | .UnaryOp _ x _ => x | _ => .Constant .none 0 ⟨0, 0, 0, 0⟩
def ifTest (s : Stmt) : Expr := match s with | .If t _ _ _ => t | _ => .Constant .none 0 ⟨0, 0, 0, 0⟩
theorem boot_set : bootBuiltins "set" = some (.type "set") := by decide +kernel
theorem nd_perm {a b : List Str} (ha : a.Nodup) (hb : b.Nodup) (h : ∀ x, x ∈ a ↔ x ∈ b) : a.Perm b := (List.perm_ext_iff_of_nodup ha hb).mpr h
theorem boot_int : bootBuiltins "int" = some (.type "int") := by decide +kernel
theorem boot_bool : bootBuiltins "bool" = some (.type "bool") := by decide +kernel
structure Blt3 (mg : Str → Option Value) : Prop where
  int : mg "int" = none
  bool : mg "bool" = none
structure Blt2 (mg : Str → Option Value) : Prop where
  isi : mg "isinstance" = none
  str : mg "str" = none
  dict : mg "dict" = none
  sorted : mg "sorted" = none
theorem boot_isi : bootBuiltins "isinstance" = some (.builtin "isinstance") := by decide +kernel
theorem boot_str : bootBuiltins "str" = some (.type "str") := by decide +kernel
theorem boot_sorted : bootBuiltins "sorted" = some (.builtin "sorted") := by decide +kernel
theorem boot_all : bootBuiltins "all" = some (.builtin "all") := by decide +kernel
theorem ite_ff {A B : Prop} {k : Bool} (hk : k = false) (h : B) : if k = true then A else B := by subst hk; exact h
theorem ite_tt {A B : Prop} {k : Bool} (hk : k = true) (h : A) : if k = true then A else B := by subst hk; exact h
section
variable {P : Program} {w : World} {K : Frag} {mg : Str → Option Value} {base : Heap} {f : Addr} {fd : FuncData}
@[irreducible] def spName : Sp := fun vs H Q _ => ∃ x : Str, vs = [.str x] ∧ Nm x ∧ ∀ H', Same H H' → Q (.bl true) H'
theorem name_sp {x : Str} {H : Hp} {Q : VK} {E : XK} (h : Nm x) (q : ∀ H', Same H H' → Q (.bl true) H') : spName [.str x] H Q E := by unfold spName; exact ⟨x, rfl, h, q⟩
theorem scName : FnScope ["thing"] ["thing"] (defScope sIsName) := ⟨rfl, rfl, rfl, by decide +kernel, rfl, by decide +kernel, by decide +kernel⟩
abbrev eSig : Expr := arg0 (retV (bodyAt (defBody sIsName) 1))
theorem csSig : CompScope ["thing"] (defScope sIsName) ["sign"] [none] (compSc eSig) := ⟨rfl, by decide +kernel, by decide +kernel, rfl, fv_of (by decide +kernel), by decide +kernel⟩
theorem ok_name (F : Fun K "is_name" "is_name" sIsName f fd) (B : Blt mg) (B2 : Blt2 mg) : FnOk P w K mg base CX0 1 f fd ["thing"] spName := by
  refine F.ok scName (fun vs H Q E h => ?_) (fun cdv A outer s H vs Q E hr h => ?_)
  · unfold spName at h; obtain ⟨x, rfl, _⟩ := h; rfl
  · unfold spName at h
    obtain ⟨x, rfl, hx, q⟩ := h
    have hu := hr.units
    refine ⟨_, pss_cons (ps_if (PW.pt (pw_or (pt_not (pt_val (pe_callB call_isi rfl B2.isi boot_isi (pa_cons (pv 0) (pa_cons (pe_bltn (v := .ty "str") rfl B2.str boot_str rfl) pa_nil)))))
          (pw_or1 (pt_not (pt_chain op_le op_le pe_int (pe_callB call_len_str rfl B.len boot_len (pa_cons (pv 0) pa_nil)) pe_int))))) (pss_one (ps_ret pe_bl)) pss_nil)
      (pss_one (ps_ret (pe_callB (call_allB rfl) rfl B.all boot_all (pa_cons (pe_comp rfl csSig (pi_str (pv 0)) (fun s H fp => ⟨pg_name (i := 0) csSig.nd rfl (Or.inl rfl), pifs_nil, pe_chain op_le_str op_le_str pe_str (pv 0) pe_str⟩)) pa_nil)))), ?_⟩
    have hl1 := hx.lo
    have hl2 := hx.hi
    have hlc : x.cps.size ≤ 8 := hx.hi
    refine ⟨_, rfl, ⟨_, .inr ⟨"str", rfl⟩⟩, .str x, .ty "str", .type "str", .type "str", true, rfl, rfl, .inl (.str x), rfl, true, rfl, ?_⟩
    refine ⟨_, rfl, x, rfl, by rw [sizeLine_eq]; omega, 1, x.length, rfl, rfl, _, rfl, ?_⟩
    refine ite_tt (decide_eq_true (by omega)) ?_
    refine ⟨x.length, 8, rfl, rfl, _, rfl, ?_⟩
    have e8 : decide ((x.length : Int) ≤ 8) = true := decide_eq_true (by omega)
    rw [e8]
    refine ⟨_, rfl, x, rfl, fun p hp => ?_⟩
    refine comp_str (fun i ys τ H1 => ∃ t0 : Option V, τ = [t0] ∧ ys = (List.replicate i true).map V.bl ∧ H1 = upd H p (.lst ys)) ⟨none, rfl, rfl, rfl⟩ (fun i ys τ H1 ⟨_, _, _, z⟩ => by rw [z]; exact upd_same) ?_ ?_
    · rintro i c ys τ H1 hc ⟨t0, rfl, rfl, rfl⟩
      have hil : i < x.cps.size := by
        obtain ⟨h, _⟩ := Array.getElem?_eq_some_iff.mp hc
        exact h
      have hcz := hx.az c (Array.mem_def.mp (Array.mem_of_getElem? hc))
      have e1 : (!decide ((⟨#[c]⟩ : Str).cps.toList < (Str.ofString "a").cps.toList)) = true := by
        have : ¬ ([c] < [97]) := by simp [List.cons_lt_cons_iff]; omega
        have hA : (Str.ofString "a").cps.toList = [97] := by decide +kernel
        rw [hA]; simpa using this
      have e2 : (!decide ((Str.ofString "z").cps.toList < (⟨#[c]⟩ : Str).cps.toList)) = true := by
        have : ¬ ([122] < [c]) := by simp [List.cons_lt_cons_iff]; omega
        have hA : (Str.ofString "z").cps.toList = [122] := by decide +kernel
        rw [hA]; simpa using this
      refine ⟨_, rfl, _, _, rfl, rfl, _, rfl, ite_tt e1 ⟨_, _, rfl, rfl, upd_same, by rw [List.length_map, List.length_replicate, sizeLine_eq]; omega, cw_next hil ⟨_, rfl, ?_, ?_⟩⟩⟩
      · rw [e2, List.replicate_succ', List.map_append]; rfl
      · rw [upd_upd]
    · rintro ys τ H1 ⟨t0, rfl, rfl, rfl⟩
      refine ⟨p, _, rfl, SqL.of upd_same, ?_⟩
      have : (List.replicate x.cps.size true).all id = true := by simp
      rw [this]
      exact q _ (same_new hp)
/-! ### is_whole -/
@[irreducible] def spWhole : Sp := fun vs H Q _ => ∃ n : Int, vs = [.int n] ∧ Q (.bl true) H
theorem whole_sp {n : Int} {H : Hp} {Q : VK} {E : XK} (q : Q (.bl true) H) : spWhole [.int n] H Q E := by unfold spWhole; exact ⟨n, rfl, q⟩
theorem scWhole : FnScope ["thing"] ["thing"] (defScope sIsWhole) := ⟨rfl, rfl, rfl, by decide +kernel, rfl, by decide +kernel, by decide +kernel⟩
theorem ok_whole (F : Fun K "is_whole" "is_whole" sIsWhole f fd) (B2 : Blt2 mg) (B3 : Blt3 mg) : FnOk P w K mg base CX0 1 f fd ["thing"] spWhole := by
  refine F.ok scWhole (fun vs H Q E h => ?_) (fun cdv A outer s H vs Q E hr h => ?_)
  · unfold spWhole at h; obtain ⟨n, rfl, _⟩ := h; rfl
  · unfold spWhole at h
    obtain ⟨n, rfl, q⟩ := h
    refine ⟨_, pss_one (ps_ret (pe_and (pe_callB call_isi rfl B2.isi boot_isi (pa_cons (pv 0) (pa_cons (pe_bltn (v := .ty "int") rfl B3.int boot_int rfl) pa_nil))) (pe_one (pe_not (pe_callB call_isi rfl B2.isi boot_isi (pa_cons (pv 0) (pa_cons (pe_bltn (v := .ty "bool") rfl B3.bool boot_bool rfl) pa_nil))))))), ?_⟩
    refine ⟨_, rfl, ⟨_, .inr ⟨"int", rfl⟩⟩, .int n, .ty "int", .type "int", .type "int", true, rfl, rfl, .inl (.int n), rfl, true, rfl, ?_⟩
    exact ⟨_, rfl, ⟨_, .inr ⟨"bool", rfl⟩⟩, .int n, .ty "bool", .type "int", .type "bool", false, rfl, rfl, .inl (.int n), rfl, false, rfl, q⟩
/-! ### is_row -/
@[irreducible] def spRw : Sp := fun vs H Q _ => ∃ (t : Addr) (xs : List Str), vs = [.ref t] ∧ H t = some (.tup (xs.map V.str)) ∧ (∀ x ∈ xs, Nm x) ∧ xs.Nodup ∧ xs.length ≤ 100 ∧ ∀ H', Same H H' → Q (.bl true) H'
theorem rw_sp {t : Addr} {xs : List Str} {H : Hp} {Q : VK} {E : XK} (ht : H t = some (.tup (xs.map V.str))) (nm : ∀ x ∈ xs, Nm x) (nd : xs.Nodup) (hl : xs.length ≤ 100) (q : ∀ H', Same H H' → Q (.bl true) H') : spRw [.ref t] H Q E := by unfold spRw; exact ⟨t, xs, rfl, ht, nm, nd, hl, q⟩
theorem scIsR : FnScope ["thing"] ["thing"] (defScope sIsRow) := ⟨rfl, rfl, rfl, by decide +kernel, rfl, by decide +kernel, by decide +kernel⟩
abbrev eIsR : Expr := arg0 (notV (boolAt (ifTest (bodyAt (defBody sIsRow) 0)) 1))
theorem csIsR : CompScope ["thing"] (defScope sIsRow) ["name"] [none] (compSc eIsR) := ⟨rfl, by decide +kernel, by decide +kernel, rfl, fv_of (by decide +kernel), by decide +kernel⟩
theorem ok_rw {fN : Addr} {dN : FuncData} (F : Fun K "is_row" "is_row" sIsRow f fd) (B : Blt mg) (B2 : Blt2 mg) (bs : mg "set" = none) (GN : FnOk P w K mg base CX0 1 fN dN ["thing"] spName) (kN : keepIn K (.ref fN) = true) (bN : Binds K dN ["thing"] []) (mN : mg "is_name" = some (.ref fN)) : FnOk P w K mg base CX0 2 f fd ["thing"] spRw := by
  refine F.ok scIsR (fun vs H Q E h => ?_) (fun cdv A outer s H vs Q E hr h => ?_)
  · unfold spRw at h; obtain ⟨t, xs, rfl, _⟩ := h; rfl
  · unfold spRw at h
    obtain ⟨t, xs, rfl, ht, nm, nd, hl, q⟩ := h
    have hr1 : Room 1 _ := hr
    refine ⟨_, pss_cons (ps_if (PW.pt (pw_or (pt_not (pt_val (pe_callB call_isi rfl B2.isi boot_isi (pa_cons (pv 0) (pa_cons (pe_bltn (v := .ty "tuple") rfl B.tuple boot_tuple rfl) pa_nil)))))
        (pw_or1 (pt_not (pt_val (pe_callB (call_allB rfl) rfl B.all boot_all (pa_cons (pe_comp rfl csIsR (pi_tup (pv 0)) (fun s H fp => ⟨pg_name (i := 0) csIsR.nd rfl (Or.inl rfl), pifs_nil, pe_call GN hr1 rfl mN kN bN .nil pass0 (pa_cons (pv 0) pa_nil)⟩)) pa_nil))))))) (pss_one (ps_ret pe_bl)) pss_nil)
      (pss_one (ps_ret (pe_cmpR op_eq (pe_callB call_lenSet rfl B.len boot_len (pa_cons (pe_callTy (call_set rfl) rfl bs boot_set (pa_cons (pv 0) pa_nil)) pa_nil)) (pe_callB call_len_seq rfl B.len boot_len (pa_cons (pv 0) pa_nil)) (nomark _)))), ?_⟩
    refine ⟨_, rfl, ⟨_, .inr ⟨"tuple", rfl⟩⟩, .ref t, .ty "tuple", .type "tuple", .type "tuple", true, rfl, rfl, .inl (.tup ht), rfl, true, rfl, ?_⟩
    refine ⟨_, rfl, t, rfl, ⟨_, SqT.of ht⟩, fun p hp => ?_⟩
    refine comp_tup (xs := xs.map V.str) (fun i ys τ H1 => ∃ t0 : Option V, τ = [t0] ∧ ys = (List.replicate i true).map V.bl ∧ Same H H1 ∧ H1 p = some (.lst ys)) ⟨none, rfl, rfl, same_new hp, upd_same⟩ (fun i ys τ H1 ⟨_, _, _, z, z2⟩ => ⟨z2, SqT.of (z _ _ ht)⟩) ?_ ?_
    · rintro i x ys τ H1 hx ⟨t0, rfl, rfl, S1, h1⟩
      have hjl : i < (xs.map V.str).length := (List.getElem?_eq_some_iff.mp hx).1
      have hil : i < xs.length := by simpa using hjl
      obtain rfl : V.str xs[i] = x := by simpa [hil] using hx
      refine ⟨_, rfl, name_sp (nm _ (List.getElem_mem hil)) fun H2 S2 => ⟨S2 _ _ h1, by rw [List.length_map, List.length_replicate, sizeLine_eq]; omega, cw_next hjl ⟨_, rfl, ?_, fun b u e => ?_, upd_same⟩⟩⟩
      · rw [List.replicate_succ', List.map_append]; rfl
      · rw [upd_ne (ne_of_none e hp)]; exact S2 _ _ (S1 _ _ e)
    · rintro ys τ H1 ⟨t0, rfl, rfl, S1, h1⟩
      refine ⟨p, _, rfl, SqL.of h1, _, rfl, ?_⟩
      have : (List.replicate (xs.map V.str).length true).all id = true := by simp
      rw [this]
      have ht1 := S1 _ _ ht
      refine ⟨_, rfl, t, xs, rfl, .inr (SqT.of ht1), by omega, fun a ds ha nds mem => ?_⟩
      have S2 := same_new (o := SetO P w a ds) ha
      refine ⟨a, ds, rfl, upd_same, _, rfl, t, _, rfl, .inr (SqT.of (S2 _ _ ht1)), rfl, ?_⟩
      rw [List.length_map, (nd_perm nds nd mem).length_eq]
      have : decide (V.int (xs.length : Int) = V.int (xs.length : Int)) = true := decide_eq_true rfl
      rw [this]
      exact q _ (S1.trans S2)
end
end K11
namespace K11
open PySem L2 PySem.W HT
section
variable {P : Program} {w : World} {K : Frag} {mg : Str → Option Value} {base : Heap} {f : Addr} {fd : FuncData}
/-! ### is_wish -/
@[irreducible] def spIsW : Sp := fun vs H Q _ => ∃ (t a : Addr) (ws : List V) (rows : List (List Str)) (i : Nat) (x n : Str), vs = [.ref t, .ref a] ∧ H t = some (.tup ws) ∧ RowsV H ws rows ∧ Small rows ∧ H a = some (.tup [.int i, .str x, .str n]) ∧ WishIn rows (i, x, n) ∧ ∀ H', Same H H' → Q (.bl true) H'
theorem isw_sp {t a : Addr} {ws : List V} {rows : List (List Str)} {i : Nat} {x n : Str} {H : Hp} {Q : VK} {E : XK} (ht : H t = some (.tup ws)) (hR : RowsV H ws rows) (hS : Small rows) (ha : H a = some (.tup [.int i, .str x, .str n])) (hw : WishIn rows (i, x, n)) (q : ∀ H', Same H H' → Q (.bl true) H') : spIsW [.ref t, .ref a] H Q E := by
  unfold spIsW; exact ⟨t, a, ws, rows, i, x, n, rfl, ht, hR, hS, ha, hw, q⟩
abbrev nIsW : List Str := ["rows", "thing", "place", "front", "back", "row"]
theorem scIsW : FnScope nIsW ["rows", "thing"] (defScope sIsWish) := ⟨rfl, rfl, rfl, by decide +kernel, rfl, by decide +kernel, by decide +kernel⟩
theorem wish_facts {rows : List (List Str)} {i : Nat} {x n : Str} (h : WishIn rows (i, x, n)) : ∃ r, rows[i]? = some r ∧ x ∈ r ∧ n ∈ r ∧ ∃ j, r[j]? = some x ∧ (∀ m, m < j → r[m]? ≠ some x) ∧ n ∈ r.drop (j + 1) ∧ n ∉ r.take (j + 1) := by
  obtain ⟨pre, post, h0, h1, h2, h3, h4⟩ := h
  refine ⟨_, h0, by simp, by simp [show n ∈ post from h1], pre.length, by simp, fun m hm => ?_, ?_, ?_⟩
  · rw [List.getElem?_append_left hm]
    intro z
    exact h2 (List.mem_of_getElem? z)
  · show n ∈ (pre ++ x :: post).drop (pre.length + 1)
    rw [show pre ++ x :: post = (pre ++ [x]) ++ post by simp, List.drop_left' (by simp)]
    exact h1
  · show n ∉ (pre ++ x :: post).take (pre.length + 1)
    rw [show pre ++ x :: post = (pre ++ [x]) ++ post by simp, List.take_left' (by simp)]
    intro z
    rcases List.mem_append.mp z with z | z
    · exact h3 z
    · exact h4 (List.mem_singleton.mp z).symm
theorem ok_isw {fN fWh : Addr} {dN dWh : FuncData} (F : Fun K "is_wish" "is_wish" sIsWish f fd) (B : Blt mg) (B2 : Blt2 mg) (GN : FnOk P w K mg base CX0 1 fN dN ["thing"] spName) (kN : keepIn K (.ref fN) = true) (bN : Binds K dN ["thing"] []) (mN : mg "is_name" = some (.ref fN))
    (GW : FnOk P w K mg base CX0 1 fWh dWh ["thing"] spWhole) (kW : keepIn K (.ref fWh) = true) (bW : Binds K dWh ["thing"] []) (mW : mg "is_whole" = some (.ref fWh)) : FnOk P w K mg base CX0 2 f fd ["rows", "thing"] spIsW := by
  refine F.ok scIsW (fun vs H Q E h => ?_) (fun cdv A outer s H vs Q E hr h => ?_)
  · unfold spIsW at h; obtain ⟨t, a, ws, rows, i, x, n, rfl, _⟩ := h; rfl
  · unfold spIsW at h
    obtain ⟨t, a, ws, rows, i, x, n, rfl, ht, hR, hS, ha, hw, q⟩ := h
    have hr1 : Room 1 _ := hr
    refine ⟨_, pss_cons (ps_if (PW.pt (pw_or (pt_not (pt_val (pe_callB call_isi rfl B2.isi boot_isi (pa_cons (pv 1) (pa_cons (pe_bltn (v := .ty "tuple") rfl B.tuple boot_tuple rfl) pa_nil)))))
        (pw_or1 (pt_cmpR op_ne (pe_callB call_len_seq rfl B.len boot_len (pa_cons (pv 1) pa_nil)) pe_int (nomark _))))) (pss_one (ps_ret pe_bl)) pss_nil)
      (pss_cons (ps_asg (pv 1) (pg_tup rfl (pgs_cons (pg_name (i := 2) scIsW.nd rfl (Or.inl rfl)) (pgs_cons (pg_name (i := 3) scIsW.nd rfl (Or.inl rfl)) (pgs_cons (pg_name (i := 4) scIsW.nd rfl (Or.inl rfl)) pgs_nil)))))
      (pss_cons (ps_if (PW.pt (pw_or (pt_not (pt_val (pe_call GW hr1 rfl mW kW bW .nil pass0 (pa_cons (pv 2) pa_nil))))
        (pw_or (pt_not (pt_chain op_le op_lt pe_int (pv 2) (pe_callB call_len_seq rfl B.len boot_len (pa_cons (pv 0) pa_nil))))
        (pw_or (pt_not (pt_val (pe_call GN hr1 rfl mN kN bN .nil pass0 (pa_cons (pv 3) pa_nil))))
        (pw_or1 (pt_not (pt_val (pe_call GN hr1 rfl mN kN bN .nil pass0 (pa_cons (pv 4) pa_nil))))))))) (pss_one (ps_ret pe_bl)) pss_nil)
      (pss_cons (ps_set (i := 5) scIsW.nd rfl (Or.inl rfl) (pe_ix ix_tup (pv 0) (pv 2) (fun _ _ => rfl)))
      (pss_one (ps_ret (pe_and (pe_cmpR op_in_seq (pv 3) (pv 5) rfl) (pe_one (pe_cmpR op_in_seq (pv 4) (pe_slice sl_tupA (pv 5) (po_some (pe_op op_add (pe_bm PySem.F.plainAttrs_tuple PySem.F.slot_tuple_index PySem.F.type_tuple_index mt_indexT (pv 5) (pa_cons (pv 3) pa_nil)) pe_int)) po_none) rfl)))))))), ?_⟩
    obtain ⟨r, hri, hx, hn, j, hj, hno, hdr, _⟩ := wish_facts hw
    have hrm := List.mem_of_getElem? hri
    have hil : i < rows.length := (List.getElem?_eq_some_iff.mp hri).1
    have hfew := hS.few
    refine ⟨_, rfl, ⟨_, .inr ⟨"tuple", rfl⟩⟩, .ref a, .ty "tuple", .type "tuple", .type "tuple", true, rfl, rfl, .inl (.tup ha), rfl, true, rfl, ?_⟩
    refine ⟨_, rfl, a, _, rfl, .inr (SqT.of ha), rfl, _, rfl, ?_⟩
    refine ⟨_, rfl, a, _, rfl, SqT.of ha, rfl, _, _, rfl, _, _, rfl, _, _, rfl, rfl, ?_⟩
    refine ⟨_, rfl, whole_sp ⟨true, rfl, ?_⟩⟩
    refine ⟨_, rfl, 0, i, rfl, rfl, _, rfl, ?_⟩
    refine ite_tt (decide_eq_true (by omega)) ?_
    refine ⟨_, rfl, t, _, rfl, .inr (SqT.of ht), i, ws.length, rfl, rfl, _, rfl, ?_⟩
    have e1 : decide ((i : Int) < (ws.length : Int)) = true := decide_eq_true (by have := hR.length; omega)
    rw [e1]
    refine ⟨_, rfl, name_sp (hS.nm r hrm x hx) fun H1 S1 => ⟨true, rfl, _, rfl, name_sp (hS.nm r hrm n hn) fun H2 S2 => ⟨true, rfl, ?_⟩⟩⟩
    have S12 := S1.trans S2
    obtain ⟨v, hv⟩ : ∃ v, ws[i]? = some v := ⟨ws[i]'(by have := hR.length; omega), List.getElem?_eq_getElem _⟩
    obtain ⟨b, r', rfl, hr', hb⟩ := hR.get hv
    rw [hri] at hr'; cases hr'
    refine ⟨_, rfl, _, rfl, t, ws, i, .ref b, rfl, rfl, SqT.of (S12 _ _ ht), atI_nat hv, ?_⟩
    have hb2 := S12 _ _ hb
    refine ⟨_, rfl, _, rfl, b, _, rfl, .inr (SqT.of hb2), rfl, flat_strs _, ?_⟩
    rw [if_neg Bool.false_ne_true, inV_strs, decide_eq_true hx]
    refine ⟨true, rfl, ?_⟩
    refine ⟨_, rfl, _, rfl, _, rfl, .inr (.inr (.inr (.inr ⟨rfl, _, Rd.of hb2⟩))), _, rfl, b, r, x, j, rfl, rfl, SqT.of hb2, hj, hno, _, _, rfl, rfl, _, rfl, b, _, rfl, hb2, fun p H3 S3 hp => ?_⟩
    have ej : ((j : Int) + 1) = ((j + 1 : Nat) : Int) := by omega
    rw [ej, cut_from, ← List.map_drop] at hp
    refine ⟨p, _, rfl, .inr (SqT.of hp), rfl, flat_strs _, ?_⟩
    rw [if_neg Bool.false_ne_true, inV_strs, decide_eq_true hdr]
    exact q _ (S12.trans S3)
end
end K11
namespace K11
open PySem L2 PySem.W HT
theorem nm_ok {x : Str} (h : Nm x) : PyData.strOk x = true := by
  unfold PyData.strOk
  rw [← Array.all_toList, List.all_eq_true]; intro c hc; have := (h.az c hc).2; exact decide_eq_true (by omega)
theorem strs_rep (H : Hp) : ∀ xs : List Str, RepAll H (xs.map V.str) (xs.map PyData.str)
  | [] => .nil
  | x :: xs => .cons (.str x) (strs_rep H xs)
theorem strs_lay : ∀ {xs : List Str}, (∀ x ∈ xs, Nm x) → PyData.canLayAll0 (xs.map PyData.str) = true
  | [], _ => rfl
  | x :: xs, h => by
    show (PyData.strOk x && PyData.canLayAll0 (xs.map PyData.str)) = true
    rw [nm_ok (h x List.mem_cons_self), strs_lay fun y hy => h y (List.mem_cons_of_mem _ hy)]; rfl
theorem strs_depth : ∀ xs : List Str, PyData.depthAll (xs.map PyData.str) = 0
  | [] => rfl
  | x :: xs => by rw [List.map_cons]; simp only [PyData.depthAll, PyData.depth, strs_depth xs, Nat.max_self]
theorem strs_eqv : ∀ xs ys : List Str, PyData.eqvAll (xs.map PyData.str) (ys.map PyData.str) = decide (xs = ys)
  | [], [] => rfl
  | [], y :: ys => rfl
  | x :: xs, [] => rfl
  | x :: xs, y :: ys => by
    show ((x == y) && PyData.eqvAll (xs.map PyData.str) (ys.map PyData.str)) = _
    rw [strs_eqv xs ys]
    by_cases e : x = y
    · by_cases f : xs = ys <;> simp [e, f]
    · simp [e]
section
variable {P : Program} {w : World} {K : Frag} {mg : Str → Option Value} {base : Heap} {f : Addr} {fd : FuncData}
theorem WsV.get {H : Hp} : ∀ {vs : List V} {W : List Wi} {i : Nat} {v : V}, WsV H vs W → vs[i]? = some v → ∃ a w, v = V.ref a ∧ W[i]? = some w ∧ H a = some (.tup [.int w.1, .str w.2.1, .str w.2.2])
  | _, _, i, v, .nil, h => by simp at h
  | _, _, 0, v, .cons (b := b) ⟨a, e, q⟩ r, h => by
    have : v = V.ref a := by rw [← e]; simpa using h.symm
    exact ⟨a, b, this, rfl, q⟩
  | _, _, i + 1, v, .cons _ r, h => by
    obtain ⟨a, w, e, q, z⟩ := WsV.get r (by simpa using h : _ = some v)
    exact ⟨a, w, e, by simpa using q, z⟩
theorem WsV.length {H : Hp} {vs : List V} {W : List Wi} (h : WsV H vs W) : vs.length = W.length := Paired.length h
/-! ### is_ring -/
@[irreducible] def spIsRg : Sp := fun vs H Q _ => ∃ (t p : Addr) (ws us : List V) (rows : List (List Str)) (W : List Wi), vs = [.ref t, .ref p] ∧ H t = some (.tup ws) ∧ RowsV H ws rows ∧ Small rows ∧ H p = some (.tup us) ∧ WsV H us W ∧ RingP (WishIn rows) 10 W ∧ ∀ H', Same H H' → Q (.bl true) H'
theorem isrg_sp {t p : Addr} {ws us : List V} {rows : List (List Str)} {W : List Wi} {H : Hp} {Q : VK} {E : XK} (ht : H t = some (.tup ws)) (hR : RowsV H ws rows) (hS : Small rows) (hp : H p = some (.tup us)) (hW : WsV H us W) (hr : RingP (WishIn rows) 10 W) (q : ∀ H', Same H H' → Q (.bl true) H') : spIsRg [.ref t, .ref p] H Q E := by
  unfold spIsRg; exact ⟨t, p, ws, us, rows, W, rfl, ht, hR, hS, hp, hW, hr, q⟩
abbrev nIsRg : List Str := ["rows", "thing", "fronts", "backs"]
theorem scIsRg : FnScope nIsRg ["rows", "thing"] (defScope sIsRing) := ⟨rfl, rfl, rfl, by decide +kernel, rfl, by decide +kernel, by decide +kernel⟩
abbrev eG1 : Expr := arg0 (notV (ifTest (bodyAt (defBody sIsRing) 1)))
abbrev eG2 : Expr := asgV (bodyAt (defBody sIsRing) 2)
abbrev eG3 : Expr := asgV (bodyAt (defBody sIsRing) 3)
theorem csG1 : CompScope nIsRg (defScope sIsRing) ["wish", "rows"] [none, some 0] (compSc eG1) := ⟨rfl, by decide +kernel, by decide +kernel, rfl, fv_of (by decide +kernel), by decide +kernel⟩
theorem csG2 : CompScope nIsRg (defScope sIsRing) ["wish"] [none] (compSc eG2) := ⟨rfl, by decide +kernel, by decide +kernel, rfl, fv_of (by decide +kernel), by decide +kernel⟩
theorem csG3 : CompScope nIsRg (defScope sIsRing) ["wish"] [none] (compSc eG3) := ⟨rfl, by decide +kernel, by decide +kernel, rfl, fv_of (by decide +kernel), by decide +kernel⟩
theorem ok_isrg {fI : Addr} {dI : FuncData} (F : Fun K "is_ring" "is_ring" sIsRing f fd) (B : Blt mg) (B2 : Blt2 mg) (bs : mg "set" = none) (GI : FnOk P w K mg base CX0 2 fI dI ["rows", "thing"] spIsW) (kI : keepIn K (.ref fI) = true) (bI : Binds K dI ["rows", "thing"] []) (mI : mg "is_wish" = some (.ref fI)) :
    FnOk P w K mg base CX0 3 f fd ["rows", "thing"] spIsRg := by
  refine F.ok scIsRg (fun vs H Q E h => ?_) (fun cdv A outer s H vs Q E hr h => ?_)
  · unfold spIsRg at h; obtain ⟨t, p, ws, us, rows, W, rfl, _⟩ := h; rfl
  · unfold spIsRg at h
    obtain ⟨t, p, ws, us, rows, W, rfl, ht, hR, hS, hp, hW, rp, q⟩ := h
    have hr2 : Room 2 _ := hr
    have hu := hr.units
    refine ⟨_, pss_cons (ps_if (PW.pt (pw_or (pt_not (pt_val (pe_callB call_isi rfl B2.isi boot_isi (pa_cons (pv 1) (pa_cons (pe_bltn (v := .ty "tuple") rfl B.tuple boot_tuple rfl) pa_nil)))))
        (pw_or1 (pt_cmpR op_lt (pe_callB call_len_seq rfl B.len boot_len (pa_cons (pv 1) pa_nil)) pe_int (nomark _))))) (pss_one (ps_ret pe_bl)) pss_nil)
      (pss_cons (ps_if (pt_not (pt_val (pe_callB (call_allB rfl) rfl B.all boot_all (pa_cons (pe_comp rfl csG1 (pi_tup (pv 1)) (fun s H fp => ⟨pg_name (i := 0) csG1.nd rfl (Or.inl rfl), pifs_nil, pe_call GI hr2 rfl mI kI bI .nil pass0 (pa_cons (pv 1) (pa_cons (pv 0) pa_nil))⟩)) pa_nil)))) (pss_one (ps_ret pe_bl)) pss_nil)
      (pss_cons (ps_setComp (i := 2) rfl csG2 scIsRg.nd rfl rfl (pi_tup (pv 1)) (fun s H fp => ⟨pg_name (i := 0) csG2.nd rfl (Or.inl rfl), pifs_nil, pe_ix (ix_tup_K K rfl) (pv 0) pe_int (fun _ _ => rfl)⟩))
      (pss_cons (ps_setComp (i := 3) rfl csG3 scIsRg.nd rfl rfl (pi_tup (pv 1)) (fun s H fp => ⟨pg_name (i := 0) csG3.nd rfl (Or.inl rfl), pifs_nil, pe_ix (ix_tup_K K rfl) (pv 0) pe_int (fun _ _ => rfl)⟩))
      (pss_one (ps_ret (pe_and (pe_cmpR (op_eqD hu) (pv 3) (pe_op op_cat (pe_slice sl_list (pv 2) (po_some pe_int) po_none) (pe_slice sl_list (pv 2) po_none (po_some pe_int))) (nomark _))
        (pe_one (pe_cmpR op_eq (pe_callB call_lenSet rfl B.len boot_len (pa_cons (pe_callTy (call_set rfl) rfl bs boot_set (pa_cons (pv 2) pa_nil)) pa_nil)) (pe_callB call_len_seq rfl B.len boot_len (pa_cons (pv 2) pa_nil)) (nomark _))))))))), ?_⟩
    have hul := hW.length
    have hlen := rp.len
    have hfew := rp.few
    refine ⟨_, rfl, ⟨_, .inr ⟨"tuple", rfl⟩⟩, .ref p, .ty "tuple", .type "tuple", .type "tuple", true, rfl, rfl, .inl (.tup hp), rfl, true, rfl, ?_⟩
    refine ⟨_, rfl, p, _, rfl, .inr (SqT.of hp), us.length, 2, rfl, rfl, _, rfl, ?_⟩
    have e2 : decide ((us.length : Int) < 2) = false := decide_eq_false (by omega)
    rw [e2]
    refine ⟨_, rfl, p, rfl, ⟨_, SqT.of hp⟩, fun c1 hc1 => ?_⟩
    refine comp_tup (xs := us) (fun i ys τ H1 => ∃ t0 : Option V, τ = [t0, some (.ref t)] ∧ ys = (List.replicate i true).map V.bl ∧ Same H H1 ∧ H1 c1 = some (.lst ys)) ⟨none, rfl, rfl, same_new hc1, upd_same⟩ (fun i ys τ H1 ⟨_, _, _, z, z2⟩ => ⟨z2, SqT.of (z _ _ hp)⟩) (fun i x ys τ H1 hx hP => ?_) (fun ys τ H1 hP => ?_)
    · obtain ⟨t0, rfl, rfl, S1, h1⟩ := hP
      obtain ⟨a, w, rfl, hwi, ha⟩ := hW.get hx
      have hlt : i < us.length := (List.getElem?_eq_some_iff.mp hx).1
      refine ⟨_, rfl, _, rfl, isw_sp (S1 _ _ ht) (hR.same S1) hS (S1 _ _ ha) (rp.at_ w (List.mem_of_getElem? hwi)) fun H2 S2 => ⟨S2 _ _ h1, by rw [List.length_map, List.length_replicate, sizeLine_eq]; omega, cw_next hlt ⟨_, rfl, ?_, fun b u e => ?_, upd_same⟩⟩⟩
      · rw [List.replicate_succ', List.map_append]; rfl
      · rw [upd_ne (ne_of_none e hc1)]; exact S2 _ _ (S1 _ _ e)
    obtain ⟨t0, rfl, rfl, S1, h1⟩ := hP
    refine ⟨c1, _, rfl, SqL.of h1, _, rfl, ?_⟩
    have : (List.replicate us.length true).all id = true := by simp
    rw [this]
    have hp1 := S1 _ _ hp
    have hW1 := hW.same S1
    refine ⟨_, rfl, p, rfl, ⟨_, SqT.of hp1⟩, fun l1 hl1 => ?_⟩
    refine comp_tup (xs := us) (fun i ys τ H5 => ∃ t0 : Option V, τ = [t0] ∧ ys = ((W.take i).map fun w => w.2.1).map V.str ∧ H5 = upd H1 l1 (.lst ys)) ⟨none, rfl, rfl, rfl⟩ (fun i ys τ H5 ⟨_, _, _, z⟩ => by rw [z]; exact ⟨upd_same, SqT.of (by rw [upd_ne (ne_of_none hp1 hl1)]; exact hp1)⟩) (fun i x ys τ H5 hx hP => ?_) (fun ys τ H5 hP => ?_)
    · obtain ⟨t0, rfl, rfl, rfl⟩ := hP
      obtain ⟨a, w, rfl, hwi, ha⟩ := hW1.get hx
      have hlt : i < us.length := (List.getElem?_eq_some_iff.mp hx).1
      have tk : W.take (i + 1) = W.take i ++ [w] := by rw [List.take_succ, hwi]; rfl
      refine ⟨_, rfl, a, _, 1, .str w.2.1, rfl, rfl, SqT.of (by rw [upd_ne (ne_of_none ha hl1)]; exact ha), (show atI [V.int w.1, .str w.2.1, .str w.2.2] ((1 : Nat) : Int) = some (V.str w.2.1) from atI_nat rfl), upd_same, ?_, cw_next hlt ⟨_, rfl, ?_, by rw [upd_upd]⟩⟩
      · rw [List.length_map, List.length_map, List.length_take, sizeLine_eq]; omega
      · rw [tk, List.map_append, List.map_append]; rfl
    obtain ⟨t0, rfl, rfl, rfl⟩ := hP
    rw [hul, List.take_length]
    have S2 := same_new (o := .lst ((W.map fun w => w.2.1).map V.str)) hl1
    have hp2 := S2 _ _ hp1
    have hW2 := hW1.same S2
    have hl1' : upd H1 l1 (.lst ((W.map fun w => w.2.1).map V.str)) l1 = some (.lst ((W.map fun w => w.2.1).map V.str)) := upd_same
    generalize upd H1 l1 (.lst ((W.map fun w => w.2.1).map V.str)) = H2 at S2 hp2 hW2 hl1' ⊢
    refine ⟨_, rfl, p, rfl, ⟨_, SqT.of hp2⟩, fun l2 hl2 => ?_⟩
    refine comp_tup (xs := us) (fun i ys τ H5 => ∃ t0 : Option V, τ = [t0] ∧ ys = ((W.take i).map fun w => w.2.2).map V.str ∧ H5 = upd H2 l2 (.lst ys)) ⟨none, rfl, rfl, rfl⟩ (fun i ys τ H5 ⟨_, _, _, z⟩ => by rw [z]; exact ⟨upd_same, SqT.of (by rw [upd_ne (ne_of_none hp2 hl2)]; exact hp2)⟩) (fun i x ys τ H5 hx hP => ?_) (fun ys τ H5 hP => ?_)
    · obtain ⟨t0, rfl, rfl, rfl⟩ := hP
      obtain ⟨a, w, rfl, hwi, ha⟩ := hW2.get hx
      have hlt : i < us.length := (List.getElem?_eq_some_iff.mp hx).1
      have tk : W.take (i + 1) = W.take i ++ [w] := by rw [List.take_succ, hwi]; rfl
      refine ⟨_, rfl, a, _, 2, .str w.2.2, rfl, rfl, SqT.of (by rw [upd_ne (ne_of_none ha hl2)]; exact ha), (show atI [V.int w.1, .str w.2.1, .str w.2.2] ((2 : Nat) : Int) = some (V.str w.2.2) from atI_nat rfl), upd_same, ?_, cw_next hlt ⟨_, rfl, ?_, by rw [upd_upd]⟩⟩
      · rw [List.length_map, List.length_map, List.length_take, sizeLine_eq]; omega
      · rw [tk, List.map_append, List.map_append]; rfl
    obtain ⟨t0, rfl, rfl, rfl⟩ := hP
    rw [hul, List.take_length]
    have S3 := same_new (o := .lst ((W.map fun w => w.2.2).map V.str)) hl2
    have hl13 := S3 _ _ hl1'
    have hl2' : upd H2 l2 (.lst ((W.map fun w => w.2.2).map V.str)) l2 = some (.lst ((W.map fun w => w.2.2).map V.str)) := upd_same
    generalize upd H2 l2 (.lst ((W.map fun w => w.2.2).map V.str)) = H3 at S3 hl13 hl2' ⊢
    obtain ⟨fr, hfr⟩ : ∃ fr, (W.map fun w => w.2.1) = fr := ⟨_, rfl⟩
    obtain ⟨bk, hbk⟩ : ∃ bk, (W.map fun w => w.2.2) = bk := ⟨_, rfl⟩
    rw [hfr] at hl13
    rw [hbk] at hl2'
    have turn : fr.drop 1 ++ fr.take 1 = bk := by rw [← hfr, ← hbk]; exact rp.turn
    have ndf : fr.Nodup := by rw [← hfr]; exact rp.nd
    have nmf : ∀ y ∈ fr, Nm y := fun y hy => by
      rw [← hfr] at hy
      obtain ⟨w, hw, rfl⟩ := List.mem_map.mp hy
      obtain ⟨r, hr, hx, _⟩ := wish_facts (rp.at_ w hw)
      exact hS.nm r (List.mem_of_getElem? hr) _ hx
    have nmb : ∀ y ∈ bk, Nm y := fun y hy => by
      rw [← turn] at hy
      rcases List.mem_append.mp hy with z | z
      · exact nmf y (List.mem_of_mem_drop z)
      · exact nmf y (List.mem_of_mem_take z)
    have lfr : fr.length ≤ 10 := by rw [← hfr, List.length_map]; exact rp.few
    have ec1 : cutV (fr.map V.str) (some (1 : Int)) none = (fr.drop 1).map V.str := by rw [show (1 : Int) = ((1 : Nat) : Int) from rfl, cut_from, List.map_drop]
    have ec2 : cutV (fr.map V.str) none (some (1 : Int)) = (fr.take 1).map V.str := by rw [show (1 : Int) = ((1 : Nat) : Int) from rfl, cut_to, List.map_take]
    refine ⟨_, rfl, _, rfl, _, rfl, l1, _, rfl, SqL.of hl13, fun s1 hs1 => ?_⟩
    rw [ec1]
    have S4 := same_new (o := .lst ((fr.drop 1).map V.str)) hs1
    refine ⟨_, rfl, _, rfl, l1, _, rfl, SqL.of (S4 _ _ hl13), fun s2 hs2 => ?_⟩
    rw [ec2]
    have S5 := same_new (o := .lst ((fr.take 1).map V.str)) hs2
    refine ⟨s1, s2, _, _, rfl, rfl, S5 _ _ upd_same, upd_same, ?_, fun s3 hs3 => ?_⟩
    · rw [List.length_map, List.length_map, List.length_drop, List.length_take, sizeLine_eq]; omega
    rw [← List.map_append, turn]
    have S6 := same_new (o := .lst (bk.map V.str)) hs3
    have S46 := S4.trans (S5.trans S6)
    refine ⟨.list _, .list _, .lst (S46 _ _ hl2') (strs_rep _ _), .lst upd_same (strs_rep _ _), strs_lay nmb, strs_lay nmb, ?_, ?_⟩
    · show PyData.depthAll _ + 1 ≤ 60
      rw [strs_depth]; decide
    have eqr : PyData.eqv (.list (bk.map PyData.str)) (.list (bk.map PyData.str)) = true := by
      show PyData.eqvAll _ _ = true
      rw [strs_eqv]; exact decide_eq_true rfl
    rw [eqr]
    have hl16 := S46 _ _ hl13
    refine ⟨true, rfl, ?_⟩
    refine ⟨_, rfl, l1, fr, rfl, .inl (SqL.of hl16), by omega, fun a ds ha nds mem => ?_⟩
    have S7 := same_new (o := SetO P w a ds) ha
    refine ⟨a, ds, rfl, upd_same, _, rfl, l1, _, rfl, .inl (SqL.of (S7 _ _ hl16)), rfl, ?_⟩
    rw [List.length_map, ((List.perm_ext_iff_of_nodup nds ndf).mpr mem).length_eq]
    have : decide (V.int (fr.length : Int) = V.int (fr.length : Int)) = true := decide_eq_true rfl
    rw [this]
    exact q _ (S1.trans (S2.trans (S3.trans (S46.trans S7))))
end
end K11
namespace K11
open PySem L2 PySem.W HT
section
variable {P : Program} {w : World} {K : Frag} {mg : Str → Option Value} {base : Heap} {f : Addr} {fd : FuncData}
abbrev nLRg : List Str := ["_law_rows_here", "_law_ring", "_law_begins", "_law_ends", "_law_wish"]
theorem scLRg : FnScope nLRg ["_law_rows_here", "_law_ring"] (defScope sLRing) := ⟨rfl, rfl, rfl, by decide +kernel, rfl, by decide +kernel, by decide +kernel⟩
theorem ok_lrg (F : Fun K "_law_is_ring" "_law_is_ring" sLRing f fd) (B : Blt mg) (B2 : Blt2 mg) (B3 : Blt3 mg) (bs : mg "set" = none) :
    FnOk P w K mg base CX0 1 f fd ["_law_rows_here", "_law_ring"] spIsRg := by
  refine F.ok scLRg (fun vs H Q E h => ?_) (fun cdv A outer s H vs Q E hr h => ?_)
  · unfold spIsRg at h; obtain ⟨t, p, ws, us, rows, W, rfl, _⟩ := h; rfl
  · unfold spIsRg at h
    obtain ⟨t, p, ws, us, rows, W, rfl, ht, hR, hS, hp, hW, rp, q⟩ := h
    have hu := hr.units
    refine ⟨_, pss_cons (ps_if (PW.pt (pw_or (pt_not (pt_val (pe_callB call_isi rfl B2.isi boot_isi (pa_cons (pv 1) (pa_cons (pe_bltn (v := .ty "tuple") rfl B.tuple boot_tuple rfl) pa_nil)))))
        (pw_or1 (pt_cmpR op_lt (pe_callB call_len_seq rfl B.len boot_len (pa_cons (pv 1) pa_nil)) pe_int (nomark _))))) (pss_one (ps_ret pe_bl)) pss_nil)
      (pss_cons (ps_set (i := 2) scLRg.nd rfl (Or.inl rfl) (pe_lst pa_nil))
      (pss_cons (ps_set (i := 3) scLRg.nd rfl (Or.inl rfl) (pe_lst pa_nil))
      (pss_cons (ps_for PassesOwn.never rfl (pi_tup (pv 1)) (pg_name (i := 4) scLRg.nd rfl (Or.inl rfl))
        (pss_cons (ps_if (PW.pt (pw_or (pt_not (pt_val (pe_callB call_isi rfl B2.isi boot_isi (pa_cons (pv 4) (pa_cons (pe_bltn (v := .ty "tuple") rfl B.tuple boot_tuple rfl) pa_nil)))))
          (pw_or (pt_cmpR op_ne (pe_callB call_len_seq rfl B.len boot_len (pa_cons (pv 4) pa_nil)) pe_int (nomark _))
          (pw_or (pt_not (pt_val (pe_callB call_isi rfl B2.isi boot_isi (pa_cons (pe_ix ix_tup (pv 4) pe_int (fun _ _ => rfl)) (pa_cons (pe_bltn (v := .ty "int") rfl B3.int boot_int rfl) pa_nil)))))
          (pw_or1 (pt_val (pe_callB call_isi rfl B2.isi boot_isi (pa_cons (pe_ix ix_tup (pv 4) pe_int (fun _ _ => rfl)) (pa_cons (pe_bltn (v := .ty "bool") rfl B3.bool boot_bool rfl) pa_nil))))))))) (pss_one (ps_ret pe_bl)) pss_nil)
        (pss_cons (ps_if (PW.pt (pw_or (pt_cmpR op_lt (pe_ix ix_tup (pv 4) pe_int (fun _ _ => rfl)) pe_int (nomark _))
          (pw_or (pt_cmpR op_ge (pe_ix ix_tup (pv 4) pe_int (fun _ _ => rfl)) (pe_callB call_len_seq rfl B.len boot_len (pa_cons (pv 0) pa_nil)) (nomark _))
          (pw_or (pt_cmpR op_notIn_seq (pe_ix ix_tup (pv 4) pe_int (fun _ _ => rfl)) (pe_ix ix_tup (pv 0) (pe_ix ix_tup (pv 4) pe_int (fun _ _ => rfl)) (fun _ _ => rfl)) rfl)
          (pw_or1 (pt_cmpR op_notIn_seq (pe_ix ix_tup (pv 4) pe_int (fun _ _ => rfl)) (pe_ix ix_tup (pv 0) (pe_ix ix_tup (pv 4) pe_int (fun _ _ => rfl)) (fun _ _ => rfl)) rfl)))))) (pss_one (ps_ret pe_bl)) pss_nil)
        (pss_cons (ps_if (pt_cmpR op_ge (pe_bm PySem.F.plainAttrs_tuple PySem.F.slot_tuple_index PySem.F.type_tuple_index mt_indexT (pe_ix ix_tup (pv 0) (pe_ix ix_tup (pv 4) pe_int (fun _ _ => rfl)) (fun _ _ => rfl)) (pa_cons (pe_ix ix_tup (pv 4) pe_int (fun _ _ => rfl)) pa_nil))
          (pe_bm PySem.F.plainAttrs_tuple PySem.F.slot_tuple_index PySem.F.type_tuple_index mt_indexT (pe_ix ix_tup (pv 0) (pe_ix ix_tup (pv 4) pe_int (fun _ _ => rfl)) (fun _ _ => rfl)) (pa_cons (pe_ix ix_tup (pv 4) pe_int (fun _ _ => rfl)) pa_nil)) (nomark _)) (pss_one (ps_ret pe_bl)) pss_nil)
        (pss_cons (ps_expr (pe_bm PySem.F.plainAttrs_list PySem.F.slot_list_append PySem.F.type_list_append mt_append (pv 2) (pa_cons (pe_ix ix_tup (pv 4) pe_int (fun _ _ => rfl)) pa_nil)))
        (pss_one (ps_expr (pe_bm PySem.F.plainAttrs_list PySem.F.slot_list_append PySem.F.type_list_append mt_append (pv 3) (pa_cons (pe_ix ix_tup (pv 4) pe_int (fun _ _ => rfl)) pa_nil)))))))))
      (pss_one (ps_ret (pe_and (pe_cmpR (op_eqD hu) (pe_op op_cat (pe_slice sl_list (pv 2) (po_some pe_int) po_none) (pe_slice sl_list (pv 2) po_none (po_some pe_int))) (pv 3) (nomark _))
        (pe_one (pe_cmpR op_eq (pe_callB call_lenSet rfl B.len boot_len (pa_cons (pe_callTy (call_set rfl) rfl bs boot_set (pa_cons (pv 2) pa_nil)) pa_nil)) (pe_callB call_len_seq rfl B.len boot_len (pa_cons (pv 2) pa_nil)) (nomark _))))))))), ?_⟩
    have hul := hW.length
    have hlen := rp.len
    have hfew := rp.few
    refine ⟨_, rfl, ⟨_, .inr ⟨"tuple", rfl⟩⟩, .ref p, .ty "tuple", .type "tuple", .type "tuple", true, rfl, rfl, .inl (.tup hp), rfl, true, rfl, ?_⟩
    refine ⟨_, rfl, p, _, rfl, .inr (SqT.of hp), us.length, 2, rfl, rfl, _, rfl, ?_⟩
    have e2 : decide ((us.length : Int) < 2) = false := decide_eq_false (by omega)
    rw [e2]
    refine ⟨Nat.zero_le _, fun ba hba => ⟨Nat.zero_le _, fun ea hea => ?_⟩⟩
    have Sb := same_new (o := .lst []) hba
    have S1 := Sb.trans (same_new (o := .lst []) hea)
    have nbe : ba ≠ ea := ne_of_none upd_same hea
    have heH : H ea = none := Sb.free hea
    refine ⟨_, rfl, p, rfl, ⟨_, SqT.of (S1 _ _ hp)⟩, for_tup (xs := us) (fun i σ H1 => ∃ v4 : Option V, σ = [some (.ref t), some (.ref p), some (.ref ba), some (.ref ea), v4] ∧ Same H H1 ∧ H1 ba = some (.lst (((W.take i).map fun w => w.2.1).map V.str)) ∧ H1 ea = some (.lst (((W.take i).map fun w => w.2.2).map V.str)))
      ⟨none, rfl, S1, by rw [upd_ne nbe]; exact upd_same, upd_same⟩ (fun i σ H1 _ ⟨_, _, z, _⟩ => SqT.of (z _ _ hp)) (fun i x σ H1 hx hP => ?_) (fun σ H1 hP => ?_)⟩
    · obtain ⟨v4, rfl, S, hb, he⟩ := hP
      obtain ⟨a, w, rfl, hwi, ha0⟩ := hW.get hx
      have ha := S _ _ ha0
      have hlt : i < us.length := (List.getElem?_eq_some_iff.mp hx).1
      have tk : W.take (i + 1) = W.take i ++ [w] := by rw [List.take_succ, hwi]; rfl
      obtain ⟨r, hri, hxr, hnr, j, hj, hno, hdr, htk⟩ := wish_facts (rp.at_ w (List.mem_of_getElem? hwi))
      obtain ⟨j2, hj2, hno2⟩ := first_at hnr
      have hjj : j < j2 := by
        by_cases z : j < j2
        · exact z
        · exact absurd (List.mem_of_getElem? (show (r.take (j + 1))[j2]? = some w.2.2 by rw [List.getElem?_take, if_pos (by omega)]; exact hj2)) htk
      have hil : w.1 < rows.length := (List.getElem?_eq_some_iff.mp hri).1
      have hwl := hR.length
      obtain ⟨v, hv⟩ : ∃ v, ws[w.1]? = some v := ⟨ws[w.1]'(by omega), List.getElem?_eq_getElem _⟩
      obtain ⟨b, r', rfl, hr', hb0⟩ := hR.get hv
      rw [hri] at hr'; cases hr'
      have hb1 := S _ _ hb0
      have ht1 := S _ _ ht
      have at0w : atI [V.int w.1, .str w.2.1, .str w.2.2] 0 = some (V.int w.1) := (show atI [V.int w.1, .str w.2.1, .str w.2.2] ((0 : Nat) : Int) = some (V.int w.1) from atI_nat rfl)
      have at1w : atI [V.int w.1, .str w.2.1, .str w.2.2] 1 = some (V.str w.2.1) := (show atI [V.int w.1, .str w.2.1, .str w.2.2] ((1 : Nat) : Int) = some (V.str w.2.1) from atI_nat rfl)
      have at2w : atI [V.int w.1, .str w.2.1, .str w.2.2] 2 = some (V.str w.2.2) := (show atI [V.int w.1, .str w.2.1, .str w.2.2] ((2 : Nat) : Int) = some (V.str w.2.2) from atI_nat rfl)
      refine ⟨_, rfl, ⟨_, .inr ⟨"tuple", rfl⟩⟩, .ref a, .ty "tuple", .type "tuple", .type "tuple", true, rfl, rfl, .inl (.tup ha), rfl, true, rfl, ?_⟩
      refine ⟨_, rfl, a, _, rfl, .inr (SqT.of ha), rfl, _, rfl, ?_⟩
      refine ⟨_, rfl, a, _, 0, .int w.1, rfl, rfl, SqT.of ha, at0w, ⟨_, .inr ⟨"int", rfl⟩⟩, .int w.1, .ty "int", .type "int", .type "int", true, rfl, rfl, .inl (.int _), rfl, true, rfl, ?_⟩
      refine ⟨_, rfl, a, _, 0, .int w.1, rfl, rfl, SqT.of ha, at0w, ⟨_, .inr ⟨"bool", rfl⟩⟩, .int w.1, .ty "bool", .type "int", .type "bool", false, rfl, rfl, .inl (.int _), rfl, false, rfl, ?_⟩
      refine ⟨_, rfl, a, _, 0, .int w.1, rfl, rfl, SqT.of ha, at0w, w.1, 0, rfl, rfl, _, rfl, ?_⟩
      rw [show decide ((w.1 : Int) < 0) = false from decide_eq_false (by omega)]
      refine ⟨_, rfl, a, _, 0, .int w.1, rfl, rfl, SqT.of ha, at0w, _, rfl, t, _, rfl, .inr (SqT.of ht1), w.1, ws.length, rfl, rfl, _, rfl, ?_⟩
      rw [show decide ((ws.length : Int) ≤ (w.1 : Int)) = false from decide_eq_false (by omega)]
      have rowA : atI ws (w.1 : Int) = some (.ref b) := atI_nat hv
      refine ⟨_, rfl, a, _, 1, .str w.2.1, rfl, rfl, SqT.of ha, at1w, _, rfl, _, rfl, a, _, 0, .int w.1, rfl, rfl, SqT.of ha, at0w, t, ws, w.1, .ref b, rfl, rfl, SqT.of ht1, rowA, b, _, rfl, .inr (SqT.of hb1), rfl, flat_strs _, _, rfl, ?_⟩
      rw [if_pos rfl, inV_strs, decide_eq_true hxr]
      refine ⟨_, rfl, a, _, 2, .str w.2.2, rfl, rfl, SqT.of ha, at2w, _, rfl, _, rfl, a, _, 0, .int w.1, rfl, rfl, SqT.of ha, at0w, t, ws, w.1, .ref b, rfl, rfl, SqT.of ht1, rowA, b, _, rfl, .inr (SqT.of hb1), rfl, flat_strs _, _, rfl, ?_⟩
      rw [if_pos rfl, inV_strs, decide_eq_true hnr]
      refine ⟨_, rfl, _, rfl, a, _, 0, .int w.1, rfl, rfl, SqT.of ha, at0w, t, ws, w.1, .ref b, rfl, rfl, SqT.of ht1, rowA, .inr (.inr (.inr (.inr ⟨rfl, _, Rd.of hb1⟩))), _, rfl, a, _, 1, .str w.2.1, rfl, rfl, SqT.of ha, at1w, b, r, w.2.1, j, rfl, rfl, SqT.of hb1, hj, hno, ?_⟩
      refine ⟨_, rfl, _, rfl, a, _, 0, .int w.1, rfl, rfl, SqT.of ha, at0w, t, ws, w.1, .ref b, rfl, rfl, SqT.of ht1, rowA, .inr (.inr (.inr (.inr ⟨rfl, _, Rd.of hb1⟩))), _, rfl, a, _, 2, .str w.2.2, rfl, rfl, SqT.of ha, at2w, b, r, w.2.2, j2, rfl, rfl, SqT.of hb1, hj2, hno2, j, j2, rfl, rfl, _, rfl, ?_⟩
      rw [show decide ((j2 : Int) ≤ (j : Int)) = false from decide_eq_false (by omega)]
      have lt1 : (W.take i).length ≤ 10 := by rw [List.length_take]; omega
      refine ⟨_, rfl, .inl ⟨rfl, _, SqL.of hb⟩, _, rfl, a, _, 1, .str w.2.1, rfl, rfl, SqT.of ha, at1w, ba, _, _, rfl, rfl, hb, by rw [List.length_map, List.length_map, sizeLine_eq]; omega, ?_⟩
      have na : a ≠ ba := ne_of ha hb (by intro z; cases z)
      have na2 : a ≠ ea := ne_of ha he (by intro z; cases z)
      have S2 : Same H (upd H1 ba (.lst (((W.take i).map fun w => w.2.1).map V.str ++ [.str w.2.1]))) := fun c o e => by rw [upd_ne (ne_of_none e hba)]; exact S c o e
      have he2 : upd H1 ba (.lst (((W.take i).map fun w => w.2.1).map V.str ++ [.str w.2.1])) ea = some (.lst (((W.take i).map fun w => w.2.2).map V.str)) := by rw [upd_ne (Ne.symm nbe)]; exact he
      have hb2 : upd H1 ba (.lst (((W.take i).map fun w => w.2.1).map V.str ++ [.str w.2.1])) ba = some (.lst (((W.take (i + 1)).map fun w => w.2.1).map V.str)) := by rw [upd_same, tk, List.map_append, List.map_append]; rfl
      have ha2 : upd H1 ba (.lst (((W.take i).map fun w => w.2.1).map V.str ++ [.str w.2.1])) a = some (.tup [.int w.1, .str w.2.1, .str w.2.2]) := by rw [upd_ne na]; exact ha
      generalize upd H1 ba (.lst (((W.take i).map fun w => w.2.1).map V.str ++ [.str w.2.1])) = H2 at S2 he2 hb2 ha2 ⊢
      refine ⟨_, rfl, .inl ⟨rfl, _, SqL.of he2⟩, _, rfl, a, _, 2, .str w.2.2, rfl, rfl, SqT.of ha2, at2w, ea, _, _, rfl, rfl, he2, by rw [List.length_map, List.length_map, sizeLine_eq]; omega, ?_⟩
      refine ⟨_, rfl, fun c o e => by rw [upd_ne (ne_of_none e heH)]; exact S2 c o e, by rw [upd_ne nbe]; exact hb2, ?_⟩
      rw [upd_same, tk, List.map_append, List.map_append]; rfl
    · obtain ⟨v4, rfl, S, hb, he⟩ := hP
      rw [hul, List.take_length] at hb he
      obtain ⟨fr, hfr⟩ : ∃ fr, (W.map fun w => w.2.1) = fr := ⟨_, rfl⟩
      obtain ⟨bk, hbk⟩ : ∃ bk, (W.map fun w => w.2.2) = bk := ⟨_, rfl⟩
      rw [hfr] at hb
      rw [hbk] at he
      have turn : fr.drop 1 ++ fr.take 1 = bk := by rw [← hfr, ← hbk]; exact rp.turn
      have ndf : fr.Nodup := by rw [← hfr]; exact rp.nd
      have nmf : ∀ y ∈ fr, Nm y := fun y hy => by
        rw [← hfr] at hy
        obtain ⟨w, hw, rfl⟩ := List.mem_map.mp hy
        obtain ⟨r, hr, hx, _⟩ := wish_facts (rp.at_ w hw)
        exact hS.nm r (List.mem_of_getElem? hr) _ hx
      have nmb : ∀ y ∈ bk, Nm y := fun y hy => by
        rw [← turn] at hy
        rcases List.mem_append.mp hy with z | z
        · exact nmf y (List.mem_of_mem_drop z)
        · exact nmf y (List.mem_of_mem_take z)
      have lfr : fr.length ≤ 10 := by rw [← hfr, List.length_map]; exact rp.few
      have ec1 : cutV (fr.map V.str) (some (1 : Int)) none = (fr.drop 1).map V.str := by rw [show (1 : Int) = ((1 : Nat) : Int) from rfl, cut_from, List.map_drop]
      have ec2 : cutV (fr.map V.str) none (some (1 : Int)) = (fr.take 1).map V.str := by rw [show (1 : Int) = ((1 : Nat) : Int) from rfl, cut_to, List.map_take]
      refine ⟨_, rfl, _, rfl, ba, _, rfl, SqL.of hb, fun s1 hs1 => ?_⟩
      rw [ec1]
      have S4 := same_new (o := .lst ((fr.drop 1).map V.str)) hs1
      refine ⟨_, rfl, _, rfl, ba, _, rfl, SqL.of (S4 _ _ hb), fun s2 hs2 => ?_⟩
      rw [ec2]
      have S5 := same_new (o := .lst ((fr.take 1).map V.str)) hs2
      refine ⟨s1, s2, _, _, rfl, rfl, S5 _ _ upd_same, upd_same, ?_, fun s3 hs3 => ?_⟩
      · rw [List.length_map, List.length_map, List.length_drop, List.length_take, sizeLine_eq]; omega
      rw [← List.map_append, turn]
      have S6 := same_new (o := .lst (bk.map V.str)) hs3
      have S46 := S4.trans (S5.trans S6)
      refine ⟨_, rfl, .list _, .list _, .lst upd_same (strs_rep _ _), .lst (S46 _ _ he) (strs_rep _ _), strs_lay nmb, strs_lay nmb, ?_, ?_⟩
      · show PyData.depthAll _ + 1 ≤ 60
        rw [strs_depth]; decide
      have eqr : PyData.eqv (.list (bk.map PyData.str)) (.list (bk.map PyData.str)) = true := by
        show PyData.eqvAll _ _ = true
        rw [strs_eqv]; exact decide_eq_true rfl
      rw [eqr]
      have hb6 := S46 _ _ hb
      refine ⟨true, rfl, ?_⟩
      refine ⟨_, rfl, ba, fr, rfl, .inl (SqL.of hb6), by omega, fun a ds ha nds mem => ?_⟩
      have S7 := same_new (o := SetO P w a ds) ha
      refine ⟨a, ds, rfl, upd_same, _, rfl, ba, _, rfl, .inl (SqL.of (S7 _ _ hb6)), rfl, ?_⟩
      rw [List.length_map, ((List.perm_ext_iff_of_nodup nds ndf).mpr mem).length_eq]
      have : decide (V.int (fr.length : Int) = V.int (fr.length : Int)) = true := decide_eq_true rfl
      rw [this]
      exact q _ (S.trans (S46.trans S7))
end
end K11
namespace K11
open PySem L2 PySem.W HT
theorem keys_putK (kvs : List (Key × V)) (k : Key) (v : V) : (k ∈ kvs.map (·.1) ∧ (putK kvs k v).map (·.1) = kvs.map (·.1)) ∨ (k ∉ kvs.map (·.1) ∧ (putK kvs k v).map (·.1) = kvs.map (·.1) ++ [k]) := by
  have e : (kvs.any fun kv => decide (kv.1 = k)) = true ↔ k ∈ kvs.map (·.1) := by
    rw [List.any_eq_true, List.mem_map]
    exact ⟨fun ⟨x, h, d⟩ => ⟨x, h, of_decide_eq_true d⟩, fun ⟨x, h, d⟩ => ⟨x, h, decide_eq_true d⟩⟩
  unfold putK
  by_cases h : k ∈ kvs.map (·.1)
  · refine .inl ⟨h, ?_⟩
    rw [if_pos (e.mpr h), List.map_map]
    refine List.map_congr_left fun kv _ => ?_
    show (if kv.1 = k then (kv.1, v) else kv).1 = kv.1
    split <;> rfl
  · refine .inr ⟨h, ?_⟩
    rw [if_neg fun z => h (e.mp z), List.map_append]; rfl
theorem put_keys {kvs : List (Key × V)} {ks : List Str} {n : Str} {v : V} (e : kvs.map (·.1) = ks.map Sum.inr) (nd : ks.Nodup) : ∃ ks' : List Str, (putK kvs (Sum.inr n) v).map (·.1) = ks'.map Sum.inr ∧ ks'.Nodup ∧ ∀ y, y ∈ ks' ↔ y = n ∨ y ∈ ks := by
  have im : (Sum.inr n : Key) ∈ ks.map Sum.inr ↔ n ∈ ks := by
    rw [List.mem_map]
    exact ⟨fun ⟨y, hy, e⟩ => by cases e; exact hy, fun h => ⟨n, h, rfl⟩⟩
  rcases keys_putK kvs (Sum.inr n) v with ⟨h, e1⟩ | ⟨h, e1⟩
  · rw [e] at h e1
    exact ⟨ks, e1, nd, fun y => ⟨.inr, fun z => z.elim (fun e => e ▸ im.mp h) id⟩⟩
  · rw [e] at h e1
    refine ⟨ks ++ [n], by rw [e1, List.map_append]; rfl, ?_, fun y => by rw [List.mem_append, List.mem_singleton]; exact Or.comm⟩
    rw [List.nodup_append]
    exact ⟨nd, by simp, fun a ha b hb e => h (im.mpr (by rw [← List.mem_singleton.mp hb, ← e]; exact ha))⟩
theorem ints_rep (H : Hp) : ∀ ns : List Int, RepAll H (ns.map V.int) (ns.map PyData.int)
  | [] => .nil
  | n :: ns => .cons (.int n) (ints_rep H ns)
theorem ints_lay : ∀ ns : List Int, PyData.canLayAll0 (ns.map PyData.int) = true
  | [] => rfl
  | n :: ns => by
    show (PyData.canLay0 (.int n) && PyData.canLayAll0 (ns.map PyData.int)) = true
    rw [ints_lay ns]; rfl
theorem ints_depth : ∀ ns : List Int, PyData.depthAll (ns.map PyData.int) = 0
  | [] => rfl
  | n :: ns => by rw [List.map_cons]; simp only [PyData.depthAll, PyData.depth, ints_depth ns, Nat.max_self]
theorem ints_eqv : ∀ ns : List Int, PyData.eqvAll (ns.map PyData.int) (ns.map PyData.int) = true
  | [] => rfl
  | n :: ns => by
    show ((n == n) && PyData.eqvAll (ns.map PyData.int) (ns.map PyData.int)) = true
    rw [ints_eqv ns]; simp
theorem idx_in {o : List Str} {n : Str} (h : n ∈ o) : o[o.idxOf n]? = some n ∧ ∀ m, m < o.idxOf n → o[m]? ≠ some n := by
  obtain ⟨j, h1, h2⟩ := first_at h
  have e := idx_first h1 h2
  rw [e]; exact ⟨h1, h2⟩
theorem places_up {o : List Str} (nd : o.Nodup) (p : Str → Bool) : ((o.filter p).map fun n => (o.idxOf n : Int)).Pairwise (· ≤ ·) := by
  have h : o.Pairwise fun a b => (o.idxOf a : Int) ≤ (o.idxOf b : Int) := by
    rw [List.pairwise_iff_getElem]
    intro i j hi hj hij
    have ix : ∀ (i : Nat) (hi : i < o.length), o.idxOf o[i] = i := fun i hi => idx_first (List.getElem?_eq_getElem hi) fun m hm z => by
      rw [List.getElem?_eq_getElem (by omega)] at z
      have := (List.getElem_inj nd).mp (Option.some.inj z)
      omega
    rw [ix i hi, ix j hj]; omega
  rw [List.pairwise_map]
  exact h.filter p
theorem call_isi_K {X : Cx} (K : Frag) (h : X.K = K) : CallR X (.builtin "isinstance") (fun xs H Q => (∃ x, (∃ C, xs = [x, .ref C]) ∨ (∃ T, xs = [x, .ty T])) ∧ rIsi K xs H Q) := by subst h; exact call_isi
section
variable {P : Program} {w : World} {K : Frag} {mg : Str → Option Value} {base : Heap} {f : Addr} {fd : FuncData}
structure OrdOf (rows : List (List Str)) (o : List Str) : Prop where
  nd : o.Nodup
  mem : ∀ x, x ∈ o ↔ ∃ r ∈ rows, x ∈ r
  kp : ∀ r ∈ rows, (o.filter fun n => decide (n ∈ r)) = r
  few : o.length ≤ 63
@[irreducible] def spKp : Sp := fun vs H Q _ => ∃ (t oa : Addr) (ws : List V) (rows : List (List Str)) (o : List Str), vs = [.ref t, .ref oa] ∧ H t = some (.tup ws) ∧ RowsV H ws rows ∧ Small rows ∧ H oa = some (.tup (o.map V.str)) ∧ OrdOf rows o ∧ ∀ H', Same H H' → Q (.bl true) H'
theorem kp_sp {t oa : Addr} {ws : List V} {rows : List (List Str)} {o : List Str} {H : Hp} {Q : VK} {E : XK} (ht : H t = some (.tup ws)) (hR : RowsV H ws rows) (hS : Small rows) (ho : H oa = some (.tup (o.map V.str))) (oo : OrdOf rows o) (q : ∀ H', Same H H' → Q (.bl true) H') : spKp [.ref t, .ref oa] H Q E := by
  unfold spKp; exact ⟨t, oa, ws, rows, o, rfl, ht, hR, hS, ho, oo, q⟩
abbrev nKp : List Str := ["_law_rows_here", "_law_order", "_law_names_here", "_law_row", "_law_name", "_law_places"]
theorem scKp : FnScope nKp ["_law_rows_here", "_law_order"] (defScope sKept) := ⟨rfl, rfl, rfl, by decide +kernel, rfl, by decide +kernel, by decide +kernel⟩
abbrev eP1 : Expr := arg0 (notV (boolAt (ifTest (bodyAt (defBody sKept) 2)) 1))
abbrev eP2 : Expr := asgV (bodyAt (forBody (bodyAt (defBody sKept) 4)) 0)
theorem csP1 : CompScope nKp (defScope sKept) ["_law_one"] [none] (compSc eP1) := ⟨rfl, by decide +kernel, by decide +kernel, rfl, fv_of (by decide +kernel), by decide +kernel⟩
theorem csP2 : CompScope nKp (defScope sKept) ["_law_name", "_law_order"] [none, some 1] (compSc eP2) := ⟨rfl, by decide +kernel, by decide +kernel, rfl, fv_of (by decide +kernel), by decide +kernel⟩
theorem ok_kp (F : Fun K "_law_is_kept" "_law_is_kept" sKept f fd) (B : Blt mg) (B2 : Blt2 mg) : FnOk P w K mg base CX0 1 f fd ["_law_rows_here", "_law_order"] spKp := by
  refine F.ok scKp (fun vs H Q E h => ?_) (fun cdv A outer s H vs Q E hr h => ?_)
  · unfold spKp at h; obtain ⟨t, oa, ws, rows, o, rfl, _⟩ := h; rfl
  · unfold spKp at h
    obtain ⟨t, oa, ws, rows, o, rfl, ht, hR, hS, ho, oo, q⟩ := h
    have hu := hr.units
    have hu1 := Nat.lt_of_le_of_lt (Nat.add_le_add_left (show 1 ≤ 64 by decide) _) hu
    refine ⟨_, pss_cons (ps_set (i := 2) scKp.nd rfl (Or.inl rfl) pe_dnewK)
      (pss_cons (ps_for PassesOwn.never rfl (pi_tup (pv 0)) (pg_name (i := 3) scKp.nd rfl (Or.inl rfl))
        (pss_one (ps_for PassesOwn.never rfl (pi_tup (pv 3)) (pg_name (i := 4) scKp.nd rfl (Or.inl rfl)) (pss_one (ps_dput hu1 (pv 2) (pv 4) pe_bl rfl)))))
      (pss_cons (ps_if (PW.pt (pw_or (pt_not (pt_val (pe_callB call_isi rfl B2.isi boot_isi (pa_cons (pv 1) (pa_cons (pe_bltn (v := .ty "tuple") rfl B.tuple boot_tuple rfl) pa_nil)))))
        (pw_or1 (pt_not (pt_val (pe_callB (call_allB rfl) rfl B.all boot_all (pa_cons (pe_comp rfl csP1 (pi_tup (pv 1)) (fun s H fp => ⟨pg_name (i := 0) csP1.nd rfl (Or.inl rfl), pifs_nil, pe_callB (call_isi_K K rfl) rfl B2.isi boot_isi (pa_cons (pv 0) (pa_cons (pe_bltn (v := .ty "str") rfl B2.str boot_str rfl) pa_nil))⟩)) pa_nil))))))) (pss_one (ps_ret pe_bl)) pss_nil)
      (pss_cons (ps_if (pt_cmpR (op_neD hu) (pe_callB call_sortedT rfl B2.sorted boot_sorted (pa_cons (pv 1) pa_nil)) (pe_callB (call_sortedDk rfl) rfl B2.sorted boot_sorted (pa_cons (pv 2) pa_nil)) (nomark _)) (pss_one (ps_ret pe_bl)) pss_nil)
      (pss_cons (ps_for PassesOwn.never rfl (pi_tup (pv 0)) (pg_name (i := 3) scKp.nd rfl (Or.inl rfl))
        (pss_cons (ps_setComp (i := 5) rfl csP2 scKp.nd rfl rfl (pi_tup (pv 3)) (fun s H fp => ⟨pg_name (i := 0) csP2.nd rfl (Or.inl rfl), pifs_nil, pe_bm_K K rfl PySem.F.plainAttrs_tuple PySem.F.slot_tuple_index PySem.F.type_tuple_index (mt_indexT_K K rfl) (pv 1) (pa_cons (pv 0) pa_nil)⟩))
        (pss_one (ps_if (pt_cmpR (op_neD hu) (pv 5) (pe_callB call_sortedI rfl B2.sorted boot_sorted (pa_cons (pv 5) pa_nil)) (nomark _)) (pss_one (ps_ret pe_bl)) pss_nil))))
      (pss_one (ps_ret pe_bl)))))), ?_⟩
    have nmo : ∀ y ∈ o, Nm y := fun y hy => by
      obtain ⟨r, hr, h⟩ := (oo.mem y).mp hy
      exact hS.nm r hr y h
    have fewo := oo.few
    have few_o : ∀ {ks : List Str}, ks.Nodup → (∀ y ∈ ks, ∃ r ∈ rows, y ∈ r) → ks.length ≤ 63 := fun nd h => Nat.le_trans (few_in nd fun y hy => (oo.mem y).mpr (h y hy)) fewo
    refine fun d hd => ?_
    have Sd := same_new (o := .dK []) hd
    refine ⟨_, rfl, t, rfl, ⟨_, SqT.of (Sd _ _ ht)⟩, for_tup (xs := ws) (fun i σ H1 => ∃ (v3 v4 : Option V) (kvs : List (Key × V)) (ks : List Str), σ = [some (.ref t), some (.ref oa), some (.ref d), v3, v4, none] ∧ Same H H1 ∧ H1 d = some (.dK kvs) ∧ kvs.map (·.1) = ks.map Sum.inr ∧ ks.Nodup ∧ ∀ y, y ∈ ks ↔ ∃ r ∈ rows.take i, y ∈ r)
      ⟨none, none, [], [], rfl, Sd, upd_same, rfl, List.nodup_nil, fun y => by simp⟩ (fun i σ H1 _ ⟨_, _, _, _, _, z, _⟩ => SqT.of (z _ _ ht)) (fun i x σ H1 hx hP => ?_) (fun σ H1 hP => ?_)⟩
    · obtain ⟨v3, v4, kvs, ks, rfl, S1, hd1, ek, nd, mem⟩ := hP
      obtain ⟨a, r, rfl, hri, har⟩ := hR.get hx
      have hrm := List.mem_of_getElem? hri
      have tk : rows.take (i + 1) = rows.take i ++ [r] := by rw [List.take_succ, hri]; rfl
      refine ⟨_, rfl, a, rfl, ⟨_, SqT.of (S1 _ _ har)⟩, for_tup (xs := r.map V.str) (fun j σ H2 => ∃ (v4 : Option V) (kvs : List (Key × V)) (ks : List Str), σ = [some (.ref t), some (.ref oa), some (.ref d), some (.ref a), v4, none] ∧ Same H H2 ∧ H2 d = some (.dK kvs) ∧ kvs.map (·.1) = ks.map Sum.inr ∧ ks.Nodup ∧ ∀ y, y ∈ ks ↔ (∃ r ∈ rows.take i, y ∈ r) ∨ y ∈ r.take j)
        ⟨_, kvs, ks, rfl, S1, hd1, ek, nd, fun y => by rw [mem y]; simp⟩ (fun j σ H2 _ ⟨_, _, _, _, z, _⟩ => SqT.of (z _ _ har)) (fun j x σ H2 hx2 hP2 => ?_) (fun σ H2 hP2 => ?_)⟩
      · obtain ⟨v4, kvs, ks, rfl, S2, hd2, ek, nd, mem⟩ := hP2
        have hjr : j < r.length := by simpa using (List.getElem?_eq_some_iff.mp hx2).1
        obtain rfl : V.str r[j] = x := by simpa [hjr] using hx2
        have tkj : r.take (j + 1) = r.take j ++ [r[j]] := by rw [List.take_succ, List.getElem?_eq_getElem hjr]; rfl
        obtain ⟨ks', e1, nd1, m1⟩ := put_keys (n := r[j]) (v := .bl true) ek nd
        have lk : kvs.length ≤ 63 := by
          have := few_o nd fun y hy => by
            rcases (mem y).mp hy with ⟨q, hq, h⟩ | h
            · exact ⟨q, List.mem_of_mem_take hq, h⟩
            · exact ⟨r, hrm, List.mem_of_mem_take h⟩
          have e := congrArg List.length ek
          rw [List.length_map, List.length_map] at e
          omega
        refine ⟨_, rfl, _, rfl, d, _, rfl, DPut.k (k := Sum.inr r[j]) hd2 (by rw [sizeLine_eq]; omega), ?_⟩
        refine ⟨_, _, ks', rfl, fun b u e => ?_, upd_same, e1, nd1, fun y => ?_⟩
        · rw [upd_ne (ne_of_none e hd)]; exact S2 b u e
        · rw [m1 y, mem y, tkj, List.mem_append, List.mem_singleton]
          constructor
          · rintro (z | z | z)
            · exact .inr (.inr z)
            · exact .inl z
            · exact .inr (.inl z)
          · rintro (z | z | z)
            · exact .inr (.inl z)
            · exact .inr (.inr z)
            · exact .inl z
      · obtain ⟨v4, kvs, ks, rfl, S2, hd2, ek, nd, mem⟩ := hP2
        rw [List.length_map, List.take_length] at mem
        refine ⟨_, _, kvs, ks, rfl, S2, hd2, ek, nd, fun y => ?_⟩
        rw [mem y, tk]
        constructor
        · rintro (⟨q, hq, h⟩ | h)
          · exact ⟨q, List.mem_append_left _ hq, h⟩
          · exact ⟨r, List.mem_append_right _ (List.mem_singleton.mpr rfl), h⟩
        · rintro ⟨q, hq, h⟩
          rcases List.mem_append.mp hq with z | z
          · exact .inl ⟨q, z, h⟩
          · rw [List.mem_singleton.mp z] at h; exact .inr h
    · obtain ⟨v3, v4, kvs, ks, rfl, S1, hd1, ek, nd, mem⟩ := hP
      rw [hR.length, List.take_length] at mem
      have ho1 := S1 _ _ ho
      have pko : ks.Perm o := (List.perm_ext_iff_of_nodup nd oo.nd).mpr fun y => by rw [mem y, oo.mem y]
      refine ⟨_, rfl, ⟨_, .inr ⟨"tuple", rfl⟩⟩, .ref oa, .ty "tuple", .type "tuple", .type "tuple", true, rfl, rfl, .inl (.tup ho1), rfl, true, rfl, ?_⟩
      refine ⟨_, rfl, oa, rfl, ⟨_, SqT.of ho1⟩, fun c1 hc1 => ?_⟩
      refine comp_tup (xs := o.map V.str) (fun i ys τ H2 => ∃ t0 : Option V, τ = [t0] ∧ ys = (List.replicate i true).map V.bl ∧ H2 = upd H1 c1 (.lst ys)) ⟨none, rfl, rfl, rfl⟩ (fun i ys τ H2 ⟨_, _, _, z⟩ => by rw [z]; exact ⟨upd_same, SqT.of (by rw [upd_ne (ne_of_none ho1 hc1)]; exact ho1)⟩) (fun i x ys τ H2 hx hP => ?_) (fun ys τ H2 hP => ?_)
      · obtain ⟨t0, rfl, rfl, rfl⟩ := hP
        have hjl : i < (o.map V.str).length := (List.getElem?_eq_some_iff.mp hx).1
        have hil : i < o.length := by simpa using hjl
        obtain rfl : V.str o[i] = x := by simpa [hil] using hx
        refine ⟨_, rfl, ⟨_, .inr ⟨"str", rfl⟩⟩, .str o[i], .ty "str", .type "str", .type "str", true, rfl, rfl, .inl (.str _), rfl, upd_same, by rw [List.length_map, List.length_replicate, sizeLine_eq]; omega, cw_next hjl ⟨_, rfl, ?_, by rw [upd_upd]⟩⟩
        rw [List.replicate_succ', List.map_append]; rfl
      obtain ⟨t0, rfl, rfl, rfl⟩ := hP
      refine ⟨c1, _, rfl, SqL.of upd_same, _, rfl, ?_⟩
      have : (List.replicate (o.map V.str).length true).all id = true := by simp
      rw [this]
      have S2 := same_new (o := .lst ((List.replicate (o.map V.str).length true).map V.bl)) hc1
      have ho2 := S2 _ _ ho1
      have hd2 := S2 _ _ hd1
      generalize upd H1 c1 (.lst ((List.replicate (o.map V.str).length true).map V.bl)) = H2 at S2 ho2 hd2 ⊢
      refine ⟨_, rfl, oa, o, rfl, SqT.of ho2, oo.few, fun D1 s1 hD1 p1 so1 => ?_⟩
      have S3 := same_new (o := .lst (s1.map V.str)) hD1
      refine ⟨_, rfl, d, kvs, ks, rfl, S3 _ _ hd2, ek, by rw [pko.length_eq]; exact oo.few, fun D2 s2 hD2 p2 so2 => ?_⟩
      have S4 := same_new (o := .lst (s2.map V.str)) hD2
      have e12 : s1 = s2 := sortedS_uniq so1 so2 (p1.trans (pko.symm.trans p2.symm))
      have nm1 : ∀ y ∈ s1, Nm y := fun y hy => nmo y (p1.mem_iff.mp hy)
      have nm2 : ∀ y ∈ s2, Nm y := fun y hy => nm1 y (by rw [e12]; exact hy)
      refine ⟨.list _, .list _, .lst (S4 _ _ upd_same) (strs_rep _ _), .lst upd_same (strs_rep _ _), strs_lay nm1, strs_lay nm2, ?_, _, rfl, ?_⟩
      · show PyData.depthAll _ + 1 ≤ 60
        rw [strs_depth]; decide
      have eqr : PyData.eqv (.list (s1.map PyData.str)) (.list (s2.map PyData.str)) = true := by
        show PyData.eqvAll _ _ = true
        rw [strs_eqv]; exact decide_eq_true e12
      rw [eqr]
      have S5 := S1.trans (S2.trans (S3.trans S4))
      generalize upd (upd H2 D1 (.lst (s1.map V.str))) D2 (.lst (s2.map V.str)) = H3 at S5 ⊢
      refine ⟨_, rfl, t, rfl, ⟨_, SqT.of (S5 _ _ ht)⟩, for_tup (xs := ws) (fun i σ H4 => ∃ (v3 v4 v5 : Option V), σ = [some (.ref t), some (.ref oa), some (.ref d), v3, v4, v5] ∧ Same H H4) ⟨_, _, _, rfl, S5⟩ (fun i σ H4 _ ⟨_, _, _, _, z⟩ => SqT.of (z _ _ ht)) (fun i x σ H4 hx hP => ?_) (fun σ H4 hP => ?_)⟩
      · obtain ⟨v3, v4, v5, rfl, S⟩ := hP
        obtain ⟨a, r, rfl, hri, har⟩ := hR.get hx
        have hrm := List.mem_of_getElem? hri
        have hrl := hS.short r hrm
        have ha4 := S _ _ har
        have ho4 := S _ _ ho
        refine ⟨_, rfl, a, rfl, ⟨_, SqT.of ha4⟩, fun l hl => ?_⟩
        have ho5 : ∀ u, upd H4 l u oa = some (.tup (o.map V.str)) := fun u => by rw [upd_ne (ne_of_none ho4 hl)]; exact ho4
        refine comp_tup (xs := r.map V.str) (fun j ys τ H5 => ∃ t0 : Option V, τ = [t0, some (.ref oa)] ∧ ys = ((r.take j).map fun n => (o.idxOf n : Int)).map V.int ∧ H5 = upd H4 l (.lst ys)) ⟨none, rfl, rfl, rfl⟩ (fun j ys τ H5 ⟨_, _, _, z⟩ => by rw [z]; exact ⟨upd_same, SqT.of (by rw [upd_ne (ne_of_none ha4 hl)]; exact ha4)⟩) (fun j x ys τ H5 hx5 hP5 => ?_) (fun ys τ H5 hP5 => ?_)
        · obtain ⟨t0, rfl, rfl, rfl⟩ := hP5
          have hjl : j < (r.map V.str).length := (List.getElem?_eq_some_iff.mp hx5).1
          have hjr : j < r.length := by simpa using hjl
          obtain rfl : V.str r[j] = x := by simpa [hjr] using hx5
          have tkj : r.take (j + 1) = r.take j ++ [r[j]] := by rw [List.take_succ, List.getElem?_eq_getElem hjr]; rfl
          obtain ⟨i1, i2⟩ := idx_in ((oo.mem r[j]).mpr ⟨r, hrm, List.getElem_mem hjr⟩)
          refine ⟨_, rfl, .inr (.inr (.inr (.inr ⟨rfl, _, Rd.of (ho5 _)⟩))), _, rfl, oa, o, r[j], o.idxOf r[j], rfl, rfl, SqT.of (ho5 _), i1, i2, upd_same, ?_, cw_next hjl ⟨_, rfl, ?_, by rw [upd_upd]⟩⟩
          · rw [List.length_map, List.length_map, List.length_take, sizeLine_eq]; omega
          · rw [tkj, List.map_append, List.map_append]; rfl
        obtain ⟨t0, rfl, rfl, rfl⟩ := hP5
        rw [List.length_map, List.take_length]
        obtain ⟨ns, hns⟩ : ∃ ns, (r.map fun n => (o.idxOf n : Int)) = ns := ⟨_, rfl⟩
        rw [hns]
        have up : ns.Pairwise (· ≤ ·) := by
          have z := places_up oo.nd fun n => decide (n ∈ r)
          rw [oo.kp r hrm, hns] at z
          exact z
        have S6 := same_new (o := .lst (ns.map V.int)) hl
        refine ⟨_, rfl, _, rfl, l, ns, rfl, SqL.of upd_same, by rw [← hns, List.length_map]; omega, fun D ns' hD pm so => ?_⟩
        have e : ns' = ns := List.Perm.eq_of_pairwise (fun _ _ _ _ a b => Int.le_antisymm a b) so up pm
        subst e
        have S7 := same_new (o := .lst (ns'.map V.int)) hD
        refine ⟨.list _, .list _, .lst (S7 _ _ upd_same) (ints_rep _ _), .lst upd_same (ints_rep _ _), ints_lay _, ints_lay _, ?_, _, rfl, ?_⟩
        · show PyData.depthAll _ + 1 ≤ 60
          rw [ints_depth]; decide
        have eqr : PyData.eqv (.list (ns'.map PyData.int)) (.list (ns'.map PyData.int)) = true := ints_eqv ns'
        rw [eqr]
        exact ⟨_, _, _, rfl, S.trans (S6.trans S7)⟩
      · obtain ⟨v3, v4, v5, rfl, S⟩ := hP
        exact q _ S
end
end K11
namespace K11
open PySem L2 PySem.W HT
section
variable {P : Program} {w : World} {K : Frag} {mg : Str → Option Value} {base : Heap} {f : Addr} {fd : FuncData}
/-! ### names_within's promise; keeps -/
@[irreducible] def spNW : Sp := fun vs H Q _ => ∃ (t : Addr) (ws : List V) (rows : List (List Str)) (o : List Str), vs = [.ref t] ∧ H t = some (.tup ws) ∧ RowsV H ws rows ∧ Small rows ∧ OrdOf rows o ∧
  ∀ D ss H', Same H H' → ss.Perm o → PyProof.Rows.sortedS ss = true → H' D = some (.lst (ss.map V.str)) → Q (.ref D) H'
theorem nw_sp {t : Addr} {ws : List V} {rows : List (List Str)} {o : List Str} {H : Hp} {Q : VK} {E : XK} (ht : H t = some (.tup ws)) (hR : RowsV H ws rows) (hS : Small rows) (oo : OrdOf rows o) (q : ∀ D ss H', Same H H' → ss.Perm o → PyProof.Rows.sortedS ss = true → H' D = some (.lst (ss.map V.str)) → Q (.ref D) H') : spNW [.ref t] H Q E := by
  unfold spNW; exact ⟨t, ws, rows, o, rfl, ht, hR, hS, oo, q⟩
abbrev nKeeps : List Str := ["rows", "thing"]
theorem scKeeps : FnScope nKeeps ["rows", "thing"] (defScope sKeeps) := ⟨rfl, rfl, rfl, by decide +kernel, rfl, by decide +kernel, by decide +kernel⟩
def cmpL (e : Expr) : Expr := match e with | .Compare l _ _ _ => l | _ => .Constant .none 0 ⟨0, 0, 0, 0⟩
abbrev eKp : Expr := arg0 (retV (bodyAt (defBody sKeeps) 1))
abbrev scKO : Scope := compSc eKp
abbrev scKI : Scope := compSc (arg0 (cmpL (eltOf eKp)))
theorem csKO : CompScope nKeeps (defScope sKeeps) ["row", "thing"] [none, some 1] scKO := ⟨rfl, by decide +kernel, by decide +kernel, rfl, fv_of (by decide +kernel), by decide +kernel⟩
theorem csKI {env : Env} : CompScope ["row", "thing"] (relabel scKO env) ["name", "row"] [none, some 0] scKI := nest rfl (by decide +kernel) (by decide +kernel) rfl (by decide +kernel) (by decide +kernel)
theorem ndKI : (["name", "row"] : List Str).Nodup := by decide +kernel
theorem ok_keeps {fR fW : Addr} {dR dW : FuncData} (F : Fun K "keeps" "keeps" sKeeps f fd) (B : Blt mg) (B2 : Blt2 mg) (GR : FnOk P w K mg base CX0 2 fR dR ["thing"] spRw) (kR : keepIn K (.ref fR) = true) (bR : Binds K dR ["thing"] []) (mR : mg "is_row" = some (.ref fR))
    (GW : FnOk P w K mg base CX0 2 fW dW ["rows"] spNW) (kW : keepIn K (.ref fW) = true) (bW : Binds K dW ["rows"] []) (mW : mg "names_within" = some (.ref fW)) : FnOk P w K mg base CX0 3 f fd ["rows", "thing"] spKp := by
  refine F.ok scKeeps (fun vs H Q E h => ?_) (fun cdv A outer s H vs Q E hr h => ?_)
  · unfold spKp at h; obtain ⟨t, oa, ws, rows, o, rfl, _⟩ := h; rfl
  · unfold spKp at h
    obtain ⟨t, oa, ws, rows, o, rfl, ht, hR, hS, ho, oo, q⟩ := h
    have hr2 : Room 2 _ := hr
    have hu := hr.units
    refine ⟨_, pss_cons (ps_if (PW.pt (pw_or (pt_not (pt_val (pe_call GR hr2 rfl mR kR bR .nil pass0 (pa_cons (pv 1) pa_nil))))
        (pw_or1 (pt_cmpR (op_neD hu) (pe_callB call_sortedT rfl B2.sorted boot_sorted (pa_cons (pv 1) pa_nil)) (pe_call GW hr2 rfl mW kW bW .nil pass0 (pa_cons (pv 0) pa_nil)) (nomark _))))) (pss_one (ps_ret pe_bl)) pss_nil)
      (pss_one (ps_ret (pe_callB (call_allB rfl) rfl B.all boot_all (pa_cons (pe_comp rfl csKO (pi_tup (pv 0)) (fun s H fp => ⟨pg_name (i := 0) csKO.nd rfl (Or.inr rfl), pifs_nil,
        pe_cmpR (op_eqD hu) (pe_callTy (call_tuple_K K rfl) rfl B.tuple boot_tuple (pa_cons (pe_comp rfl csKI (pi_tup_K K rfl (pv 1)) (fun s H fp => ⟨pg_name (i := 0) ndKI rfl (Or.inl rfl), pifs_one (pt_cmpR (op_in_K K rfl) (pv 0) (pv 1) rfl), pv 0⟩)) pa_nil)) (pv 0) (nomark _)⟩)) pa_nil)))), ?_⟩
    have nmo : ∀ y ∈ o, Nm y := fun y hy => by
      obtain ⟨r, hr, h⟩ := (oo.mem y).mp hy
      exact hS.nm r hr y h
    have fewo := oo.few
    refine ⟨_, rfl, rw_sp ho nmo oo.nd (by omega) fun H1 S1 => ⟨true, rfl, ?_⟩⟩
    have ho1 := S1 _ _ ho
    refine ⟨_, rfl, oa, o, rfl, SqT.of ho1, oo.few, fun D1 s1 hD1 p1 so1 => ?_⟩
    have S2 := same_new (o := .lst (s1.map V.str)) hD1
    have hD1' : upd H1 D1 (.lst (s1.map V.str)) D1 = some (.lst (s1.map V.str)) := upd_same
    generalize upd H1 D1 (.lst (s1.map V.str)) = H2 at S2 hD1' ⊢
    have S12 := S1.trans S2
    refine ⟨_, rfl, nw_sp (S12 _ _ ht) (hR.same S12) hS oo fun D2 s2 H3 S3 p2 so2 hD2 => ?_⟩
    have e12 : s1 = s2 := sortedS_uniq so1 so2 (p1.trans p2.symm)
    have nm1 : ∀ y ∈ s1, Nm y := fun y hy => nmo y (p1.mem_iff.mp hy)
    have nm2 : ∀ y ∈ s2, Nm y := fun y hy => nm1 y (by rw [e12]; exact hy)
    refine ⟨.list _, .list _, .lst (S3 _ _ hD1') (strs_rep _ _), .lst hD2 (strs_rep _ _), strs_lay nm1, strs_lay nm2, ?_, _, rfl, ?_⟩
    · show PyData.depthAll _ + 1 ≤ 60
      rw [strs_depth]; decide
    have eqr : PyData.eqv (.list (s1.map PyData.str)) (.list (s2.map PyData.str)) = true := by
      show PyData.eqvAll _ _ = true
      rw [strs_eqv]; exact decide_eq_true e12
    rw [eqr]
    have S := S12.trans S3
    have ht3 := S _ _ ht
    refine ⟨_, rfl, t, rfl, ⟨_, SqT.of ht3⟩, fun ca hca => ?_⟩
    refine comp_tup (xs := ws) (fun i ys τ H4 => ∃ t0 : Option V, τ = [t0, some (.ref oa)] ∧ ys = (List.replicate i true).map V.bl ∧ H4 ca = some (.lst ys) ∧ Same H3 H4) ⟨none, rfl, rfl, upd_same, same_new hca⟩ (fun i ys τ H4 ⟨_, _, _, z, z2⟩ => ⟨z, SqT.of (z2 _ _ ht3)⟩) (fun i x ys τ H4 hx hP => ?_) (fun ys τ H4 hP => ?_)
    · obtain ⟨t0, rfl, rfl, hca4, S4⟩ := hP
      obtain ⟨a, r, rfl, hri, har⟩ := hR.get hx
      have hlt : i < ws.length := (List.getElem?_eq_some_iff.mp hx).1
      have hrm := List.mem_of_getElem? hri
      have ha4 := S4 _ _ (S _ _ har)
      have ho4 := S4 _ _ (S _ _ ho)
      refine ⟨_, rfl, oa, rfl, ⟨_, SqT.of ho4⟩, fun ia hia => ?_⟩
      have noi : oa ≠ ia := ne_of_none ho4 hia
      have nai : a ≠ ia := ne_of_none ha4 hia
      refine comp_tup (xs := o.map V.str) (fun j zs τ' H5 => ∃ t1 : Option V, τ' = [t1, some (.ref a)] ∧ zs = ((o.take j).filter fun n => decide (n ∈ r)).map V.str ∧ H5 = upd H4 ia (.lst zs)) ⟨none, rfl, rfl, rfl⟩ (fun j zs τ' H5 ⟨_, _, _, z⟩ => by rw [z]; exact ⟨upd_same, SqT.of (by rw [upd_ne noi]; exact ho4)⟩) (fun j x zs τ' H5 hxj hP5 => ?_) (fun zs τ' H5 hP5 => ?_)
      · obtain ⟨t1, rfl, rfl, rfl⟩ := hP5
        have hjl : j < (o.map V.str).length := (List.getElem?_eq_some_iff.mp hxj).1
        have hjo : j < o.length := by simpa using hjl
        obtain rfl : V.str o[j] = x := by simpa [hjo] using hxj
        have tkj : o.take (j + 1) = o.take j ++ [o[j]] := by rw [List.take_succ, List.getElem?_eq_getElem hjo]; rfl
        refine ⟨_, rfl, _, rfl, a, _, rfl, .inr (SqT.of (by rw [upd_ne nai]; exact ha4)), rfl, flat_strs _, _, rfl, ?_⟩
        rw [if_neg Bool.false_ne_true, inV_strs]
        refine ite2 (fun hin => ?_) (fun hin => ?_)
        · refine ⟨_, rfl, upd_same, ?_, cw_next hjl ⟨_, rfl, ?_, by rw [upd_upd]⟩⟩
          · have h1 := List.length_filter_le (fun n => decide (n ∈ r)) (o.take j)
            have h2 : (o.take j).length ≤ o.length := by rw [List.length_take]; omega
            rw [List.length_map, sizeLine_eq]; omega
          · rw [tkj, List.filter_append, List.map_append, List.filter_cons_of_pos (p := fun n => decide (n ∈ r)) (by simpa using hin)]; rfl
        · refine cw_next hjl ⟨_, rfl, ?_, rfl⟩
          rw [tkj, List.filter_append, List.filter_cons_of_neg (p := fun n => decide (n ∈ r)) (by simpa using hin), List.filter_nil, List.append_nil]
      obtain ⟨t1, rfl, rfl, rfl⟩ := hP5
      rw [List.length_map, List.take_length, oo.kp r hrm]
      refine ⟨ia, _, rfl, .inl ⟨SqL.of upd_same, fun l hl => ?_⟩⟩
      have S5 : Same H4 _ := (same_new (o := .lst (r.map V.str)) hia).trans (same_new (o := .tup (r.map V.str)) hl)
      refine ⟨_, rfl, .tuple _, .tuple _, .tup upd_same (strs_rep _ _), .tup (S5 _ _ ha4) (strs_rep _ _), strs_lay fun y hy => hS.nm r hrm y hy, strs_lay fun y hy => hS.nm r hrm y hy, ?_, ?_⟩
      · show PyData.depthAll _ + 1 ≤ 60
        rw [strs_depth]; decide
      have eqt : PyData.eqv (.tuple (r.map PyData.str)) (.tuple (r.map PyData.str)) = true := by
        show PyData.eqvAll _ _ = true
        rw [strs_eqv]; exact decide_eq_true rfl
      rw [eqt]
      refine ⟨S5 _ _ hca4, ?_, cw_next hlt ⟨_, rfl, ?_, upd_same, fun b ob hb => ?_⟩⟩
      · have := hS.few
        have := hR.length
        rw [List.length_map, List.length_replicate, sizeLine_eq]; omega
      · rw [List.replicate_succ', List.map_append]; rfl
      · rw [upd_ne (ne_of_none hb hca)]; exact S5 _ _ (S4 b ob hb)
    obtain ⟨t0, rfl, rfl, hca4, S4⟩ := hP
    refine ⟨ca, _, rfl, SqL.of hca4, ?_⟩
    have : (List.replicate ws.length true).all id = true := by simp
    rw [this]
    exact q _ (S.trans S4)
end
end K11
namespace K11
open PySem L2 HT
def kept (rows : List (List Str)) (o : List Str) : Bool := rows.all fun r => decide ((o.filter fun n => decide (n ∈ r)) = r)
/-! ### pure: what is merged is the earliest of the orders that keep the rows -/
theorem wish_none {n : Str} : ∀ {k : Nat} {rest : List (List Str)}, wishFrom k rest n = none ↔ ∀ r ∈ rest, n ∈ r → r.head? = some n
  | k, [] => by simp [wishFrom]
  | k, [] :: rest => by
    show wishFrom (k + 1) rest n = none ↔ _
    rw [wish_none (k := k + 1) (rest := rest)]; simp
  | k, (x :: r) :: rest => by
    show (if n ∈ x :: r ∧ x ≠ n then some (k, x) else wishFrom (k + 1) rest n) = none ↔ _
    by_cases h : n ∈ x :: r ∧ x ≠ n
    · rw [if_pos h]
      constructor
      · intro z; cases z
      · intro z
        have := z _ List.mem_cons_self h.1
        exact absurd (by simpa using this) h.2
    · rw [if_neg h, wish_none (k := k + 1) (rest := rest)]
      constructor
      · intro z q hq hn
        rcases List.mem_cons.mp hq with rfl | hq
        · by_cases e : x = n
          · rw [e]; rfl
          · exact absurd ⟨hn, e⟩ h
        · exact z q hq hn
      · exact fun z q hq => z q (List.mem_cons_of_mem _ hq)
def fIdx : List (List Str) → Str → Nat
  | [], _ => 0
  | r :: rows, x => if x ∈ r then 0 else fIdx rows x + 1
theorem free_first {all : List (List Str)} {n : Str} : ∀ {rest : List (List Str)}, freeFrom all rest = some n → wishFrom 0 all n = none ∧ ∃ (i : Nat) (r : List Str), rest[i]? = some r ∧ r.head? = some n ∧ ∀ (j : Nat) (q : List Str) (y : Str), rest[j]? = some q → q.head? = some y → wishFrom 0 all y = none → i ≤ j
  | [], h => by cases h
  | [] :: rest, h => by
    obtain ⟨h1, i, r, e1, e2, e3⟩ := free_first (rest := rest) h
    refine ⟨h1, i + 1, r, by simpa using e1, e2, fun j q y hj hq hy => ?_⟩
    cases j with
    | zero =>
      obtain rfl : [] = q := by simpa using hj
      simp at hq
    | succ j => have := e3 j q y (by simpa using hj) hq hy; omega
  | (x :: t) :: rest, h => by
    have h : (if (wishFrom 0 all x).isNone then some x else freeFrom all rest) = some n := h
    by_cases c : (wishFrom 0 all x).isNone = true
    · rw [if_pos c] at h
      cases h
      exact ⟨by simpa using c, 0, _, rfl, rfl, fun _ _ _ _ _ _ => Nat.zero_le _⟩
    · rw [if_neg c] at h
      obtain ⟨h1, i, r, e1, e2, e3⟩ := free_first (rest := rest) h
      refine ⟨h1, i + 1, r, by simpa using e1, e2, fun j q y hj hq hy => ?_⟩
      cases j with
      | zero =>
        obtain rfl : x :: t = q := by simpa using hj
        obtain rfl : x = y := by simpa using hq
        exact absurd (by rw [hy]; rfl) c
      | succ j => have := e3 j q y (by simpa using hj) hq hy; omega
def IsOrder (rest : List (List Str)) (q : List Str) : Prop := q.Nodup ∧ ∀ x, x ∈ q ↔ ∃ r ∈ rest, x ∈ r
theorem kept_iff {rest : List (List Str)} {q : List Str} : kept rest q = true ↔ ∀ r ∈ rest, (q.filter fun n => decide (n ∈ r)) = r := by
  unfold kept; rw [List.all_eq_true]; simp
theorem mem_without {n x : Str} {rest : List (List Str)} : (∃ r ∈ L2.without n rest, x ∈ r) ↔ x ≠ n ∧ ∃ r ∈ rest, x ∈ r := by
  constructor
  · rintro ⟨r, hr, hx⟩
    obtain ⟨q, hq, rfl⟩ := List.mem_map.mp hr
    have := List.mem_filter.mp hx
    exact ⟨by simpa using this.2, q, hq, this.1⟩
  · rintro ⟨h, q, hq, hx⟩
    exact ⟨_, List.mem_map.mpr ⟨q, hq, rfl⟩, List.mem_filter.mpr ⟨hx, by simpa using h⟩⟩
theorem any_iff {rest : List (List Str)} : (rest.any fun r => !r.isEmpty) = true ↔ ∃ r ∈ rest, ∃ x, x ∈ r := by
  rw [List.any_eq_true]
  constructor
  · rintro ⟨r, hr, e⟩
    cases r with
    | nil => simp at e
    | cons x t => exact ⟨_, hr, x, List.mem_cons_self⟩
  · rintro ⟨r, hr, x, hx⟩
    refine ⟨r, hr, ?_⟩
    cases r with
    | nil => simp at hx
    | cons y t => rfl
theorem nd_without {n : Str} {rest : List (List Str)} (h : ∀ r ∈ rest, r.Nodup) : ∀ r ∈ L2.without n rest, r.Nodup := by
  intro r hr
  obtain ⟨q, hq, rfl⟩ := List.mem_map.mp hr
  exact (h q hq).filter _
theorem sound : ∀ (m : Nat) (rest : List (List Str)), total rest = m → (∀ r ∈ rest, r.Nodup) → ∀ o, mergeG (total rest) rest = some o → IsOrder rest o ∧ kept rest o = true := by
  intro m
  induction m using Nat.strongRecOn with
  | _ m ih =>
    intro rest hm hnd o ho
    cases hA : rest.any fun r => !r.isEmpty with
    | false =>
      rw [merge_stop hA] at ho
      cases ho
      have emp : ∀ r ∈ rest, ∀ x, x ∉ r := fun r hr x hx => by
        have := any_iff.mpr ⟨r, hr, x, hx⟩
        rw [hA] at this; cases this
      refine ⟨⟨List.nodup_nil, fun x => ⟨fun h => by simp at h, fun ⟨r, hr, hx⟩ => absurd hx (emp r hr x)⟩⟩, kept_iff.mpr fun r hr => ?_⟩
      cases r with
      | nil => rfl
      | cons y t => exact absurd List.mem_cons_self (emp _ hr y)
    | true =>
      cases e : leastFree rest with
      | none => rw [merge_none hA e] at ho; cases ho
      | some n =>
        rw [merge_some hA e] at ho
        obtain ⟨o', ho', rfl⟩ := Option.map_eq_some_iff.mp ho
        have lt := total_without_lt (least_mem e)
        obtain ⟨⟨h1, h2⟩, h3⟩ := ih _ (by omega) (L2.without n rest) rfl (nd_without hnd) o' ho'
        rw [kept_iff] at h3
        have hno : n ∉ o' := fun z => ((mem_without.mp ((h2 n).mp z)).1 rfl)
        obtain ⟨hfree, _⟩ := free_first e
        rw [wish_none] at hfree
        refine ⟨⟨List.nodup_cons.mpr ⟨hno, h1⟩, fun x => ?_⟩, kept_iff.mpr fun r hr => ?_⟩
        · rw [List.mem_cons, h2, mem_without]
          constructor
          · rintro (rfl | h)
            · exact least_mem e
            · exact h.2
          · intro h
            by_cases z : x = n
            · exact .inl z
            · exact .inr ⟨z, h⟩
        · have hr' := h3 _ (List.mem_map.mpr ⟨r, hr, rfl⟩)
          have same : (o'.filter fun y => decide (y ∈ r)) = o'.filter fun y => decide (y ∈ r.filter fun y => !decide (y = n)) := by
            apply List.filter_congr
            intro y hy
            have : y ≠ n := fun z => hno (z ▸ hy)
            simp [this]
          by_cases hn : n ∈ r
          · have hh := hfree r hr hn
            cases r with
            | nil => simp at hn
            | cons z t =>
              obtain rfl : z = n := by simpa using hh
              have ht : z ∉ t := (List.nodup_cons.mp (hnd _ hr)).1
              have et : ((z :: t).filter fun y => !decide (y = z)) = t := by
                rw [List.filter_cons_of_neg (by simp)]
                exact List.filter_eq_self.mpr fun y hy => by
                  have : y ≠ z := fun w => ht (w ▸ hy)
                  simpa using this
              rw [List.filter_cons_of_pos (by simp), same, hr', et]
          · have er : (r.filter fun y => !decide (y = n)) = r := List.filter_eq_self.mpr fun y hy => by
              have : y ≠ n := fun w => hn (w ▸ hy)
              simpa using this
            rw [List.filter_cons_of_neg (by simpa using hn), same, hr', er]
end K11
namespace K11
open PySem L2 PySem.W HT
theorem boot_min : bootBuiltins "min" = some (.builtin "min") := by decide +kernel
section
variable {P : Program} {w : World} {K : Frag} {mg : Str → Option Value} {base : Heap} {f : Addr} {fd : FuncData}
theorem pot_sp {a : Addr} {ns : List Int} {k : Int} {H : Hp} {Q : VK} {E : XK} (h : SqL K H a (ns.map V.int)) (k0 : 0 ≤ k) (k1 : k ≤ 100) (hl : ns.length ≤ 63) (q : ∀ p H', H p = none → PotOk p H' → Same H H' → Q (.ref p) H') : spPot K [.ref a, .int k] H Q E := by
  unfold spPot
  exact ⟨a, ns, k, rfl, h, k0, k1, hl, fun p x y hp x0 y0 y1 => q p _ hp ⟨x, y, upd_same, x0, y0, y1⟩ (same_new hp)⟩
theorem sqL_same {H H' : Hp} {a : Addr} {xs : List V} (h : SqL K H a xs) (s : Same H H') : SqL K H' a xs := by
  rcases h with (h | ⟨o, h⟩) | h
  · exact .inl (.inl (s _ _ h))
  · exact .inl (.inr ⟨o, s _ _ h⟩)
  · exact .inr h
@[irreducible] def spLaw (K : Frag) : Sp := fun vs H Q _ => ∃ (a : Addr) (ns : List Int), vs = [.ref a] ∧ SqL K H a (ns.map V.int) ∧ ns.length ≤ 63 ∧ ∀ H', Q (.bl true) H'
abbrev nLaw : List Str := ["_law_script", "_law_k", "_law_rows_here", "_law_told_here"]
theorem scLaw : FnScope nLaw ["_law_script"] (defScope sLaw) := ⟨rfl, rfl, rfl, by decide +kernel, rfl, by decide +kernel, by decide +kernel⟩
def dWi (w : Wi) : PyData := .tuple [.int w.1, .str w.2.1, .str w.2.2]
theorem ws_rep {H : Hp} {vs : List V} {W : List Wi} (h : WsV H vs W) : RepAll H vs (W.map dWi) := by
  induction h with
  | nil => exact .nil
  | cons p _ ih => obtain ⟨a, rfl, q⟩ := p; exact .cons (.tup q (.cons (.int _) (.cons (.str _) (.cons (.str _) .nil)))) ih
theorem ws_lay : ∀ {W : List Wi}, (∀ w ∈ W, Nm w.2.1 ∧ Nm w.2.2) → PyData.canLayAll0 (W.map dWi) = true ∧ PyData.depthAll (W.map dWi) ≤ 1
  | [], _ => ⟨rfl, by decide⟩
  | w :: W, h => by
    obtain ⟨b1, b2⟩ := ws_lay fun x hx => h x (List.mem_cons_of_mem _ hx)
    obtain ⟨n1, n2⟩ := h w List.mem_cons_self
    refine ⟨?_, ?_⟩
    · show ((PyData.canLay0 (.int w.1) && (PyData.strOk w.2.1 && (PyData.strOk w.2.2 && true))) && PyData.canLayAll0 (W.map dWi)) = true
      rw [nm_ok n1, nm_ok n2, b1]; rfl
    · rw [List.map_cons]
      simp only [PyData.depthAll, dWi, PyData.depth]; omega
theorem rr0 : decide (V.str "ring" = V.str "none") = false := by decide +kernel
theorem rr1 : decide (V.str "ring" = V.str "row") = false := by decide +kernel
theorem rr2 : decide (V.str "ring" = V.str "ring") = true := by decide +kernel
theorem ro0 : decide (V.str "row" = V.str "none") = false := by decide +kernel
theorem ro1 : decide (V.str "row" = V.str "row") = true := by decide +kernel
theorem ro2 : decide (V.str "row" = V.str "ring") = false := by decide +kernel
theorem ok_law {fP fRo fT fK fLR fKe fIR : Addr} {dP dRo dT dK dLR dKe dIR : FuncData} (F : Fun K "law" "law" sLaw f fd) (B : Blt mg)
    (GP : FnOk P w K mg base CX0 1 fP dP ["_law_script", "_law_k"] (spPot K)) (kP : keepIn K (.ref fP) = true) (bP : Binds K dP ["_law_script", "_law_k"] []) (mP : mg "_law_pot" = some (.ref fP))
    (GRo : FnOk P w K mg base CX0 4 fRo dRo ["_law_pot_here", "_law_most_names", "_law_most_rows"] spRows) (kRo : keepIn K (.ref fRo) = true) (bRo : Binds K dRo ["_law_pot_here", "_law_most_names", "_law_most_rows"] []) (mRo : mg "_law_rows" = some (.ref fRo))
    (GT : FnOk P w K mg base CX0 4 fT dT ["_law_rows_here"] spTold) (kT : keepIn K (.ref fT) = true) (bT : Binds K dT ["_law_rows_here"] []) (mT : mg "_law_told" = some (.ref fT))
    (GK : FnOk P w K mg base CX0 1 fK dK ["_law_rows_here", "_law_order"] spKp) (kK : keepIn K (.ref fK) = true) (bK : Binds K dK ["_law_rows_here", "_law_order"] []) (mK : mg "_law_is_kept" = some (.ref fK))
    (GLR : FnOk P w K mg base CX0 1 fLR dLR ["_law_rows_here", "_law_ring"] spIsRg) (kLR : keepIn K (.ref fLR) = true) (bLR : Binds K dLR ["_law_rows_here", "_law_ring"] []) (mLR : mg "_law_is_ring" = some (.ref fLR))
    (GKe : FnOk P w K mg base CX0 3 fKe dKe ["rows", "thing"] spKp) (kKe : keepIn K (.ref fKe) = true) (bKe : Binds K dKe ["rows", "thing"] []) (mKe : mg "keeps" = some (.ref fKe))
    (GIR : FnOk P w K mg base CX0 3 fIR dIR ["rows", "thing"] spIsRg) (kIR : keepIn K (.ref fIR) = true) (bIR : Binds K dIR ["rows", "thing"] []) (mIR : mg "is_ring" = some (.ref fIR)) :
    FnOk P w K mg base CX0 5 f fd ["_law_script"] (spLaw K) := by
  refine F.ok scLaw (fun vs H Q E h => ?_) (fun cdv A outer s H vs Q E hr h => ?_)
  · unfold spLaw at h; obtain ⟨a, ns, rfl, _⟩ := h; rfl
  · unfold spLaw at h
    obtain ⟨a, ns, rfl, hS, hns, q⟩ := h
    have hu := hr.units
    have hr4 : Room 4 _ := hr
    have hr3 : Room 3 _ := hr.mono (by decide)
    have hr1 : Room 1 _ := hr.mono (by decide)
    refine ⟨_, pss_cons (ps_for PassesOwn.never rfl (pi_range1 rfl B.range (pa_cons (pe_callB (call_max2 rfl) rfl B.max boot_max (pa_cons pe_int (pa_cons (pe_callB (call_min2 rfl) rfl B.min boot_min (pa_cons pe_int (pa_cons (pe_callB call_len_seq rfl B.len boot_len (pa_cons (pv 0) pa_nil)) pa_nil))) pa_nil))) pa_nil)) (pg_name (i := 1) scLaw.nd rfl (Or.inl rfl))
        (pss_cons (ps_set (i := 2) scLaw.nd rfl (Or.inl rfl) (pe_call GRo hr4 rfl mRo kRo bRo .nil pass0 (pa_cons (pe_call GP hr1 rfl mP kP bP .nil pass0 (pa_cons (pv 0) (pa_cons (pv 1) pa_nil))) (pa_cons pe_int (pa_cons pe_int pa_nil)))))
        (pss_cons (ps_set (i := 3) scLaw.nd rfl (Or.inl rfl) (pe_call GT hr4 rfl mT kT bT .nil pass0 (pa_cons (pv 2) pa_nil)))
        (pss_cons (ps_if (PW.pt (pw_or (pt_cmpR op_eq (pe_ix ix_tup (pv 3) pe_int (fun _ _ => rfl)) pe_str (nomark _)) (pw_or1 (PW.pt (pw_and (pt_cmpR op_eq (pe_ix ix_tup (pv 3) pe_int (fun _ _ => rfl)) pe_str (nomark _)) (pw_and1 (pt_not (pt_val (pe_call GK hr1 rfl mK kK bK .nil pass0 (pa_cons (pv 2) (pa_cons (pe_ix ix_tup (pv 3) pe_int (fun _ _ => rfl)) pa_nil)))))))))))
          (pss_one (ps_ret pe_bl)) pss_nil)
        (pss_cons (ps_if (PW.pt (pw_and (pt_cmpR op_eq (pe_ix ix_tup (pv 3) pe_int (fun _ _ => rfl)) pe_str (nomark _)) (pw_and1 (PW.pt (pw_or (pt_cmpR op_notN (pe_ix ix_tup (pv 3) pe_int (fun _ _ => rfl)) pe_non (nomark _)) (pw_or1 (pt_not (pt_val (pe_call GLR hr1 rfl mLR kLR bLR .nil pass0 (pa_cons (pv 2) (pa_cons (pe_ix ix_tup (pv 3) pe_int (fun _ _ => rfl)) pa_nil)))))))))))
          (pss_one (ps_ret pe_bl)) pss_nil)
        (pss_cons (ps_if (PW.pt (pw_or (PW.pt (pw_and (pt_cmpR op_eq (pe_ix ix_tup (pv 3) pe_int (fun _ _ => rfl)) pe_str (nomark _)) (pw_and1 (pt_cmpR op_isNotB (pe_call GKe hr3 rfl mKe kKe bKe .nil pass0 (pa_cons (pv 2) (pa_cons (pe_ix ix_tup (pv 3) pe_int (fun _ _ => rfl)) pa_nil))) pe_bl (nomark _)))))
            (pw_or1 (PW.pt (pw_and (pt_cmpR op_eq (pe_ix ix_tup (pv 3) pe_int (fun _ _ => rfl)) pe_str (nomark _)) (pw_and1 (pt_not (pt_val (pe_call GIR hr3 rfl mIR kIR bIR .nil pass0 (pa_cons (pv 2) (pa_cons (pe_ix ix_tup (pv 3) pe_int (fun _ _ => rfl)) pa_nil)))))))))))
          (pss_one (ps_ret pe_bl)) pss_nil)
        (pss_one (ps_if (pt_cmpR (op_neD hu) (pe_call GT hr4 rfl mT kT bT .nil pass0 (pa_cons (pv 2) pa_nil)) (pv 3) (nomark _)) (pss_one (ps_ret pe_bl)) pss_nil))))))))
      (pss_one (ps_ret pe_bl)), ?_⟩
    refine ⟨_, rfl, a, _, rfl, .inl hS, _, _, rfl, _, _, rfl, _, rfl, ?_, ?_, for_range (fun i σ H1 => ∃ v1 v2 v3 : Option V, σ = [some (.ref a), v1, v2, v3] ∧ Same H H1) ⟨none, none, none, rfl, Same.refl _⟩ (fun i σ H1 hi hP => ?_) (fun σ H1 _ => q _)⟩
    · split <;> omega
    · split <;> (try split) <;> omega
    · obtain ⟨v1, v2, v3, rfl, S1⟩ := hP
      have hi6 : i < 6 := by
        refine Nat.lt_of_lt_of_le hi ?_
        split <;> (try split) <;> omega
      refine ⟨_, rfl, _, rfl, pot_sp (sqL_same hS S1) (by omega) (by omega) hns fun p H2 hp pk S2 => ?_⟩
      refine rows_sp (mn := 8) (mr := 6) pk (by decide) (by decide) fun t ws nn rows H3 ht p3 ht3 hR3 hl1 hl2 hok => ?_
      have S13 : Same H1 H3 := fun b o e => p3.kp b o (S2 b o e) (ne_of_none e hp)
      have hsub : ∀ r ∈ rows, r.length ≤ 8 := fun r hr => Nat.le_trans (few_of (hok.rd r hr) (hok.sub r hr)) hl2
      have hSm : Small rows := ⟨by omega, fun r hr => Nat.le_trans (hsub r hr) (by decide), fun r hr n hn => hok.nm n (hok.sub r hr n hn)⟩
      refine ⟨_, rfl, told_sp ht3 hR3 hSm (fun en p4 r vs4 H4 hp4 S4 RP hpt hrt hW => ?_) (fun o eo p4 r H4 hp4 S4 hpt hrt => ?_)⟩
      · have aring0 : atI [V.str "ring", .non, .ref r] 0 = some (V.str "ring") := (show atI [V.str "ring", .non, .ref r] ((0 : Nat) : Int) = some (V.str "ring") from atI_nat rfl)
        have aring1 : atI [V.str "ring", .non, .ref r] 1 = some V.non := (show atI [V.str "ring", .non, .ref r] ((1 : Nat) : Int) = some V.non from atI_nat rfl)
        have aring2 : atI [V.str "ring", .non, .ref r] 2 = some (V.ref r) := (show atI [V.str "ring", .non, .ref r] ((2 : Nat) : Int) = some (V.ref r) from atI_nat rfl)
        refine ⟨_, rfl, p4, _, 0, .str "ring", rfl, rfl, SqT.of hpt, aring0, rfl, _, rfl, ?_⟩
        rw [rr0]
        refine ⟨_, rfl, p4, _, 0, .str "ring", rfl, rfl, SqT.of hpt, aring0, rfl, _, rfl, ?_⟩
        rw [rr1]
        refine ⟨_, rfl, p4, _, 0, .str "ring", rfl, rfl, SqT.of hpt, aring0, rfl, _, rfl, ?_⟩
        rw [rr2]
        refine ⟨_, rfl, p4, _, 1, .non, rfl, rfl, SqT.of hpt, aring1, rfl, _, rfl, ?_⟩
        refine ⟨_, rfl, _, rfl, p4, _, 2, .ref r, rfl, rfl, SqT.of hpt, aring2, isrg_sp (S4 _ _ ht3) (hR3.same S4) hSm hrt hW RP fun H5 S5 => ⟨true, rfl, ?_⟩⟩
        have hpt5 := S5 _ _ hpt
        refine ⟨_, rfl, p4, _, 0, .str "ring", rfl, rfl, SqT.of hpt5, aring0, rfl, _, rfl, ?_⟩
        rw [rr1]
        refine ⟨_, rfl, p4, _, 0, .str "ring", rfl, rfl, SqT.of hpt5, aring0, rfl, _, rfl, ?_⟩
        rw [rr2]
        have S45 := S4.trans S5
        refine ⟨_, rfl, _, rfl, p4, _, 2, .ref r, rfl, rfl, SqT.of hpt5, aring2, isrg_sp (S45 _ _ ht3) (hR3.same S45) hSm (S5 _ _ hrt) (hW.same S5) RP fun H6 S6 => ⟨true, rfl, ?_⟩⟩
        have S46 := S45.trans S6
        have S56 := S5.trans S6
        refine ⟨_, rfl, told_sp (S46 _ _ ht3) (hR3.same S46) hSm (fun _ p7 r7 vs7 H7 hp7 S7 _ hpt7 hrt7 hW7 => ?_) (fun o eo => by rw [en] at eo; cases eo)⟩
        have nmW : ∀ w ∈ ringG rows, Nm w.2.1 ∧ Nm w.2.2 := fun w hw => by
          obtain ⟨r, hr, hx, hn, _⟩ := wish_facts (RP.at_ w hw)
          exact ⟨hSm.nm r (List.mem_of_getElem? hr) _ hx, hSm.nm r (List.mem_of_getElem? hr) _ hn⟩
        obtain ⟨wl, wd⟩ := ws_lay nmW
        have lay : PyData.canLay0 (.tuple [.str "ring", .none, .tuple ((ringG rows).map dWi)]) = true := by
          show (PyData.strOk "ring" && (PyData.canLay0 .none && (PyData.canLayAll0 ((ringG rows).map dWi) && true))) = true
          rw [wl]; decide +kernel
        have S57 := S56.trans S7
        refine ⟨_, rfl, .tuple [.str "ring", .none, .tuple ((ringG rows).map dWi)], .tuple [.str "ring", .none, .tuple ((ringG rows).map dWi)], .tup hpt7 (.cons (.str _) (.cons .non (.cons (.tup hrt7 (ws_rep hW7)) .nil))), .tup (S57 _ _ hpt) (.cons (.str _) (.cons .non (.cons (.tup (S57 _ _ hrt) (ws_rep (hW.same S57))) .nil))), lay, lay, ?_, _, rfl, ?_⟩
        · simp only [PyData.depthAll, PyData.depth]; omega
        rw [PySem.SeqAt.eqv_refl _ lay]
        exact ⟨_, _, _, rfl, S1.trans (S13.trans (S46.trans S7))⟩
      · have arow0 : atI [V.str "row", .ref r] 0 = some (V.str "row") := (show atI [V.str "row", .ref r] ((0 : Nat) : Int) = some (V.str "row") from atI_nat rfl)
        have arow1 : atI [V.str "row", .ref r] 1 = some (V.ref r) := (show atI [V.str "row", .ref r] ((1 : Nat) : Int) = some (V.ref r) from atI_nat rfl)
        obtain ⟨⟨ond, omem⟩, okp⟩ := sound _ rows rfl hok.rd o eo
        have oo : OrdOf rows o := ⟨ond, omem, kept_iff.mp okp, Nat.le_trans (few_of ond fun n hn => by
          obtain ⟨r, hr, hx⟩ := (omem n).mp hn
          exact hok.sub r hr n hx) (by omega)⟩
        refine ⟨_, rfl, p4, _, 0, .str "row", rfl, rfl, SqT.of hpt, arow0, rfl, _, rfl, ?_⟩
        rw [ro0]
        refine ⟨_, rfl, p4, _, 0, .str "row", rfl, rfl, SqT.of hpt, arow0, rfl, _, rfl, ?_⟩
        rw [ro1]
        refine ⟨_, rfl, _, rfl, p4, _, 1, .ref r, rfl, rfl, SqT.of hpt, arow1, kp_sp (S4 _ _ ht3) (hR3.same S4) hSm hrt oo fun H5 S5 => ⟨true, rfl, ?_⟩⟩
        have hpt5 := S5 _ _ hpt
        have S45 := S4.trans S5
        refine ⟨_, rfl, p4, _, 0, .str "row", rfl, rfl, SqT.of hpt5, arow0, rfl, _, rfl, ?_⟩
        rw [ro2]
        refine ⟨_, rfl, p4, _, 0, .str "row", rfl, rfl, SqT.of hpt5, arow0, rfl, _, rfl, ?_⟩
        rw [ro1]
        refine ⟨_, rfl, _, rfl, p4, _, 1, .ref r, rfl, rfl, SqT.of hpt5, arow1, kp_sp (S45 _ _ ht3) (hR3.same S45) hSm (S5 _ _ hrt) oo fun H6 S6 => ⟨true, true, rfl, rfl, _, rfl, ?_⟩⟩
        have S46 := S45.trans S6
        have S56 := S5.trans S6
        have hpt6 := S56 _ _ hpt
        refine ⟨_, rfl, p4, _, 0, .str "row", rfl, rfl, SqT.of hpt6, arow0, rfl, _, rfl, ?_⟩
        rw [ro2]
        refine ⟨_, rfl, told_sp (S46 _ _ ht3) (hR3.same S46) hSm (fun en => by rw [en] at eo; cases eo) (fun o' eo' p7 r7 H7 hp7 S7 hpt7 hrt7 => ?_)⟩
        rw [eo] at eo'
        cases eo'
        have nmo : ∀ y ∈ o, Nm y := fun y hy => by
          obtain ⟨r, hr, h⟩ := (omem y).mp hy
          exact hSm.nm r hr y h
        have lay : PyData.canLay0 (.tuple [.str "row", .tuple (o.map PyData.str)]) = true := by
          show (PyData.strOk "row" && (PyData.canLayAll0 (o.map PyData.str) && true)) = true
          rw [strs_lay nmo]; decide +kernel
        have S57 := S56.trans S7
        refine ⟨_, rfl, .tuple [.str "row", .tuple (o.map PyData.str)], .tuple [.str "row", .tuple (o.map PyData.str)], .tup hpt7 (.cons (.str _) (.cons (.tup hrt7 (strs_rep _ _)) .nil)), .tup (S57 _ _ hpt) (.cons (.str _) (.cons (.tup (S57 _ _ hrt) (strs_rep _ _)) .nil)), lay, lay, ?_, _, rfl, ?_⟩
        · simp only [PyData.depthAll, PyData.depth, strs_depth]; omega
        rw [PySem.SeqAt.eqv_refl _ lay]
        exact ⟨_, _, _, rfl, S1.trans (S13.trans (S46.trans S7))⟩
end
end K11
namespace K11
open PySem L2 PySem.W HT HS
theorem two_tup {K : Frag} {a : Addr} {xs : List V} {g : TG} {tem : Addr → St → Hp → (Hp → Prop) → Prop} {σ : St} {Q : Hp → Prop} {p : Addr} {H : Hp} (Pv : Nat → St → Hp → Prop) (h0 : Pv 0 σ H) (hl : ∀ i τ H, Pv i τ H → SqT K H a xs)
    (hs : ∀ i x τ H, xs[i]? = some x → Pv i τ H → g x τ H fun τ4 H4 => tem p τ4 H4 fun H6 => ∃ m', m' < xs.length - i ∧ CWG Pv xs.length (i + 1) m' τ4 H6) (hd : ∀ τ H, Pv xs.length τ H → Forget τ σ ∧ Q H) :
    ∃ W : Nat → Nat → St → Hp → Prop, (∃ m, W 0 m σ H) ∧ ∀ i m τ H2, W i m τ H2 →
    (((Itt K a).stop i H2 ∧ Forget τ σ ∧ Q H2) ∨ ((Itt K a).go i H2 ∧ ∀ x H3, (Itt K a).yld i H2 x H3 → g x τ H3 fun τ4 H4 => tem p τ4 H4 fun H6 => ∃ m', m' < m ∧ W (i + 1) m' τ4 H6)) := by
  refine ⟨CWG Pv xs.length, ⟨xs.length, by simp, Nat.zero_le _, h0⟩, ?_⟩
  rintro i m τ H ⟨rfl, hi, pv⟩
  have hq := hl i τ H pv
  by_cases hlt : i < xs.length
  · refine .inr ⟨⟨xs, xs[i], hq, by simp [hlt]⟩, fun x H3 y3 => ?_⟩
    obtain ⟨e3, ex⟩ := y3
    subst e3
    exact hs i x τ _ (ex xs hq) pv
  · have e : i = xs.length := by omega
    subst e
    exact .inl ⟨⟨xs, hq, Nat.le_refl _⟩, hd τ H pv⟩
def compScS (e : Expr) : Scope := match e with | .SetComp _ _ sc _ => sc | _ => { kind := .function, names := [], isGenerator := false, isCoroutine := false }
section
variable {P : Program} {w : World} {K : Frag} {mg : Str → Option Value} {base : Heap} {f : Addr} {fd : FuncData}
theorem scNW : FnScope ["rows"] ["rows"] (defScope sNamesIn) := ⟨rfl, rfl, rfl, by decide +kernel, rfl, by decide +kernel, by decide +kernel⟩
abbrev eNW : Expr := arg0 (retV (bodyAt (defBody sNamesIn) 0))
theorem csNW : CompScope ["rows"] (defScope sNamesIn) ["row", "name"] [none, none] (compScS eNW) := ⟨rfl, by decide +kernel, by decide +kernel, rfl, fv_of (by decide +kernel), by decide +kernel⟩
theorem ok_nw (F : Fun K "names_within" "names_within" sNamesIn f fd) (B2 : Blt2 mg) : FnOk P w K mg base CX0 1 f fd ["rows"] spNW := by
  refine F.ok scNW (fun vs H Q E h => ?_) (fun cdv A outer s H vs Q E hr h => ?_)
  · unfold spNW at h; obtain ⟨t, ws, rows, o, rfl, _⟩ := h; rfl
  · unfold spNW at h
    obtain ⟨t, ws, rows, o, rfl, ht, hR, hS, oo, q⟩ := h
    refine ⟨_, pss_one (ps_ret (pe_callB (call_sortedSet rfl) rfl B2.sorted boot_sorted (pa_cons (pe_set2 rfl csNW (pi_tup (pv 0)) (fun s H fp => ⟨pg_name (i := 0) csNW.nd rfl (Or.inl rfl), pi_tup_K K rfl (pv 0), pg_name (i := 1) csNW.nd rfl (Or.inl rfl), em_set rfl rfl (pv 1)⟩)) pa_nil))), ?_⟩
    have few_o : ∀ {ks : List Str}, ks.Nodup → (∀ y ∈ ks, ∃ r ∈ rows, y ∈ r) → ks.length ≤ 63 := fun nd h => Nat.le_trans (few_in nd fun y hy => (oo.mem y).mpr (h y hy)) oo.few
    refine ⟨_, rfl, t, rfl, ⟨_, SqT.of ht⟩, fun p hp => ?_⟩
    refine compG_tup (xs := ws) (fun i τ H1 => ∃ (v0 : Option V) (ds : List Str), τ = [v0, none] ∧ Same H H1 ∧ H1 p = some (SetO P w p ds) ∧ ds.Nodup ∧ ∀ y, y ∈ ds ↔ ∃ r ∈ rows.take i, y ∈ r) ⟨none, [], rfl, same_new hp, upd_same, List.nodup_nil, fun y => by simp⟩ (fun i τ H1 ⟨_, _, _, z, _⟩ => SqT.of (z _ _ ht)) (fun i x τ H1 hx hP => ?_) (fun τ H1 hP => ?_)
    · obtain ⟨v0, ds, rfl, S1, hp1, nd, mem⟩ := hP
      obtain ⟨a, r, rfl, hri, har⟩ := hR.get hx
      have hlt : i < ws.length := (List.getElem?_eq_some_iff.mp hx).1
      have hrm := List.mem_of_getElem? hri
      have tk : rows.take (i + 1) = rows.take i ++ [r] := by rw [List.take_succ, hri]; rfl
      refine ⟨_, rfl, a, rfl, ⟨_, SqT.of (S1 _ _ har)⟩, two_tup (xs := r.map V.str) (fun j τ H2 => ∃ (v1 : Option V) (ds : List Str), τ = [some (.ref a), v1] ∧ Same H H2 ∧ H2 p = some (SetO P w p ds) ∧ ds.Nodup ∧ ∀ y, y ∈ ds ↔ (∃ r ∈ rows.take i, y ∈ r) ∨ y ∈ r.take j)
        ⟨none, ds, rfl, S1, hp1, nd, fun y => by rw [mem y]; simp⟩ (fun j τ H2 ⟨_, _, _, z, _⟩ => SqT.of (z _ _ har)) (fun j x τ H2 hx2 hP2 => ?_) (fun τ H2 hP2 => ?_)⟩
      · obtain ⟨v1, ds, rfl, S2, hp2, nd, mem⟩ := hP2
        have hjl : j < (r.map V.str).length := (List.getElem?_eq_some_iff.mp hx2).1
        have hjr : j < r.length := by simpa using hjl
        obtain rfl : V.str r[j] = x := by simpa [hjr] using hx2
        have tkj : r.take (j + 1) = r.take j ++ [r[j]] := by rw [List.take_succ, List.getElem?_eq_getElem hjr]; rfl
        have lk := few_o nd fun y hy => by
          rcases (mem y).mp hy with ⟨q, hq, h⟩ | h
          · exact ⟨q, List.mem_of_mem_take hq, h⟩
          · exact ⟨r, hrm, List.mem_of_mem_take h⟩
        refine ⟨_, rfl, ds, r[j], rfl, hp2, by omega, cwg_next hjl ⟨_, addS ds r[j], rfl, fun b u e => ?_, upd_same, addS_nd nd _, fun y => ?_⟩⟩
        · rw [upd_ne (ne_of_none e hp)]; exact S2 b u e
        · rw [addS_mem, mem y, tkj, List.mem_append, List.mem_singleton, or_assoc]
      · obtain ⟨v1, ds, rfl, S2, hp2, nd, mem⟩ := hP2
        rw [List.length_map, List.take_length] at mem
        refine ⟨⟨rfl, fun k v e => ?_⟩, cwg_next hlt ⟨_, ds, rfl, S2, hp2, nd, fun y => ?_⟩⟩
        · match k, e with
          | 0, e => exact e
          | 1, e => simp at e
          | k + 2, e => simp at e
        · rw [mem y, tk]
          constructor
          · rintro (⟨q, hq, h⟩ | h)
            · exact ⟨q, List.mem_append_left _ hq, h⟩
            · exact ⟨r, List.mem_append_right _ (List.mem_singleton.mpr rfl), h⟩
          · rintro ⟨q, hq, h⟩
            rcases List.mem_append.mp hq with z | z
            · exact .inl ⟨q, z, h⟩
            · rw [List.mem_singleton.mp z] at h; exact .inr h
    · obtain ⟨v0, ds, rfl, S1, hp1, nd, mem⟩ := hP
      rw [hR.length, List.take_length] at mem
      have pko : ds.Perm o := (List.perm_ext_iff_of_nodup nd oo.nd).mpr fun y => by rw [mem y, oo.mem y]
      refine ⟨p, ds, rfl, hp1, by rw [pko.length_eq]; exact oo.few, fun D ss hD pm so => ?_⟩
      exact q D ss _ (S1.trans (same_new hD)) (pm.trans pko) so upd_same
end
end K11
/-! ### what the top has written -/
namespace K11
open PySem L2 PySem.W
def bsOk (K : Frag) (LE : Addr) : Bool := readsIn K LE (.type "type") && (specialIn K (.ref LE) "__getattribute__" == some (some (.builtin "type.__getattribute__")))
def nsOk (K : Frag) (C : Addr) : Bool := findIn K (.ref C) "kind" == some none && (findIn K (.ref C) "ring" == some none && (keepIn K (.ref C) && mroIn K C (.ref C) == some true))
theorem all_mk {l : OpenLaw} {w : World} {K : Frag} {h : Heap} {mg : Str → Option Value} {fa C LE fI fM fLf fWa fRw fP fD fN fS fRo fT fK fLr fKe fIr fNw fIg fIw fWh fNm fL : Addr} (X : K.In h) (G : h.Ns mainGlobals mg) (hfa : mg "law" = some (.ref fa))
    {odI anI : Option Addr} {slI : Array (Option Value)} {ocI kVI dcI pmI cdI ctI : Value}
    {odM anM : Option Addr} {slM : Array (Option Value)} {ocM kVM dcM pmM cdM ctM : Value}
    {odLf anLf : Option Addr} {slLf : Array (Option Value)} {ocLf kVLf dcLf pmLf cdLf ctLf : Value}
    {odWa anWa : Option Addr} {slWa : Array (Option Value)} {ocWa kVWa dcWa pmWa cdWa ctWa : Value}
    {odRw anRw : Option Addr} {slRw : Array (Option Value)} {ocRw kVRw dcRw pmRw cdRw ctRw : Value}
    {odP anP : Option Addr} {slP : Array (Option Value)} {ocP kVP dcP pmP cdP ctP : Value}
    {odD anD : Option Addr} {slD : Array (Option Value)} {ocD kVD dcD pmD cdD ctD : Value}
    {odN anN : Option Addr} {slN : Array (Option Value)} {ocN kVN dcN pmN cdN ctN : Value}
    {odS anS : Option Addr} {slS : Array (Option Value)} {ocS kVS dcS pmS cdS ctS : Value}
    {odRo anRo : Option Addr} {slRo : Array (Option Value)} {ocRo kVRo dcRo pmRo cdRo ctRo : Value}
    {odT anT : Option Addr} {slT : Array (Option Value)} {ocT kVT dcT pmT cdT ctT : Value}
    {odK anK : Option Addr} {slK : Array (Option Value)} {ocK kVK dcK pmK cdK ctK : Value}
    {odLr anLr : Option Addr} {slLr : Array (Option Value)} {ocLr kVLr dcLr pmLr cdLr ctLr : Value}
    {odKe anKe : Option Addr} {slKe : Array (Option Value)} {ocKe kVKe dcKe pmKe cdKe ctKe : Value}
    {odIr anIr : Option Addr} {slIr : Array (Option Value)} {ocIr kVIr dcIr pmIr cdIr ctIr : Value}
    {odNw anNw : Option Addr} {slNw : Array (Option Value)} {ocNw kVNw dcNw pmNw cdNw ctNw : Value}
    {odIg anIg : Option Addr} {slIg : Array (Option Value)} {ocIg kVIg dcIg pmIg cdIg ctIg : Value}
    {odIw anIw : Option Addr} {slIw : Array (Option Value)} {ocIw kVIw dcIw pmIw cdIw ctIw : Value}
    {odWh anWh : Option Addr} {slWh : Array (Option Value)} {ocWh kVWh dcWh pmWh cdWh ctWh : Value}
    {odNm anNm : Option Addr} {slNm : Array (Option Value)} {ocNm kVNm dcNm pmNm cdNm ctNm : Value}
    {odL anL : Option Addr} {slL : Array (Option Value)} {ocL kVL dcL pmL cdL ctL : Value}
    (aC : nsIn K mainGlobals "Ring" = some (some (.ref C)))
    (aLE : nsIn K mainGlobals "LineError" = some (some (.ref LE)))
    (fIa : findIn K (.ref C) "__init__" = some (some (.ref fI)))
    (fIi : isFn K (.ref fI) = true)
    (fIq : excInI K C (some (.ref fI)) = true)
    (fIl : K.lookup fI = some ⟨ocI, odI, .func (fnOf "__init__" "Ring.__init__" (defArgs sRing) (defBody sRing) (defScope sRing) .none kVI dcI pmI anI cdI ctI), slI⟩)
    (fIc : codeIn K cdI "Ring.__init__" = true)
    (fIk : keepIn K (.ref fI) = true)
    (fMa : nsIn K mainGlobals "merged" = some (some (.ref fM)))
    (fMl : K.lookup fM = some ⟨ocM, odM, .func (fnOf "merged" "merged" (defArgs sMerged) (defBody sMerged) (defScope sMerged) .none kVM dcM pmM anM cdM ctM), slM⟩)
    (fMc : codeIn K cdM "merged" = true)
    (fMk : keepIn K (.ref fM) = true)
    (fLfa : nsIn K mainGlobals "least_free" = some (some (.ref fLf)))
    (fLfl : K.lookup fLf = some ⟨ocLf, odLf, .func (fnOf "least_free" "least_free" (defArgs sLeast) (defBody sLeast) (defScope sLeast) .none kVLf dcLf pmLf anLf cdLf ctLf), slLf⟩)
    (fLfc : codeIn K cdLf "least_free" = true)
    (fLfk : keepIn K (.ref fLf) = true)
    (fWaa : nsIn K mainGlobals "wish_against" = some (some (.ref fWa)))
    (fWal : K.lookup fWa = some ⟨ocWa, odWa, .func (fnOf "wish_against" "wish_against" (defArgs sWish) (defBody sWish) (defScope sWish) .none kVWa dcWa pmWa anWa cdWa ctWa), slWa⟩)
    (fWac : codeIn K cdWa "wish_against" = true)
    (fWak : keepIn K (.ref fWa) = true)
    (fRwa : nsIn K mainGlobals "ring_within" = some (some (.ref fRw)))
    (fRwl : K.lookup fRw = some ⟨ocRw, odRw, .func (fnOf "ring_within" "ring_within" (defArgs sRingW) (defBody sRingW) (defScope sRingW) .none kVRw dcRw pmRw anRw cdRw ctRw), slRw⟩)
    (fRwc : codeIn K cdRw "ring_within" = true)
    (fRwk : keepIn K (.ref fRw) = true)
    (fPa : nsIn K mainGlobals "_law_pot" = some (some (.ref fP)))
    (fPl : K.lookup fP = some ⟨ocP, odP, .func (fnOf "_law_pot" "_law_pot" (defArgs sPot) (defBody sPot) (defScope sPot) .none kVP dcP pmP anP cdP ctP), slP⟩)
    (fPc : codeIn K cdP "_law_pot" = true)
    (fPk : keepIn K (.ref fP) = true)
    (fDa : nsIn K mainGlobals "_law_digit" = some (some (.ref fD)))
    (fDl : K.lookup fD = some ⟨ocD, odD, .func (fnOf "_law_digit" "_law_digit" (defArgs sDigit) (defBody sDigit) (defScope sDigit) .none kVD dcD pmD anD cdD ctD), slD⟩)
    (fDc : codeIn K cdD "_law_digit" = true)
    (fDk : keepIn K (.ref fD) = true)
    (fNa : nsIn K mainGlobals "_law_names" = some (some (.ref fN)))
    (fNl : K.lookup fN = some ⟨ocN, odN, .func (fnOf "_law_names" "_law_names" (defArgs sNames) (defBody sNames) (defScope sNames) .none kVN dcN pmN anN cdN ctN), slN⟩)
    (fNc : codeIn K cdN "_law_names" = true)
    (fNk : keepIn K (.ref fN) = true)
    (fSa : nsIn K mainGlobals "_law_shuffled" = some (some (.ref fS)))
    (fSl : K.lookup fS = some ⟨ocS, odS, .func (fnOf "_law_shuffled" "_law_shuffled" (defArgs sShuf) (defBody sShuf) (defScope sShuf) .none kVS dcS pmS anS cdS ctS), slS⟩)
    (fSc : codeIn K cdS "_law_shuffled" = true)
    (fSk : keepIn K (.ref fS) = true)
    (fRoa : nsIn K mainGlobals "_law_rows" = some (some (.ref fRo)))
    (fRol : K.lookup fRo = some ⟨ocRo, odRo, .func (fnOf "_law_rows" "_law_rows" (defArgs sRows) (defBody sRows) (defScope sRows) .none kVRo dcRo pmRo anRo cdRo ctRo), slRo⟩)
    (fRoc : codeIn K cdRo "_law_rows" = true)
    (fRok : keepIn K (.ref fRo) = true)
    (fTa : nsIn K mainGlobals "_law_told" = some (some (.ref fT)))
    (fTl : K.lookup fT = some ⟨ocT, odT, .func (fnOf "_law_told" "_law_told" (defArgs sTold) (defBody sTold) (defScope sTold) .none kVT dcT pmT anT cdT ctT), slT⟩)
    (fTc : codeIn K cdT "_law_told" = true)
    (fTk : keepIn K (.ref fT) = true)
    (fKa : nsIn K mainGlobals "_law_is_kept" = some (some (.ref fK)))
    (fKl : K.lookup fK = some ⟨ocK, odK, .func (fnOf "_law_is_kept" "_law_is_kept" (defArgs sKept) (defBody sKept) (defScope sKept) .none kVK dcK pmK anK cdK ctK), slK⟩)
    (fKc : codeIn K cdK "_law_is_kept" = true)
    (fKk : keepIn K (.ref fK) = true)
    (fLra : nsIn K mainGlobals "_law_is_ring" = some (some (.ref fLr)))
    (fLrl : K.lookup fLr = some ⟨ocLr, odLr, .func (fnOf "_law_is_ring" "_law_is_ring" (defArgs sLRing) (defBody sLRing) (defScope sLRing) .none kVLr dcLr pmLr anLr cdLr ctLr), slLr⟩)
    (fLrc : codeIn K cdLr "_law_is_ring" = true)
    (fLrk : keepIn K (.ref fLr) = true)
    (fKea : nsIn K mainGlobals "keeps" = some (some (.ref fKe)))
    (fKel : K.lookup fKe = some ⟨ocKe, odKe, .func (fnOf "keeps" "keeps" (defArgs sKeeps) (defBody sKeeps) (defScope sKeeps) .none kVKe dcKe pmKe anKe cdKe ctKe), slKe⟩)
    (fKec : codeIn K cdKe "keeps" = true)
    (fKek : keepIn K (.ref fKe) = true)
    (fIra : nsIn K mainGlobals "is_row" = some (some (.ref fIr)))
    (fIrl : K.lookup fIr = some ⟨ocIr, odIr, .func (fnOf "is_row" "is_row" (defArgs sIsRow) (defBody sIsRow) (defScope sIsRow) .none kVIr dcIr pmIr anIr cdIr ctIr), slIr⟩)
    (fIrc : codeIn K cdIr "is_row" = true)
    (fIrk : keepIn K (.ref fIr) = true)
    (fNwa : nsIn K mainGlobals "names_within" = some (some (.ref fNw)))
    (fNwl : K.lookup fNw = some ⟨ocNw, odNw, .func (fnOf "names_within" "names_within" (defArgs sNamesIn) (defBody sNamesIn) (defScope sNamesIn) .none kVNw dcNw pmNw anNw cdNw ctNw), slNw⟩)
    (fNwc : codeIn K cdNw "names_within" = true)
    (fNwk : keepIn K (.ref fNw) = true)
    (fIga : nsIn K mainGlobals "is_ring" = some (some (.ref fIg)))
    (fIgl : K.lookup fIg = some ⟨ocIg, odIg, .func (fnOf "is_ring" "is_ring" (defArgs sIsRing) (defBody sIsRing) (defScope sIsRing) .none kVIg dcIg pmIg anIg cdIg ctIg), slIg⟩)
    (fIgc : codeIn K cdIg "is_ring" = true)
    (fIgk : keepIn K (.ref fIg) = true)
    (fIwa : nsIn K mainGlobals "is_wish" = some (some (.ref fIw)))
    (fIwl : K.lookup fIw = some ⟨ocIw, odIw, .func (fnOf "is_wish" "is_wish" (defArgs sIsWish) (defBody sIsWish) (defScope sIsWish) .none kVIw dcIw pmIw anIw cdIw ctIw), slIw⟩)
    (fIwc : codeIn K cdIw "is_wish" = true)
    (fIwk : keepIn K (.ref fIw) = true)
    (fWha : nsIn K mainGlobals "is_whole" = some (some (.ref fWh)))
    (fWhl : K.lookup fWh = some ⟨ocWh, odWh, .func (fnOf "is_whole" "is_whole" (defArgs sIsWhole) (defBody sIsWhole) (defScope sIsWhole) .none kVWh dcWh pmWh anWh cdWh ctWh), slWh⟩)
    (fWhc : codeIn K cdWh "is_whole" = true)
    (fWhk : keepIn K (.ref fWh) = true)
    (fNma : nsIn K mainGlobals "is_name" = some (some (.ref fNm)))
    (fNml : K.lookup fNm = some ⟨ocNm, odNm, .func (fnOf "is_name" "is_name" (defArgs sIsName) (defBody sIsName) (defScope sIsName) .none kVNm dcNm pmNm anNm cdNm ctNm), slNm⟩)
    (fNmc : codeIn K cdNm "is_name" = true)
    (fNmk : keepIn K (.ref fNm) = true)
    (fLa : nsIn K mainGlobals "law" = some (some (.ref fL)))
    (fLl : K.lookup fL = some ⟨ocL, odL, .func (fnOf "law" "law" (defArgs sLaw) (defBody sLaw) (defScope sLaw) .none kVL dcL pmL anL cdL ctL), slL⟩)
    (fLc : codeIn K cdL "law" = true)
    (fLk : keepIn K (.ref fL) = true)
    (hxc : xclsOk K C = true)
    (hns : nsOk K C = true)
    (hbs : bsOk K LE = true)
    (hfi : findCls K (.ref LE) (.type "type") "__init__" = some (.val (.builtin "ValueError.__init__")))
    (zlen : nsIn K mainGlobals "len" = some none)
    (zmax : nsIn K mainGlobals "max" = some none)
    (zmin : nsIn K mainGlobals "min" = some none)
    (zabs : nsIn K mainGlobals "abs" = some none)
    (zrange : nsIn K mainGlobals "range" = some none)
    (zany : nsIn K mainGlobals "any" = some none)
    (zall : nsIn K mainGlobals "all" = some none)
    (zlist : nsIn K mainGlobals "list" = some none)
    (ztuple : nsIn K mainGlobals "tuple" = some none)
    (zenumerate : nsIn K mainGlobals "enumerate" = some none)
    (zisinstance : nsIn K mainGlobals "isinstance" = some none)
    (zstr : nsIn K mainGlobals "str" = some none)
    (zdict : nsIn K mainGlobals "dict" = some none)
    (zsorted : nsIn K mainGlobals "sorted" = some none)
    (zint : nsIn K mainGlobals "int" = some none)
    (zbool : nsIn K mainGlobals "bool" = some none)
    (zset : nsIn K mainGlobals "set" = some none) :
    ∃ fd : FuncData, (∀ (s : Shared) (v : Value), BindsTo s fd ⟨[v], []⟩ [("_law_script", v)]) ∧ ∀ base : Heap, K.In base → base.Ns mainGlobals mg → FnOk l.prog w K mg base CX0 5 fa fd ["_law_script"] (spLaw K) := by
  have e := hfa.symm.trans (mg_of X G fLa)
  cases e
  have Bl : Blt mg := ⟨mg_none_of X G zlen, mg_none_of X G zmax, mg_none_of X G zmin, mg_none_of X G zabs, mg_none_of X G zrange, mg_none_of X G zany, mg_none_of X G zall, mg_none_of X G zlist, mg_none_of X G ztuple, mg_none_of X G zenumerate⟩
  have n1 := Bool.and_eq_true_iff.mp hns
  have n2 := Bool.and_eq_true_iff.mp n1.2
  have n3 := Bool.and_eq_true_iff.mp n2.2
  have bs : BaseIn K LE := ⟨(Bool.and_eq_true_iff.mp hbs).1, beq_iff_eq.mp (Bool.and_eq_true_iff.mp hbs).2, hfi⟩
  have FI := fun_mk (st := sRing) fIl fIc fIk
  have FM := fun_mk (st := sMerged) fMl fMc fMk
  have FLf := fun_mk (st := sLeast) fLfl fLfc fLfk
  have FWa := fun_mk (st := sWish) fWal fWac fWak
  have FRw := fun_mk (st := sRingW) fRwl fRwc fRwk
  have FP := fun_mk (st := sPot) fPl fPc fPk
  have FD := fun_mk (st := sDigit) fDl fDc fDk
  have FN := fun_mk (st := sNames) fNl fNc fNk
  have FS := fun_mk (st := sShuf) fSl fSc fSk
  have FRo := fun_mk (st := sRows) fRol fRoc fRok
  have FT := fun_mk (st := sTold) fTl fTc fTk
  have FK := fun_mk (st := sKept) fKl fKc fKk
  have FLr := fun_mk (st := sLRing) fLrl fLrc fLrk
  have FKe := fun_mk (st := sKeeps) fKel fKec fKek
  have FIr := fun_mk (st := sIsRow) fIrl fIrc fIrk
  have FNw := fun_mk (st := sNamesIn) fNwl fNwc fNwk
  have FIg := fun_mk (st := sIsRing) fIgl fIgc fIgk
  have FIw := fun_mk (st := sIsWish) fIwl fIwc fIwk
  have FWh := fun_mk (st := sIsWhole) fWhl fWhc fWhk
  have FNm := fun_mk (st := sIsName) fNml fNmc fNmk
  have FL := fun_mk (st := sLaw) fLl fLc fLk
  have bI := FI.binds (ps := ["self", "kind", "ring"]) fun _ _ _ _ _ _ us hl => match us, hl with | [_, _, _], _ => rfl
  have bM := FM.binds (ps := ["rows"]) fun _ _ _ _ _ _ us hl => match us, hl with | [_], _ => rfl
  have bLf := FLf.binds (ps := ["rest"]) fun _ _ _ _ _ _ us hl => match us, hl with | [_], _ => rfl
  have bWa := FWa.binds (ps := ["rest", "name"]) fun _ _ _ _ _ _ us hl => match us, hl with | [_, _], _ => rfl
  have bRw := FRw.binds (ps := ["rest"]) fun _ _ _ _ _ _ us hl => match us, hl with | [_], _ => rfl
  have bP := FP.binds (ps := ["_law_script", "_law_k"]) fun _ _ _ _ _ _ us hl => match us, hl with | [_, _], _ => rfl
  have bD := FD.binds (ps := ["_law_pot_here", "_law_many"]) fun _ _ _ _ _ _ us hl => match us, hl with | [_, _], _ => rfl
  have bN := FN.binds (ps := ["_law_pot_here", "_law_many"]) fun _ _ _ _ _ _ us hl => match us, hl with | [_, _], _ => rfl
  have bS := FS.binds (ps := ["_law_pot_here", "_law_names_here"]) fun _ _ _ _ _ _ us hl => match us, hl with | [_, _], _ => rfl
  have bRo := FRo.binds (ps := ["_law_pot_here", "_law_most_names", "_law_most_rows"]) fun _ _ _ _ _ _ us hl => match us, hl with | [_, _, _], _ => rfl
  have bT := FT.binds (ps := ["_law_rows_here"]) fun _ _ _ _ _ _ us hl => match us, hl with | [_], _ => rfl
  have bK := FK.binds (ps := ["_law_rows_here", "_law_order"]) fun _ _ _ _ _ _ us hl => match us, hl with | [_, _], _ => rfl
  have bLr := FLr.binds (ps := ["_law_rows_here", "_law_ring"]) fun _ _ _ _ _ _ us hl => match us, hl with | [_, _], _ => rfl
  have bKe := FKe.binds (ps := ["rows", "thing"]) fun _ _ _ _ _ _ us hl => match us, hl with | [_, _], _ => rfl
  have bIr := FIr.binds (ps := ["thing"]) fun _ _ _ _ _ _ us hl => match us, hl with | [_], _ => rfl
  have bNw := FNw.binds (ps := ["rows"]) fun _ _ _ _ _ _ us hl => match us, hl with | [_], _ => rfl
  have bIg := FIg.binds (ps := ["rows", "thing"]) fun _ _ _ _ _ _ us hl => match us, hl with | [_, _], _ => rfl
  have bIw := FIw.binds (ps := ["rows", "thing"]) fun _ _ _ _ _ _ us hl => match us, hl with | [_, _], _ => rfl
  have bWh := FWh.binds (ps := ["thing"]) fun _ _ _ _ _ _ us hl => match us, hl with | [_], _ => rfl
  have bNm := FNm.binds (ps := ["thing"]) fun _ _ _ _ _ _ us hl => match us, hl with | [_], _ => rfl
  have xc := xcls_of hxc
  have T : RingT K mg LE C fI (fnOf "__init__" "Ring.__init__" (defArgs sRing) (defBody sRing) (defScope sRing) .none kVI dcI pmI anI cdI ctI) := ⟨mg_of X G aC, fIq, fIi, n3.1, FI, bs, mg_of X G aLE, bI, xc, beq_iff_eq.mp n1.1, beq_iff_eq.mp n2.1⟩
  have mD := mg_of X G fDa
  have B2 : Blt2 mg := ⟨mg_none_of X G zisinstance, mg_none_of X G zstr, mg_none_of X G zdict, mg_none_of X G zsorted⟩
  have B3 : Blt3 mg := ⟨mg_none_of X G zint, mg_none_of X G zbool⟩
  have bst := mg_none_of X G zset
  exact ⟨fnOf "law" "law" (defArgs sLaw) (defBody sLaw) (defScope sLaw) .none kVL dcL pmL anL cdL ctL, fun s v => .of_eq rfl, fun base _ _ =>
    ok_law FL Bl (ok_pot FP Bl) fPk bP (mg_of X G fPa)
      (ok_rows FRo Bl FD bD mD FN bN (mg_of X G fNa) FS bS (mg_of X G fSa)) fRok bRo (mg_of X G fRoa)
      (ok_told FT (ok_merged FM Bl T FWa bWa (mg_of X G fWaa) FLf bLf (mg_of X G fLfa) FRw bRw (mg_of X G fRwa)) fMk bM (mg_of X G fMa) (mg_of X G aC) xc (beq_iff_eq.mp n3.2) fIq (beq_iff_eq.mp n1.1) (beq_iff_eq.mp n2.1)) fTk bT (mg_of X G fTa)
      (ok_kp FK Bl B2) fKk bK (mg_of X G fKa) (ok_lrg FLr Bl B2 B3 bst) fLrk bLr (mg_of X G fLra)
      (ok_keeps FKe Bl B2 (ok_rw FIr Bl B2 bst (ok_name FNm Bl B2) fNmk bNm (mg_of X G fNma)) fIrk bIr (mg_of X G fIra) ((ok_nw FNw B2).mono (by decide)) fNwk bNw (mg_of X G fNwa)) fKek bKe (mg_of X G fKea)
      (ok_isrg FIg Bl B2 bst (ok_isw FIw Bl B2 (ok_name FNm Bl B2) fNmk bNm (mg_of X G fNma) (ok_whole FWh B2 B3) fWhk bWh (mg_of X G fWha)) fIwk bIw (mg_of X G fIwa)) fIgk bIg (mg_of X G fIga)⟩
theorem walk {l : OpenLaw} {q : Program} {loose : List Str} {XP : (Str → Option Value) → Heap → Prop} {YP : World → Heap → Prop} {d : DefRec} {K : Params → Frag} (hn : l.most = some 63) (hdf : d.params.defaults = [])
    (hY : ∀ (w : World) (h : Heap), YP w h → (K w.params).In h)
    (F : ∀ (w : World) (mg : Str → Option Value) (fa : Addr) (h : Heap), (K w.params).In h → h.Ns mainGlobals mg → mg d.name = some (.ref fa) →
      ∃ fd : FuncData, (∀ (s : Shared) (u : Value), BindsTo s fd ⟨[u], []⟩ [("_law_script", u)]) ∧ ∀ base : Heap, (K w.params).In base → base.Ns mainGlobals mg → FnOk l.prog w (K w.params) mg base CX0 5 fa fd ["_law_script"] (spLaw (K w.params))) :
    WalkO q loose XP YP l.row.toRowW d [] (fun f vs => PySem.call f vs) :=
  L2.walk_of (n := 63) (k := 5) (x := "_law_script") (CX := fun _ => CX0) (sp := fun w => spLaw (K w.params)) hn (by decide) hdf ⟨rfl, by decide, by decide, rfl⟩ hY F (fun _ _ a ns hl _ hS => by unfold spLaw; exact ⟨a, ns, rfl, hS, hl, fun _ => rfl⟩) fun _ _ _ _ _ z => z
end K11
open PySem PySem.W PyProof.Rows
set_option maxRecDepth 100000 in
set_option maxHeartbeats 0 in
theorem PySem.Challenge.cw_parentlines_k11_rows_merged_or_a_ring_holds : PySem.Challenge.rw_parentlines_k11_rows_merged_or_a_ring.Holds := by
  w_on; o_law; k_head; (case hw => w_witness2)
  k_fill
  refine K11.walk (l := PySem.Challenge.rw_parentlines_k11_rows_merged_or_a_ring) rfl rfl (fun w h Y => PySem.W.kIn_of Y) ?F
  case F =>
    intro w mg fa h KX G hmg
    refine' K11.all_mk KX G hmg ?aC ?aLE ?fIa ?fIi ?fIq ?fIl ?fIc ?fIk ?fMa ?fMl ?fMc ?fMk ?fLfa ?fLfl ?fLfc ?fLfk ?fWaa ?fWal ?fWac ?fWak ?fRwa ?fRwl ?fRwc ?fRwk ?fPa ?fPl ?fPc ?fPk ?fDa ?fDl ?fDc ?fDk ?fNa ?fNl ?fNc ?fNk ?fSa ?fSl ?fSc ?fSk ?fRoa ?fRol ?fRoc ?fRok ?fTa ?fTl ?fTc ?fTk ?fKa ?fKl ?fKc ?fKk ?fLra ?fLrl ?fLrc ?fLrk ?fKea ?fKel ?fKec ?fKek ?fIra ?fIrl ?fIrc ?fIrk ?fNwa ?fNwl ?fNwc ?fNwk ?fIga ?fIgl ?fIgc ?fIgk ?fIwa ?fIwl ?fIwc ?fIwk ?fWha ?fWhl ?fWhc ?fWhk ?fNma ?fNml ?fNmc ?fNmk ?fLa ?fLl ?fLc ?fLk ?hxc ?hns ?hbs ?hfi ?zlen ?zmax ?zmin ?zabs ?zrange ?zany ?zall ?zlist ?ztuple ?zenumerate ?zisinstance ?zstr ?zdict ?zsorted ?zint ?zbool ?zset
    (case aC => k_is)
    (case aLE => k_is)
    (case fIa => k_is)
    (case fIi => k_is)
    (case fIl => k_is)
    (case fIc => k_is)
    (case fIk => k_is)
    (case fMa => k_is)
    (case fMl => k_is)
    (case fMc => k_is)
    (case fMk => k_is)
    (case fLfa => k_is)
    (case fLfl => k_is)
    (case fLfc => k_is)
    (case fLfk => k_is)
    (case fWaa => k_is)
    (case fWal => k_is)
    (case fWac => k_is)
    (case fWak => k_is)
    (case fRwa => k_is)
    (case fRwl => k_is)
    (case fRwc => k_is)
    (case fRwk => k_is)
    (case fPa => k_is)
    (case fPl => k_is)
    (case fPc => k_is)
    (case fPk => k_is)
    (case fDa => k_is)
    (case fDl => k_is)
    (case fDc => k_is)
    (case fDk => k_is)
    (case fNa => k_is)
    (case fNl => k_is)
    (case fNc => k_is)
    (case fNk => k_is)
    (case fSa => k_is)
    (case fSl => k_is)
    (case fSc => k_is)
    (case fSk => k_is)
    (case fRoa => k_is)
    (case fRol => k_is)
    (case fRoc => k_is)
    (case fRok => k_is)
    (case fTa => k_is)
    (case fTl => k_is)
    (case fTc => k_is)
    (case fTk => k_is)
    (case fKa => k_is)
    (case fKl => k_is)
    (case fKc => k_is)
    (case fKk => k_is)
    (case fLra => k_is)
    (case fLrl => k_is)
    (case fLrc => k_is)
    (case fLrk => k_is)
    (case fKea => k_is)
    (case fKel => k_is)
    (case fKec => k_is)
    (case fKek => k_is)
    (case fIra => k_is)
    (case fIrl => k_is)
    (case fIrc => k_is)
    (case fIrk => k_is)
    (case fNwa => k_is)
    (case fNwl => k_is)
    (case fNwc => k_is)
    (case fNwk => k_is)
    (case fIga => k_is)
    (case fIgl => k_is)
    (case fIgc => k_is)
    (case fIgk => k_is)
    (case fIwa => k_is)
    (case fIwl => k_is)
    (case fIwc => k_is)
    (case fIwk => k_is)
    (case fWha => k_is)
    (case fWhl => k_is)
    (case fWhc => k_is)
    (case fWhk => k_is)
    (case fNma => k_is)
    (case fNml => k_is)
    (case fNmc => k_is)
    (case fNmk => k_is)
    (case fLa => k_is)
    (case fLl => k_is)
    (case fLc => k_is)
    (case fLk => k_is)
    (case hfi => k_is)
    (case zlen => k_is)
    (case zmax => k_is)
    (case zmin => k_is)
    (case zabs => k_is)
    (case zrange => k_is)
    (case zany => k_is)
    (case zall => k_is)
    (case zlist => k_is)
    (case ztuple => k_is)
    (case zenumerate => k_is)
    (case zisinstance => k_is)
    (case zstr => k_is)
    (case zdict => k_is)
    (case zsorted => k_is)
    (case zint => k_is)
    (case zbool => k_is)
    (case zset => k_is)
    (case fIq => kernel_rfl)
    (case hxc => kernel_rfl)
    (case hns => kernel_rfl)
    (case hbs => kernel_rfl)
