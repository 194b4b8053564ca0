import PyProof.Rows.All
import Wide.All
import OpenK.AllK
import Wide.FinOn
import Lean
import PyProof.EqAt
import PyProof.EqKinds
import PyProof.TupleCall
import PyProof.ReprRoads
import PyProof.ReprBulk
import PyProof.EnumMake
import PyProof.EnumFor
import KE.KRevSl
import KE.KDictList
import PyProof.ZipIter
import PyProof.AttrMissHeap
import KE.KDictOf
import KE.KItemsList
import PyProof.Rows.ZipGen
import PyProof.CallFns
import PyProof.StrWalks
import PyProof.FString5
import KE.KSortTup
import PyProof.SetRoads
import PyProof.SetNew
import PyProof.Rows.SetFrom
import PyProof.WalksMore
import PyProof.ForAny
import PyProof.DictWalks
import PySem.Challenge.RW_parentlines_k29_whole_a_forebear_named_l
set_option Elab.async false
set_option linter.all false
set_option maxRecDepth 100000
set_option maxHeartbeats 4000000
-- CHANGE: your row's module here, as the last of these rows
/-! THE HAND LAYER, for ints, bools, texts, own classes, LISTS and tuples (index, slices, in, append, pop ..), calls, loops. Paste it whole ahead of your own text; what your proof does not reach may be deleted. -/
namespace L2
open PySem PySem.Spec PyProof.Rows

/-- a key: an int or a str -/
abbrev Key := Sum Int Str
def keyIs : Key → Value → Bool
  | .inl k, v => Value.isInt k v
  | .inr x, v => Value.isStrOf x v
def keyH (w : World) : Key → Int
  | .inl k => hashInt k
  | .inr x => hashStr w x
theorem keyIs_shape : ∀ {k : Key} {v : Value}, keyIs k v = true → (∃ i t, k = Sum.inl i ∧ v = Value.int i t) ∨ (∃ x t, k = Sum.inr x ∧ v = Value.str x t)
  | .inl i, v, h => by
    obtain ⟨t, e⟩ := Value.isInt_shape (k := i) (v := v) h
    exact .inl ⟨i, t, rfl, e⟩
  | .inr x, v, h => by
    obtain ⟨t, e⟩ := Value.isStrOf_shape (x := x) (v := v) h
    exact .inr ⟨x, t, rfl, e⟩
theorem keyIs_int (i : Int) (t : Tok) : keyIs (.inl i) (.int i t) = true := by simp [keyIs, Value.isInt]
theorem keyIs_str (x : Str) (t : Tok) : keyIs (.inr x) (.str x t) = true := by simp [keyIs, Value.isStrOf]
theorem key_ll (a b : Int) : decide ((Sum.inl a : Key) = Sum.inl b) = (a == b) := by
  by_cases e : a = b
  · subst e; simp
  · have h : ¬ (Sum.inl a : Key) = Sum.inl b := fun q => e (Sum.inl.inj q)
    rw [decide_eq_false h]
    exact (beq_eq_false_iff_ne.mpr e).symm
theorem key_rr (a b : Str) : decide ((Sum.inr a : Key) = Sum.inr b) = decide (a = b) := by
  by_cases e : a = b
  · subst e; simp
  · have h : ¬ (Sum.inr a : Key) = Sum.inr b := fun q => e (Sum.inr.inj q)
    rw [decide_eq_false h, decide_eq_false e]
theorem key_lr (a : Int) (b : Str) : decide ((Sum.inl a : Key) = Sum.inr b) = false := decide_eq_false (fun q => nomatch q)
theorem key_rl (a : Str) (b : Int) : decide ((Sum.inr a : Key) = Sum.inl b) = false := decide_eq_false (fun q => nomatch q)

def mixKind (prog : Program) (w : World) : PySem.KeyKind prog w Key where
  is := keyIs
  hash := keyH w
  inj := fun v a b ha hb => by
    rcases keyIs_shape ha with ⟨i, t, rfl, rfl⟩ | ⟨x, t, rfl, rfl⟩
    · rcases keyIs_shape hb with ⟨j, u, rfl, e⟩ | ⟨y, u, rfl, e⟩
      · injection e with e1 _; rw [e1]
      · exact nomatch e
    · rcases keyIs_shape hb with ⟨j, u, rfl, e⟩ | ⟨y, u, rfl, e⟩
      · exact nomatch e
      · injection e with e1 _; rw [e1]
  byValue := fun k v h => by
    rcases keyIs_shape h with ⟨i, t, rfl, rfl⟩ | ⟨x, t, rfl, rfl⟩ <;> rfl
  pyHash := fun hv h => by
    rcases keyIs_shape hv with ⟨i, t, rfl, rfl⟩ | ⟨x, t, rfl, rfl⟩
    · exact wpAny_pyHash_int h
    · exact wpAny_pyHash_str h
  eqBool := fun hu hv h => by
    rcases keyIs_shape hu with ⟨i, t, rfl, rfl⟩ | ⟨x, t, rfl, rfl⟩
    · rcases keyIs_shape hv with ⟨j, u, rfl, rfl⟩ | ⟨y, u, rfl, rfl⟩
      · rw [key_ll] at h; exact wpAny_eqBool_int h
      · rw [key_lr] at h; exact SeqAt.EqAt.int_str i t y u _ _ _ _ h
    · rcases keyIs_shape hv with ⟨j, u, rfl, rfl⟩ | ⟨y, u, rfl, rfl⟩
      · rw [key_rl] at h; exact SeqAt.EqAt.str_int x t j u _ _ _ _ h
      · rw [key_rr] at h; exact wpAny_eqBool_str h
  «strs» := fun k x t v h => by
    rcases keyIs_shape h with ⟨i, u, rfl, e⟩ | ⟨y, u, rfl, e⟩
    · exact nomatch e
    · injection e with e1 _
      subst e1
      cases v <;> rfl

theorem mixKind_int (prog : Program) (w : World) (i : Int) (t : Tok) : (mixKind prog w).is (.inl i) (.int i t) = true := keyIs_int i t
theorem mixKind_str (prog : Program) (w : World) (x : Str) (t : Tok) : (mixKind prog w).is (.inr x) (.str x t) = true := keyIs_str x t
end L2

namespace L2
open PySem PySem.Spec PyProof.Rows

/-- a value, without the heap -/
inductive V where
  | non | bl (b : Bool) | int (i : Int) | str (x : Str) | byt (b : Array UInt8) | flt (b : UInt64) | ref (a : Addr) | ty (n : String)
  deriving DecidableEq

def RelV : V → Value → Prop
  | .non, u => u = Value.none
  | .bl b, u => u = Value.bool b
  | .int i, u => ∃ t, u = Value.int i t
  | .str x, u => ∃ t, u = Value.str x t
  | .byt b, u => ∃ t, u = Value.bytes b t
  | .flt b, u => ∃ t, u = Value.float b t
  | .ref a, u => u = Value.ref a
  | .ty n, u => u = Value.type n

abbrev Vals : List V → List Value → Prop := Paired RelV
theorem Vals.length {xs : List V} {us : List Value} (r : Vals xs us) : xs.length = us.length := Paired.length r
theorem Vals.get : ∀ {xs : List V} {us : List Value} {i : Nat} {x : V}, Vals xs us → xs[i]? = some x → ∃ u, us[i]? = some u ∧ RelV x u
  | _, _, _, _, .nil, e => by simp at e
  | _, _, 0, _, .cons r _, e => by simp at e; subst e; exact ⟨_, rfl, r⟩
  | _, _, i + 1, x, .cons _ t, e => by
    obtain ⟨u, h1, h2⟩ := Vals.get (i := i) (x := x) t (by simpa using e)
    exact ⟨u, by simpa using h1, h2⟩
theorem Vals.set {x : V} {u : Value} (r : RelV x u) : ∀ {xs : List V} {us : List Value} (i : Nat), Vals xs us → Vals (xs.set i x) (us.set i u)
  | _, _, _, .nil => .nil
  | _, _, 0, .cons _ t => .cons r t
  | _, _, i + 1, .cons q t => .cons q (Vals.set r i t)
theorem Vals.append : ∀ {xs ys : List V} {us ws : List Value}, Vals xs us → Vals ys ws → Vals (xs ++ ys) (us ++ ws)
  | _, _, _, _, .nil, s => s
  | _, _, _, _, .cons r t, s => .cons r (Vals.append t s)
theorem Vals.take : ∀ {xs : List V} {us : List Value} (n : Nat), Vals xs us → Vals (xs.take n) (us.take n)
  | _, _, 0, _ => .nil
  | _, _, _ + 1, .nil => .nil
  | _, _, n + 1, .cons r t => .cons r (Vals.take n t)
theorem Vals.drop : ∀ {xs : List V} {us : List Value} (n : Nat), Vals xs us → Vals (xs.drop n) (us.drop n)
  | _, _, 0, r => r
  | _, _, _ + 1, .nil => .nil
  | _, _, n + 1, .cons _ t => Vals.drop n t
def RelO : Option V → Option Value → Prop
  | some v, some u => RelV v u
  | none, none => True
  | _, _ => False
def KV {κ : Type} : List (κ × V) → List (κ × Value) → Prop := Paired fun (p : κ × V) (q : κ × Value) => p.1 = q.1 ∧ RelV p.2 q.2

/-- a key of a dict (00_mix): an int or a text -/
def kV : Key → V
  | .inl i => .int i
  | .inr x => .str x

/-- what stands at a tracked address -/
inductive HO where
  /-- a list -/
  | lst (xs : List V)
  /-- a tuple (never changes) -/
  | tup (xs : List V)
  /-- a dict whose keys are ints and texts; one whose keys are tuples of ints and texts (the empty one is both) -/
  | dK (kvs : List (Key × V)) | dT (kvs : List (List Key × V))
  /-- a set of ints: its members, its size -/
  | set (S : Int → Bool) (n : Nat)
  /-- an instance of the class at C, its dict at dx, its attributes -/
  | ins (C dx : Addr) (fs : List (Str × V))
  /-- the dict of the instance at x -/
  | own (x : Addr)
  /-- the dict of an exception -/
  | xd (fs : List (Str × V))
  /-- a bound method, f of x -/
  | met (f x : Addr)
  /-- a range object lo, lo + 1, .. below hi -/
  | rng (lo hi : Int)
  /-- a thing that is known to the object (the script; a dict while a loop walks it): read, never written while it is so -/
  | frz (o : Obj) (u : HO)
  /-- a code object's table -/
  | tbl (ps : Array Value)
  /-- any other thing, by what is true of its one object (a def of one's own: SetO a S n := HO.ext fun h => ..) -/
  | ext (φ : Heap → Prop)

abbrev Hp := Addr → Option HO
def upd (H : Hp) (a : Addr) (o : HO) : Hp := fun b => if b = a then some o else H b
theorem upd_same {H : Hp} {a : Addr} {o : HO} : upd H a o a = some o := by unfold upd; rw [if_pos rfl]
theorem upd_ne {H : Hp} {a b : Addr} {o : HO} (h : b ≠ a) : upd H a o b = H b := by unfold upd; rw [if_neg h]
theorem upd_upd {H : Hp} {a : Addr} {o u : HO} : upd (upd H a o) a u = upd H a u := by
  funext b; unfold upd; split <;> rfl
/-- two objects of different content stand apart -/
theorem ne_of {H : Hp} {a b : Addr} {o u : HO} (h : H a = some o) (h' : H b = some u) (d : o ≠ u) : a ≠ b := by
  intro e; subst e; rw [h] at h'; exact d (Option.some.inj h')
theorem ne_of_none {H : Hp} {a b : Addr} {o : HO} (h : H a = some o) (h' : H b = none) : a ≠ b := by
  intro e; subst e; rw [h] at h'; cases h'

/-- a tuple, with no dict -/
def TupN (h : Heap) (a : Addr) (items : Array Value) : Prop := ∃ o, h.get? a = some o ∧ o.cls = .type "tuple" ∧ ∃ n, o.data = .seq items n ∧ o.dict = none
theorem TupN.is {h : Heap} {a : Addr} {items : Array Value} (x : TupN h a items) : IsTup h a items := let ⟨o, e, c, n, d, _⟩ := x; ⟨o, e, c, n, d⟩
theorem TupN.new (h : Heap) (items : Array Value) : TupN (h.push { cls := .type "tuple", data := .seq items }) h.objs.size items := ⟨_, Heap.get?_push_size _ rfl, rfl, _, rfl, rfl⟩
section
variable (P : Program) (w : World)
def ObjOk (H : Hp) (h : Heap) (a : Addr) : HO → Prop
  | .lst xs => xs.length ≤ sizeLine ∧ ∃ (its : List Value) (n : Nat), Vals xs its ∧ h.get? a = some { cls := .type "list", data := .seq its.toArray n }
  | .tup xs => xs.length ≤ sizeLine ∧ ∃ its : List Value, Vals xs its ∧ TupN h a its.toArray
  | .dK kvs => kvs.length ≤ sizeLine ∧ (a == sysModules) = false ∧ ∃ vs, KV kvs vs ∧ h.DictOf (mixKind P w) a vs
  | .dT kvs => kvs.length ≤ sizeLine ∧ (a == sysModules) = false ∧ ∃ xs : List (List Key × Addr × Value),
      Paired (fun (p : List Key × V) (q : List Key × Addr × Value) => p.1 = q.1 ∧ H q.2.1 = some (.tup (p.1.map kV)) ∧ RelV p.2 q.2.2) kvs xs ∧
      ∃ o es ep, h.get? a = some o ∧ o.ExactDict ∧ o.data = .dict es ep ∧ es.toList = xs.map (entryOfKey (tupleKind (mixKind P w))) ∧ (xs.map (·.1)).Nodup
  | .set S n => h.SetOf (intKind P w) a S n
  | .ins C dx fs => H dx = some (.own a) ∧ fs.length ≤ 1000 ∧ dx ≠ a ∧ h.get? a = some (PySem.W.instObj C dx) ∧
      ∃ mA, h.Ns1 dx mA ∧ (∀ f, RelO (fs.lookup f) (mA f)) ∧ PySem.Within mA (fs.map (·.1))
  | .own _ => ∃ o, h.get? a = some o
  | .xd fs => ∃ mA, h.Ns1 a mA ∧ ∀ f, RelO (fs.lookup f) (mA f)
  | .rng lo hi => ∃ t u v, h.get? a = some { cls := .type "range", data := .fields #[.int lo t, .int hi u, .int 1 v] }
  | .frz o u => h.get? a = some o ∧ ObjOk H h a u
  | .tbl ps => h.get? a = some { cls := .none, data := .fields ps }
  | .met f x => h.get? a = some (PySem.W.methodObj (.ref f) (.ref x))
  | .ext φ => φ h ∧ (∃ o, h.get? a = some o) ∧ ∀ h1 h2 : Heap, φ h1 → (∀ o, h1.get? a = some o → h2.get? a = some o) → φ h2
/-- the abstract heap is held -/
def HOk (H : Hp) (h : Heap) : Prop := ∀ a o, H a = some o → ObjOk P w H h a o
end

section
variable {P : Program} {w : World} {H H' : Hp} {h h' : Heap} {a : Addr} {o : HO}
theorem ObjOk.lt (x : ObjOk P w H h a o) : a < h.objs.size := by
  cases o with
  | lst xs => obtain ⟨_, _, _, _, e⟩ := x; exact Heap.lt_size e
  | tup xs => obtain ⟨_, _, _, p⟩ := x; exact p.is.lt
  | dK kvs => obtain ⟨_, _, _, _, o, _, _, e, _⟩ := x; exact Heap.lt_size e
  | dT kvs => obtain ⟨_, _, _, _, o, _, _, e, _⟩ := x; exact Heap.lt_size e
  | set S n => obtain ⟨o, _, _, _, e, _⟩ := x; exact Heap.lt_size e
  | ins C dx fs => obtain ⟨_, _, _, e, _⟩ := x; exact Heap.lt_size e
  | own y => obtain ⟨_, e⟩ := x; exact Heap.lt_size e
  | xd fs => obtain ⟨_, ⟨_, _, _, e, _⟩, _⟩ := x; exact Heap.lt_size e
  | rng lo hi => obtain ⟨_, _, _, e⟩ := x; exact Heap.lt_size e
  | frz ob u => obtain ⟨e, _⟩ := x; exact Heap.lt_size e
  | tbl ps => exact Heap.lt_size (show h.get? a = some _ from x)
  | met f y => exact Heap.lt_size (show h.get? a = some _ from x)
  | ext φ => obtain ⟨_, ⟨_, e⟩, _⟩ := x; exact Heap.lt_size e
theorem Paired.mapP {α β : Type} {F G : α → β → Prop} : ∀ {l₁ : List α} {l₂ : List β}, Paired F l₁ l₂ → (∀ a b, F a b → G a b) → Paired G l₁ l₂
  | _, _, .nil, _ => .nil
  | _, _, .cons r t, f => .cons (f _ _ r) (Paired.mapP t f)
theorem Paired.imp' {α β : Type} {F G : α → β → Prop} (f : ∀ a b, F a b → G a b) {l₁ : List α} {l₂ : List β} (r : Paired F l₁ l₂) : Paired G l₁ l₂ := Paired.mapP r f
/-- what an object's description leans on: its own object, its own dict, the tuples -/
theorem ObjOk.stay (x : ObjOk P w H h a o) (k : ∀ b u, (b = a ∨ H b = some (.own a)) → h.get? b = some u → h'.get? b = some u)
    (ho : ∀ b, H b = some (.own a) → H' b = some (.own a)) (ht : ∀ b xs, H b = some (.tup xs) → H' b = some (.tup xs)) : ObjOk P w H' h' a o := by
  induction o with
  | lst xs => obtain ⟨z, its, n, r, e⟩ := x; exact ⟨z, its, n, r, k _ _ (.inl rfl) e⟩
  | tup xs => obtain ⟨z, its, r, ob, e, c⟩ := x; exact ⟨z, its, r, ob, k _ _ (.inl rfl) e, c⟩
  | dK kvs => obtain ⟨z, y, vs, r, ob, es, ep, e, c⟩ := x; exact ⟨z, y, vs, r, ob, es, ep, k _ _ (.inl rfl) e, c⟩
  | dT kvs =>
    obtain ⟨z, y, xs, r, ob, es, ep, e, c⟩ := x
    exact ⟨z, y, xs, Paired.mapP r fun p q z => ⟨z.1, ht _ _ z.2.1, z.2.2⟩, ob, es, ep, k _ _ (.inl rfl) e, c⟩
  | set S n => obtain ⟨ob, es, ep, t, e, c⟩ := x; exact ⟨ob, es, ep, t, k _ _ (.inl rfl) e, c⟩
  | ins C dx fs =>
    obtain ⟨d, z, ne, e, mA, ⟨od, es, ep, e2, c⟩, r⟩ := x
    exact ⟨ho _ d, z, ne, k _ _ (.inl rfl) e, mA, ⟨od, es, ep, k _ _ (.inr d) e2, c⟩, r⟩
  | own y => obtain ⟨ob, e⟩ := x; exact ⟨ob, k _ _ (.inl rfl) e⟩
  | xd fs => obtain ⟨mA, ⟨od, es, ep, e, c⟩, r⟩ := x; exact ⟨mA, ⟨od, es, ep, k _ _ (.inl rfl) e, c⟩, r⟩
  | rng lo hi => obtain ⟨t, u, v, e⟩ := x; exact ⟨t, u, v, k _ _ (.inl rfl) e⟩
  | frz ob u ih => obtain ⟨e, q⟩ := x; exact ⟨k _ _ (.inl rfl) e, ih q⟩
  | tbl ps =>
    have e : h.get? a = some { cls := .none, data := .fields ps } := x
    show h'.get? a = some { cls := .none, data := .fields ps }
    exact k a _ (.inl rfl) e
  | met f y =>
    have e : h.get? a = some (PySem.W.methodObj (.ref f) (.ref y)) := x
    show h'.get? a = some (PySem.W.methodObj (.ref f) (.ref y))
    exact k a _ (.inl rfl) e
  | ext φ => obtain ⟨p, ⟨o, e⟩, st⟩ := x; exact ⟨st _ _ p fun o q => k _ _ (.inl rfl) q, ⟨o, k _ _ (.inl rfl) e⟩, st⟩
theorem HOk.lt (x : HOk P w H h) (e : H a = some o) : a < h.objs.size := (x a o e).lt
theorem HOk.fresh (x : HOk P w H h) (e : h.objs.size ≤ a) : H a = none := by
  cases q : H a with
  | none => rfl
  | some u => exact absurd (Nat.lt_of_lt_of_le (x.lt q) e) (Nat.lt_irrefl _)
/-- every object of the heap is kept -/
theorem HOk.kept (x : HOk P w H h) (k : ∀ b u, h.get? b = some u → h'.get? b = some u) : HOk P w H h' := fun a o e =>
  (x a o e).stay (fun b u _ q => k b u q) (fun _ q => q) fun _ _ q => q
/-- a new object is laid and tracked -/
theorem HOk.laid (x : HOk P w H h) (k : ∀ b u, h.get? b = some u → h'.get? b = some u) (hp : h.objs.size ≤ a) (new : ObjOk P w (upd H a o) h' a o) : HOk P w (upd H a o) h' := fun b u e => by
  have hn := x.fresh hp
  by_cases hb : b = a
  · subst hb; rw [upd_same] at e; cases e; exact new
  · rw [upd_ne hb] at e
    exact (x b u e).stay (fun c v _ q => k c v q) (fun c q => by rw [upd_ne (ne_of_none q hn)]; exact q) fun c xs q => by rw [upd_ne (ne_of_none q hn)]; exact q
end

/-- what may be read as u: it is u, or a known u -/
def Rd (H : Hp) (a : Addr) (u : HO) : Prop := H a = some u ∨ ∃ o, H a = some (.frz o u)
theorem Rd.of {H : Hp} {a : Addr} {u : HO} (h : H a = some u) : Rd H a u := .inl h
theorem Rd.ok {P : Program} {w : World} {H : Hp} {h : Heap} {a : Addr} {u : HO} (r : Rd H a u) (x : HOk P w H h) : ObjOk P w H h a u := by
  rcases r with r | ⟨o, r⟩
  · exact x a u r
  · obtain ⟨_, q⟩ := x a _ r
    exact q
/-- what may be written -/
def Mut : Option HO → Prop
  | some (.lst _) => True
  | some (.dK _) => True
  | some (.dT _) => True
  | some (.set _ _) => True
  | some (.ins _ _ _) => True
  | some (.ext _) => True
  | _ => False
section
variable {P : Program} {w : World} {H : Hp} {h h' : Heap} {x e : Addr} {o' : HO}
/-- the object at e is changed: x itself, or the dict of the instance x -/
theorem HOk.write (ok : HOk P w H h) (mu : Mut (H x)) (he : e = x ∨ H e = some (.own x)) (k : ∀ b u, b ≠ e → h.get? b = some u → h'.get? b = some u) (heo : ∃ u, h'.get? e = some u)
    (new : ObjOk P w (upd H x o') h' x o') : HOk P w (upd H x o') h' := fun b u q => by
  have nown : ∀ c y, H c = some (.own y) → c ≠ x := fun c y r z => by subst z; rw [r] at mu; exact mu
  have ntup : ∀ c xs, H c = some (.tup xs) → c ≠ x := fun c xs r z => by subst z; rw [r] at mu; exact mu
  by_cases hb : b = x
  · subst hb; rw [upd_same] at q; cases q; exact new
  · rw [upd_ne hb] at q
    by_cases hbe : b = e
    · have q' : H b = some (.own x) := by
        rcases he with z | z
        · exact absurd (hbe.trans z) hb
        · rw [hbe]; exact z
      rw [q] at q'; cases q'
      obtain ⟨v, hv⟩ := heo
      exact ⟨v, by rw [hbe]; exact hv⟩
    · refine (ok b u q).stay (fun c v hc r => k c v ?_ r) (fun c r => by rw [upd_ne (nown c b r)]; exact r) fun c xs r => by rw [upd_ne (ntup c xs r)]; exact r
      rcases hc with rfl | hc
      · exact hbe
      · rintro rfl
        rcases he with z | z
        · exact nown c b hc z
        · rw [hc] at z; cases z; exact hb rfl
end

/-! ### kept unless tracked; of the frames at fs (the callers') the slots may change (an exception that passes writes there); of the records at ex (iterators) nothing is said -/
structure Un (fs ex : List Addr) (H H' : Hp) (h h' : Heap) : Prop where
  keep : ∀ b o, h.get? b = some o → H b = none → b ∉ fs → b ∉ ex → h'.get? b = some o
  slot : ∀ b o, h.get? b = some o → H b = none → b ∈ fs → b ∉ ex → ∃ sl, h'.get? b = some { o with slots := sl }
  free : ∀ b o, h.get? b = some o → H b = none → b ∉ ex → H' b = none
  there : ∀ b o, h.get? b = some o → b ∉ ex → ∃ o', h'.get? b = some o'
  tups : ∀ b xs, H b = some (.tup xs) → H' b = some (.tup xs)
  frzs : ∀ b o u, H b = some (.frz o u) → H' b = some (.frz o u)
  tbls : ∀ b ps, H b = some (.tbl ps) → ∃ more, H' b = some (.tbl (ps ++ more))
section
variable {fs fs' ex ex' : List Addr} {H H1 H2 : Hp} {h h1 h2 h' : Heap} {a x e : Addr} {o : HO}
theorem Un.any (u : Un fs ex H H1 h h1) {b : Addr} {ob : Obj} (q : h.get? b = some ob) (n : H b = none) (hx : b ∉ ex) : ∃ sl, h1.get? b = some { ob with slots := sl } := by
  by_cases hb : b ∈ fs
  · exact u.slot b ob q n hb hx
  · exact ⟨ob.slots, u.keep b ob q n hb hx⟩
theorem Un.trans (a : Un fs ex H H1 h h1) (b : Un fs ex H1 H2 h1 h2) : Un fs ex H H2 h h2 where
  keep := fun c ob q n hc hx => b.keep c ob (a.keep c ob q n hc hx) (a.free c ob q n hx) hc hx
  slot := fun c ob q n hc hx => by
    obtain ⟨sl, e1⟩ := a.slot c ob q n hc hx
    obtain ⟨sl', e2⟩ := b.slot c _ e1 (a.free c ob q n hx) hc hx
    exact ⟨sl', e2⟩
  free := fun c ob q n hx => by
    obtain ⟨o', e1⟩ := a.there c ob q hx
    exact b.free c o' e1 (a.free c ob q n hx) hx
  there := fun c ob q hx => by
    obtain ⟨o', e1⟩ := a.there c ob q hx
    exact b.there c o' e1 hx
  tups := fun c xs q => b.tups c xs (a.tups c xs q)
  frzs := fun c ob xs q => b.frzs c ob xs (a.frzs c ob xs q)
  tbls := fun c ps q => by
    obtain ⟨m1, e1⟩ := a.tbls c ps q
    obtain ⟨m2, e2⟩ := b.tbls c _ e1
    exact ⟨m1 ++ m2, by rw [e2, Array.append_assoc]⟩
theorem Un.kept (k : ∀ b u, h.get? b = some u → h'.get? b = some u) : Un fs ex H H h h' :=
  ⟨fun b ob q _ _ _ => k b ob q, fun b ob q _ _ _ => ⟨ob.slots, k b ob q⟩, fun _ _ _ n _ => n, fun b ob q _ => ⟨ob, k b ob q⟩, fun _ _ q => q, fun _ _ _ q => q, fun _ ps q => ⟨#[], by rw [q]; simp⟩⟩
theorem Un.refl : Un fs ex H H h h := Un.kept fun _ _ q => q
theorem Un.laid (k : ∀ b u, h.get? b = some u → h'.get? b = some u) (hp : h.objs.size ≤ a) (hn : H a = none) : Un fs ex H (upd H a o) h h' where
  keep := fun b u q _ _ _ => k b u q
  slot := fun b u q _ _ _ => ⟨u.slots, k b u q⟩
  free := fun b u q n _ => by rw [upd_ne (Nat.ne_of_lt (Nat.lt_of_lt_of_le (Heap.lt_size q) hp))]; exact n
  there := fun b u q _ => ⟨u, k b u q⟩
  tups := fun b xs q => by rw [upd_ne (ne_of_none q hn)]; exact q
  frzs := fun b u xs q => by rw [upd_ne (ne_of_none q hn)]; exact q
  tbls := fun b ps q => ⟨#[], by rw [upd_ne (ne_of_none q hn), q]; simp⟩
theorem Un.write (mu : Mut (H x)) (he : e = x ∨ H e = some (.own x)) (k : ∀ b u, b ≠ e → h.get? b = some u → h'.get? b = some u) (heo : ∃ u, h'.get? e = some u) : Un fs ex H (upd H x o) h h' := by
  have hx : ∀ b, H b = none → b ≠ x := fun b n z => by subst z; rw [n] at mu; exact mu
  have hb : ∀ b, H b = none → b ≠ e := fun b n z => by
    subst z
    rcases he with r | r
    · exact hx b n r
    · rw [n] at r; cases r
  have hm : ∀ b u, H b = some u → ¬ Mut (some u) → b ≠ x := fun b u q nm z => by subst z; rw [q] at mu; exact nm mu
  refine ⟨fun b u q n _ _ => k b u (hb b n) q, fun b u q n _ _ => ⟨u.slots, k b u (hb b n) q⟩, fun b u q n _ => by rw [upd_ne (hx b n)]; exact n, fun b u q _ => ?_,
    fun b xs q => by rw [upd_ne (hm b _ q fun z => z)]; exact q, fun b u xs q => by rw [upd_ne (hm b _ q fun z => z)]; exact q, fun b ps q => ⟨#[], by rw [upd_ne (hm b _ q fun z => z), q]; simp⟩⟩
  by_cases hbe : b = e
  · subst hbe; exact heo
  · exact ⟨u, k b u hbe q⟩
theorem Un.mono (u : Un fs ex H H1 h h1) (hs : ∀ b ∈ fs, b ∈ fs') (hx : ∀ b ∈ ex, b ∈ ex') : Un fs' ex' H H1 h h1 :=
  ⟨fun b ob q n hb he => u.keep b ob q n (fun z => hb (hs b z)) fun z => he (hx b z), fun _ _ q n _ he => u.any q n fun z => he (hx _ z), fun b ob q n he => u.free b ob q n fun z => he (hx b z), fun b ob q he => u.there b ob q fun z => he (hx b z), u.tups, u.frzs, u.tbls⟩
end

/-! ### the heap without what is tracked -/
def trk (h : Heap) (H : Hp) : List Addr := (List.range h.objs.size).filter fun a => (H a).isSome
def hidT (h : Heap) (H : Hp) : Heap := PySem.W.hideAll h (trk h H)
theorem hidT_size (h : Heap) (H : Hp) : (hidT h H).objs.size = h.objs.size := PySem.W.hideAll_size _ _
theorem hidT_get {h : Heap} {H : Hp} {b : Addr} {o : Obj} (e : h.get? b = some o) (n : H b = none) : (hidT h H).get? b = some o :=
  PySem.W.hideAll_get _ e fun hm => by
    have q : (H b).isSome = true := (List.mem_filter.mp hm).2
    rw [n] at q; simp at q
theorem of_hidT {h : Heap} {H : Hp} {b : Addr} {o : Obj} (e : (hidT h H).get? b = some o) : h.get? b = some o ∧ H b = none := by
  have e' : h.get? b = some o := PySem.W.of_hideAll (trk h H) e
  refine ⟨e', ?_⟩
  cases q : H b with
  | none => rfl
  | some x =>
    have hm : b ∈ trk h H := List.mem_filter.mpr ⟨List.mem_range.mpr (Heap.lt_size e'), by simp [q]⟩
    have z : (hidT h H).get? b = none := PySem.W.hideAll_none (trk h H) hm
    rw [z] at e; cases e

/-! ### OpenK's ledger, filled with every new object but one -/
def allNews (g h : Heap) (L : Addr) : List (Addr × Obj) := (List.range h.objs.size).filterMap fun a => if a = L ∨ (g.get? a).isSome = true then none else (h.get? a).map fun o => (a, o)
theorem mem_allNews {g h : Heap} {L a : Addr} {o : Obj} (h1 : a ≠ L) (h2 : g.get? a = none) (h3 : h.get? a = some o) : (a, o) ∈ allNews g h L :=
  List.mem_filterMap.mpr ⟨a, List.mem_range.mpr (Heap.lt_size h3), by simp [h1, h2, h3]⟩
theorem of_mem_allNews {g h : Heap} {L : Addr} {p : Addr × Obj} (hp : p ∈ allNews g h L) : p.1 ≠ L ∧ g.get? p.1 = none ∧ h.get? p.1 = some p.2 := by
  obtain ⟨b, _, e⟩ := List.mem_filterMap.mp hp
  split at e
  · cases e
  · rename_i hn
    cases q : h.get? b with
    | none => rw [q] at e; simp at e
    | some u =>
      rw [q] at e
      simp only [Option.map_some, Option.some.injEq] at e
      subst e
      refine ⟨fun z => hn (.inl z), ?_, q⟩
      show g.get? b = none
      cases r : g.get? b with
      | none => rfl
      | some v => exact (hn (.inr (by simp [r]))).elim
def rest (g h : Heap) (L d : Addr) : List (Addr × Obj) := (allNews g h L).filter fun p => decide (p.1 ≠ d)
theorem news_all {g h : Heap} {L : Addr} : News g L h (allNews g h L) := fun p hp => let ⟨a, b, c⟩ := of_mem_allNews hp; ⟨c, a, b⟩
end L2

namespace L2
open PySem PySem.Spec PyProof.Rows

/-- the module's facts, over the base: the heap at the law's entry without what is tracked there -/
structure Mod (K : PySem.W.Frag) (mg : Str → Option Value) (base : Heap) : Prop where
  kin : K.In base
  glob : base.Ns mainGlobals mg
  blt : ∃ mb, base.Ns builtinsNs mb ∧ ∀ x : Str, x ≠ "__name__" → mb x = bootBuiltins x
  nolimit : base.NoLimit

/-- the context: a def's body (or a comprehension's block) running. base: fixed through the whole law; s₀, H₀: the entry; outer: the frames whose slots others may change (a def's callers); stack: all frames that run;
   ex: iterators that were made ahead of the entry and are walked here (a comprehension's); fn: the names whose cells were made at the entry (a def: all; a comprehension's block: its own); calm: not within an except suite; pn: pins that every state bears; xe: what is wanted of an exception that leaves the code -/
structure Cx where
  prog : Program
  w : World
  K : PySem.W.Frag
  mg : Str → Option Value
  base : Heap
  A : Around
  N : List Str
  s₀ : Shared
  H₀ : Hp
  env : Env
  outer : List Env
  stack : List Env
  ex : List Addr
  fn : Str → Bool
  calm : Bool
  pn : List (Addr × Obj)
  xe : Value → Shared → Prop
/-- the callers' frames -/
def frs (l : List Env) : List Addr := l.filterMap (·.frame)
abbrev Cx.fs (X : Cx) : List Addr := frs X.outer

def Vis (sc : Scope) (x : Str) : Prop := sc.names.lookup x = some .local ∨ sc.names.lookup x = some .cell ∨ sc.names.lookup x = some .free
def Loc (sc : Scope) (x : Str) : Prop := sc.names.lookup x = some .local ∨ sc.names.lookup x = some .cell
def Look (env : Env) (h : Heap) (m : Str → Option Value) (x : Str) (u : Value) : Prop :=
  (env.kindOf x = some .local ∧ m x = some u) ∨ ((env.kindOf x = some .cell ∨ env.kindOf x = some .free) ∧ ∃ c, env.cells.lookup x = some c ∧ h.IsCell c (some u))

structure Cx.Ok (X : Cx) : Prop where
  mod : Mod X.K X.mg X.base
  kind : X.env.scope.kind = .function
  glob : X.env.globals = mainGlobals
  blt : X.env.builtins = builtinsNs
  above : X.s₀.heap.objs.size ≤ X.env.locals
  inj : ∀ x y c, X.env.cells.lookup x = some c → X.env.cells.lookup y = some c → x = y
  has : ∀ x, (X.env.kindOf x = some .cell ∨ X.env.kindOf x = some .free) → ∃ c, X.env.cells.lookup x = some c
  cab : ∀ x c, X.fn x = true → X.env.cells.lookup x = some c → X.s₀.heap.objs.size ≤ c
  hd : X.calm = true → X.A.handled = none
  frames : X.A.frames = some X.stack
  stk : X.stack = X.outer ∨ (X.stack = X.env :: X.outer ∧ X.env.frame = some X.env.locals)
  exf : ∀ b ∈ X.ex, b ≠ X.env.locals ∧ ∀ x c, X.env.cells.lookup x = some c → c ≠ b
  bs : ∀ b o, X.base.get? b = some o → X.s₀.heap.get? b = some o ∧ X.H₀ b = none
  bsz : X.base.objs.size ≤ X.s₀.heap.objs.size
  noex : ∀ b o, X.base.get? b = some o → b ∉ X.ex
  exfs : ∀ b ∈ X.ex, b ∉ X.fs
  funs : X.s₀.heap.FunFrames X.base X.outer
  frf : ∀ b ∈ X.fs, X.H₀ b = none

structure Inv (X : Cx) (pins : List (Addr × Obj)) (σ : List (Option V)) (H : Hp) (s : Shared) : Prop where
  ok : X.Ok
  os : s.os = X.s₀.os
  bare : AllBare s.gens
  base : Un X.fs X.ex X.H₀ H X.s₀.heap s.heap
  loc : ∃ m, s.heap.Ns X.env.locals m ∧ ∀ (i : Nat) (x : Str) (v : V), X.N[i]? = some x → σ[i]? = some (some v) → Vis X.env.scope x → ∃ u, RelV v u ∧ Look X.env s.heap m x u
  cell : ∀ x c, X.env.cells.lookup x = some c → ∃ v, s.heap.IsCell c v
  free : H X.env.locals = none
  freeC : ∀ x c, X.env.cells.lookup x = some c → H c = none
  pin : ∀ p ∈ X.pn ++ pins, s.heap.get? p.1 = some p.2 ∧ H p.1 = none ∧ p.1 ≠ X.env.locals ∧ p.1 ∉ X.fs ∧ ∀ v, p.2.data ≠ .cell v
  hok : HOk X.prog X.w H s.heap
  len : σ.length = X.N.length

section
variable {X : Cx} {pins : List (Addr × Obj)} {σ : List (Option V)} {H H' : Hp} {s : Shared} {h' : Heap}

theorem Cx.Ok.nofr (ok : X.Ok) {b : Addr} {o : Obj} (e : X.base.get? b = some o) : b ∉ X.fs := fun hb => by
  have := (ok.funs.mem hb).1
  rw [e] at this; cases this
theorem Inv.bs (I : Inv X pins σ H s) : ∀ b o, X.base.get? b = some o → s.heap.get? b = some o ∧ H b = none := fun b o e =>
  ⟨I.base.keep b o (I.ok.bs b o e).1 (I.ok.bs b o e).2 (I.ok.nofr e) (I.ok.noex b o e), I.base.free b o (I.ok.bs b o e).1 (I.ok.bs b o e).2 (I.ok.noex b o e)⟩
theorem Inv.bk (I : Inv X pins σ H s) : ∀ b o, X.base.get? b = some o → s.heap.get? b = some o := fun b o e => (I.bs b o e).1
theorem Inv.mod (I : Inv X pins σ H s) : Mod X.K X.mg X.base := I.ok.mod
theorem Inv.kIn (I : Inv X pins σ H s) : X.K.In s.heap := I.ok.mod.kin.keeps I.bk
theorem Inv.nolimit (I : Inv X pins σ H s) : s.heap.NoLimit := I.ok.mod.nolimit.keeps I.bk
/-- the frame over the base: for OpenK's rules (K.In X.base is I.mod.kin) -/
theorem Inv.fr (I : Inv X pins σ H s) : ∃ m, Fr X.base X.env.locals s.heap m :=
  let ⟨m, hn, _⟩ := I.loc
  ⟨m, hn, I.bk, Nat.le_trans I.ok.bsz I.ok.above⟩
theorem Inv.lt (I : Inv X pins σ H s) : X.env.locals < s.heap.objs.size := let ⟨_, hn, _⟩ := I.loc; hn.lt
theorem Inv.sz (I : Inv X pins σ H s) : X.s₀.heap.objs.size ≤ s.heap.objs.size := Nat.le_trans I.ok.above (Nat.le_of_lt I.lt)
theorem Inv.nofs (I : Inv X pins σ H s) {a : Addr} (h : s.heap.objs.size ≤ a) : a ∉ X.fs := fun hb => by
  obtain ⟨_, o, ho, _⟩ := I.ok.funs.mem hb
  exact absurd (Nat.lt_of_lt_of_le (Heap.lt_size ho) (Nat.le_trans I.sz h)) (Nat.lt_irrefl _)
theorem Inv.cne (I : Inv X pins σ H s) : ∀ x c, X.env.cells.lookup x = some c → c ≠ X.env.locals := fun x c e z => by
  obtain ⟨v, o, ho, hd⟩ := I.cell x c e
  obtain ⟨m, ⟨o', es, ep, ho', hd', _⟩, _⟩ := I.loc
  rw [z, ho'] at ho; cases ho; rw [hd'] at hd; cases hd
theorem Inv.funs (I : Inv X pins σ H s) : s.heap.FunFrames X.base X.outer := by
  have all : ∀ (l : List Env), (∀ b ∈ frs l, b ∈ X.fs) → X.s₀.heap.FunFrames X.base l → s.heap.FunFrames X.base l := by
    intro l
    induction l with
    | nil => intro _ _; trivial
    | cons env r ih =>
      intro hs hl
      obtain ⟨hk, ⟨L, o, hf, hn, ho, hd⟩, hr⟩ := hl
      have hL : L ∈ X.fs := hs L (by unfold frs; rw [List.filterMap_cons, hf]; exact List.mem_cons_self)
      obtain ⟨sl, e⟩ := I.base.slot L o ho (I.ok.frf L hL) hL fun z => I.ok.exfs L z hL
      exact ⟨hk, ⟨L, _, hf, hn, e, hd⟩, ih (fun b hb => hs b (by unfold frs; rw [List.filterMap_cons, hf]; exact List.mem_cons_of_mem _ hb)) hr⟩
  exact all X.outer (fun _ hb => hb) I.ok.funs

/-- the frames that run, for a call -/
theorem Inv.stack (I : Inv X pins σ H s) : s.heap.FunFrames X.base X.stack := by
  rcases I.ok.stk with e | ⟨e, hf⟩
  · rw [e]; exact I.funs
  · rw [e]
    obtain ⟨m, hn, _⟩ := I.loc
    refine .cons (by rw [I.ok.kind]; decide) hf hn ?_ I.funs
    exact Heap.get?_none_of_le (Nat.le_trans I.ok.bsz I.ok.above)
theorem Inv.stkSub (I : Inv X pins σ H s) : ∀ b ∈ frs X.stack, b ∈ X.env.locals :: X.fs := fun b hb => by
  rcases I.ok.stk with e | ⟨e, hf⟩
  · rw [e] at hb; exact List.mem_cons_of_mem _ hb
  · rw [e] at hb
    unfold frs at hb
    rw [List.filterMap_cons, hf] at hb
    exact hb
theorem Inv.stkFree (I : Inv X pins σ H s) : ∀ b ∈ frs X.stack, H b = none := fun b hb => by
  rcases List.mem_cons.mp (I.stkSub b hb) with e | hb
  · rw [e]; exact I.free
  · obtain ⟨_, o, ho, _⟩ := I.ok.funs.mem hb
    exact I.base.free b o ho (I.ok.frf b hb) fun z => I.ok.exfs b z hb

/-- THE STEP: the untracked objects but the frame and the records at ch are kept (the callers' frames up to slots), the frame's map is kept, the new abstract heap is held -/
theorem Inv.step {g' : Array GenState} {t' : Nat} {d' : Drawn} {ch : List Addr} (I : Inv X pins σ H s)
    (hch : ∀ b ∈ ch, (b ∈ X.ex ∨ X.s₀.heap.objs.size ≤ b) ∧ b ≠ X.env.locals ∧ (∀ x c, X.env.cells.lookup x = some c → c ≠ b) ∧ ∀ p ∈ X.pn ++ pins, p.1 ≠ b)
    (keep : ∀ b o, b ≠ X.env.locals → b ∉ X.fs → b ∉ ch → s.heap.get? b = some o → H b = none → h'.get? b = some o)
    (slot : ∀ b o, b ≠ X.env.locals → b ∈ X.fs → b ∉ ch → s.heap.get? b = some o → H b = none → ∃ sl, h'.get? b = some { o with slots := sl }) (free : ∀ b o, b ∉ ch → s.heap.get? b = some o → H b = none → H' b = none)
    (there : ∀ b o, b ∉ ch → s.heap.get? b = some o → ∃ o', h'.get? b = some o')
    (tups : ∀ b xs, H b = some (.tup xs) → H' b = some (.tup xs)) (frzs : ∀ b o u, H b = some (.frz o u) → H' b = some (.frz o u)) (tbls : ∀ b ps, H b = some (.tbl ps) → ∃ more, H' b = some (.tbl (ps ++ more)))
    (ns : ∀ m, s.heap.Ns X.env.locals m → h'.Ns X.env.locals m) (hok : HOk X.prog X.w H' h') (hg : AllBare g') :
    Inv X pins σ H' { s with heap := h', gens := g', drawn := d', toks := t' } := by
  have neL : ∀ b o, X.s₀.heap.get? b = some o → b ≠ X.env.locals := fun b o e => Nat.ne_of_lt (Nat.lt_of_lt_of_le (Heap.lt_size e) I.ok.above)
  have neC : ∀ b o, X.s₀.heap.get? b = some o → b ∉ X.ex → b ∉ ch := fun b o e hx hb => by
    rcases (hch b hb).1 with z | z
    · exact hx z
    · exact absurd (Nat.lt_of_lt_of_le (Heap.lt_size e) z) (Nat.lt_irrefl _)
  have cellK : ∀ x c, X.env.cells.lookup x = some c → ∀ v, s.heap.IsCell c v → h'.IsCell c v := fun x c e v ⟨o, ho, hd⟩ => by
    have nch : c ∉ ch := fun z => (hch c z).2.2.1 x c e rfl
    by_cases hc : c ∈ X.fs
    · obtain ⟨sl, q⟩ := slot c o (I.cne x c e) hc nch ho (I.freeC x c e)
      exact ⟨_, q, hd⟩
    · exact ⟨o, keep c o (I.cne x c e) hc nch ho (I.freeC x c e), hd⟩
  refine ⟨I.ok, I.os, hg, ⟨fun b o e n hb hx => ?_, fun b o e n hb hx => ?_, fun b o e n hx => ?_, fun b o e hx => ?_, fun b xs e => tups b xs (I.base.tups b xs e), fun b o xs e => frzs b o xs (I.base.frzs b o xs e), fun b ps e => ?_⟩, ?_, fun x c e => ?_, ?_, fun x c e => ?_, fun p hp => ?_, hok, I.len⟩
  · exact keep b o (neL b o e) hb (neC b o e hx) (I.base.keep b o e n hb hx) (I.base.free b o e n hx)
  · obtain ⟨sl, e1⟩ := I.base.slot b o e n hb hx
    obtain ⟨sl', e2⟩ := slot b _ (neL b o e) hb (neC b o e hx) e1 (I.base.free b o e n hx)
    exact ⟨sl', e2⟩
  · obtain ⟨o', e1⟩ := I.base.there b o e hx
    exact free b o' (neC b o e hx) e1 (I.base.free b o e n hx)
  · obtain ⟨o', e1⟩ := I.base.there b o e hx
    exact there b o' (neC b o e hx) e1
  · obtain ⟨m1, e1⟩ := I.base.tbls b ps e
    obtain ⟨m2, e2⟩ := tbls b _ e1
    exact ⟨m1 ++ m2, by rw [e2, Array.append_assoc]⟩
  · obtain ⟨m, hn, hl⟩ := I.loc
    refine ⟨m, ns m hn, fun i x v e1 e2 e3 => ?_⟩
    obtain ⟨u, r, l⟩ := hl i x v e1 e2 e3
    refine ⟨u, r, ?_⟩
    rcases l with l | ⟨k, c, e, z⟩
    · exact .inl l
    · exact .inr ⟨k, c, e, cellK x c e _ z⟩
  · obtain ⟨v, z⟩ := I.cell x c e
    exact ⟨v, cellK x c e v z⟩
  · obtain ⟨m, ⟨o, _, _, ho, _⟩, _⟩ := I.loc
    exact free _ o (fun z => (hch _ z).2.1 rfl) ho I.free
  · obtain ⟨v, o, ho, hd⟩ := I.cell x c e
    exact free c o (fun z => (hch c z).2.2.1 x c e rfl) ho (I.freeC x c e)
  · obtain ⟨e, n, ne, nf, d⟩ := I.pin p hp
    have nch : p.1 ∉ ch := fun z => (hch p.1 z).2.2.2 p hp rfl
    exact ⟨keep p.1 p.2 ne nf nch e n, free p.1 p.2 nch e n, ne, nf, d⟩
/-- .. where the frame's own object is kept too -/
theorem Inv.un {t' : Nat} (I : Inv X pins σ H s) (u : Un X.fs [] H H' s.heap h') (hok : HOk X.prog X.w H' h') : Inv X pins σ H' { s with heap := h', toks := t' } := by
  obtain ⟨m, ⟨o, es, ep, ho, r⟩, _⟩ := id I.loc
  obtain ⟨sl, hL⟩ := u.any ho I.free (by simp)
  exact I.step (g' := s.gens) (d' := s.drawn) (ch := []) (fun _ z => nomatch z) (fun b o _ hb _ e n => u.keep b o e n hb (by simp)) (fun b o _ hb _ e n => u.slot b o e n hb (by simp)) (fun b o _ e n => u.free b o e n (by simp)) (fun b o _ e => u.there b o e (by simp)) u.tups u.frzs u.tbls (fun m' hm => by
    obtain ⟨o', es', ep', ho', r'⟩ := hm
    rw [ho] at ho'; cases ho'
    exact ⟨_, es', ep', hL, r'⟩) hok I.bare
/-- behind a call (or a comprehension's block): the slots of this frame may have changed too, the records at ch may have turned -/
theorem Inv.call {g' : Array GenState} {t' : Nat} {d' : Drawn} {ch : List Addr} (I : Inv X pins σ H s) (u : Un (frs X.stack) ch H H' s.heap h') (hok : HOk X.prog X.w H' h') (hg : AllBare g')
    (hch : ∀ b ∈ ch, (b ∈ X.ex ∨ X.s₀.heap.objs.size ≤ b) ∧ b ≠ X.env.locals ∧ (∀ x c, X.env.cells.lookup x = some c → c ≠ b) ∧ ∀ p ∈ X.pn ++ pins, p.1 ≠ b) :
    Inv X pins σ H' { s with heap := h', gens := g', drawn := d', toks := t' } := by
  obtain ⟨m, ⟨o, es, ep, ho, r⟩, _⟩ := id I.loc
  obtain ⟨sl, hL⟩ := u.any ho I.free fun z => (hch _ z).2.1 rfl
  exact I.step (ch := ch) hch (fun b o hL hb hc e n => u.keep b o e n (fun z => (List.mem_cons.mp (I.stkSub b z)).elim hL hb) hc) (fun b o _ _ hc e n => u.any e n hc) (fun b o hc e n => u.free b o e n hc) (fun b o hc e => u.there b o e hc) u.tups u.frzs u.tbls (fun m' hm => by
    obtain ⟨o', es', ep', ho', r'⟩ := hm
    rw [ho] at ho'; cases ho'
    exact ⟨_, es', ep', hL, r'⟩) hok hg
/-- an untracked record of ours (an iterator) has turned -/
theorem Inv.turned {t' : Nat} {it : Addr} (I : Inv X pins σ H s) (k : ∀ b o, b ≠ it → s.heap.get? b = some o → h'.get? b = some o) (hn : H it = none) (hL : it ≠ X.env.locals)
    (h1 : it ∈ X.ex ∨ X.s₀.heap.objs.size ≤ it) (h2 : ∀ x c, X.env.cells.lookup x = some c → c ≠ it) (h3 : ∀ p ∈ X.pn ++ pins, p.1 ≠ it) : Inv X pins σ H { s with heap := h', toks := t' } := by
  have nit : ∀ b u, H b = some u → b ≠ it := fun b u e z => by rw [z, hn] at e; cases e
  refine I.step (g' := s.gens) (d' := s.drawn) (ch := [it]) (fun b hb => ?_) (fun b o _ _ hc e _ => k b o (fun z => hc (by simp [z])) e) (fun b o _ _ hc e _ => ⟨o.slots, k b o (fun z => hc (by simp [z])) e⟩) (fun _ _ _ _ n => n)
    (fun b o hc e => ⟨o, k b o (fun z => hc (by simp [z])) e⟩) (fun _ _ e => e) (fun _ _ _ e => e) (fun b ps e => ⟨#[], by rw [e]; simp⟩) (fun m hm => ?_) (fun b u e => ?_) I.bare
  · have e : b = it := by simpa using hb
    subst e
    exact ⟨h1, hL, h2, h3⟩
  · obtain ⟨o, es, ep, ho, r⟩ := hm
    exact ⟨o, es, ep, k _ o (Ne.symm hL) ho, r⟩
  · refine (I.hok b u e).stay (fun c v hc q => k c v ?_ q) (fun _ q => q) fun _ _ q => q
    rcases hc with z | z
    · rw [z]; exact nit b u e
    · exact nit c _ z
theorem Inv.tok (I : Inv X pins σ H s) (t : Nat) : Inv X pins σ H { s with toks := t } := I.un (h' := s.heap) (t' := t) Un.refl I.hok
/-- all objects kept -/
theorem Inv.kept {t' : Nat} (I : Inv X pins σ H s) (k : ∀ b u, s.heap.get? b = some u → h'.get? b = some u) : Inv X pins σ H { s with heap := h', toks := t' } := I.un (Un.kept k) (I.hok.kept k)
/-- a new object laid and tracked -/
theorem Inv.laid {a : Addr} {o : HO} {t' : Nat} (I : Inv X pins σ H s) (k : ∀ b u, s.heap.get? b = some u → h'.get? b = some u) (hp : s.heap.objs.size ≤ a) (new : ObjOk X.prog X.w (upd H a o) h' a o) :
    Inv X pins σ (upd H a o) { s with heap := h', toks := t' } := I.un (Un.laid k hp (I.hok.fresh hp)) (I.hok.laid k hp new)
/-- an object written -/
theorem Inv.write {x e : Addr} {o : HO} {t' : Nat} (I : Inv X pins σ H s) (mu : Mut (H x)) (he : e = x ∨ H e = some (.own x)) (k : ∀ b u, b ≠ e → s.heap.get? b = some u → h'.get? b = some u) (heo : ∃ u, h'.get? e = some u)
    (new : ObjOk X.prog X.w (upd H x o) h' x o) : Inv X pins σ (upd H x o) { s with heap := h', toks := t' } := I.un (Un.write mu he k heo) (I.hok.write mu he k heo new)
theorem Inv.pins_of {pins' : List (Addr × Obj)} (I : Inv X pins σ H s) (h : ∀ p ∈ pins', s.heap.get? p.1 = some p.2 ∧ H p.1 = none ∧ p.1 ≠ X.env.locals ∧ p.1 ∉ X.fs ∧ ∀ v, p.2.data ≠ .cell v) : Inv X pins' σ H s :=
  ⟨I.ok, I.os, I.bare, I.base, I.loc, I.cell, I.free, I.freeC, fun p hp => (List.mem_append.mp hp).elim (fun z => I.pin p (List.mem_append_left _ z)) (h p), I.hok, I.len⟩

theorem nodup_ix {N : List Str} (hN : N.Nodup) {i j : Nat} {x : Str} (a : N[i]? = some x) (b : N[j]? = some x) : i = j := by
  obtain ⟨h1, e1⟩ := List.getElem?_eq_some_iff.mp a
  obtain ⟨h2, e2⟩ := List.getElem?_eq_some_iff.mp b
  exact (List.getElem_inj hN).mp (e1.trans e2.symm)

/-- a name is stored; what changed -/
theorem store_ok2 {M : Model} {A : Around} {E : Value → Shared → Prop} {i : Nat} {x : Str} {v : V} {u : Value} {Q : Unit → Shared → Prop} (I : Inv X pins σ H s) (hN : X.N.Nodup) (hi : X.N[i]? = some x) (hx : Loc X.env.scope x) (r : RelV v u)
    (h : ∀ s', Inv X pins (σ.set i (some v)) H s' → (∃ a, Heap.SameBut a s.heap s'.heap ∧ (a = X.env.locals ∨ X.env.cells.lookup x = some a)) → Q () s') (hf : X.fn x = true ∨ X.env.scope.names.lookup x = some .local := by first | exact .inl rfl | exact .inr rfl | assumption) : wpAny M A (storeName X.env x u) Q E s := by
  obtain ⟨m, hn, hl⟩ := id I.loc
  have hcls : (X.env.scope.kind == .class || (X.env.scope.kind == .module && X.env.locals != X.env.globals)) = false := by rw [I.ok.kind]; rfl
  have hiσ : i < σ.length := by rw [I.len]; exact (List.getElem?_eq_some_iff.mp hi).1
  have cne := I.cne
  have tracked : ∀ {a : Addr} {h' : Heap}, (∃ o, s.heap.get? a = some o ∧ H a = none) → Heap.SameBut a s.heap h' → HOk X.prog X.w H h' := fun {a h'} ha hs b ob e => by
    obtain ⟨_, _, hfree⟩ := ha
    refine (I.hok b ob e).stay (fun c w' hc q => (hs.2 c ?_).trans q) (fun _ q => q) fun _ _ q => q
    rintro rfl
    rcases hc with rfl | hc
    · rw [hfree] at e; cases e
    · rw [hfree] at hc; cases hc
  rcases hx with hk | hk
  · refine wpAny_storeName_local hk hn (fun h' hn' hs => ?_) hcls
    obtain ⟨oL, _, _, hoL, _⟩ := id hn
    refine h _ ⟨I.ok, I.os, I.bare, ⟨fun b o e n hb hx => ?_, fun b o e n hb hx => ?_, I.base.free, fun b o e hx => ?_, I.base.tups, I.base.frzs, I.base.tbls⟩, ⟨_, hn', fun j y v' e1 e2 e3 => ?_⟩, fun y c e => ?_, I.free, I.freeC, fun p hp => ?_, tracked ⟨oL, hoL, I.free⟩ hs, by simpa using I.len⟩ ⟨_, hs, .inl rfl⟩
    · exact (hs.2 b (Nat.ne_of_lt (Nat.lt_of_lt_of_le (Heap.lt_size e) I.ok.above))).trans (I.base.keep b o e n hb hx)
    · obtain ⟨sl, e1⟩ := I.base.slot b o e n hb hx
      exact ⟨sl, (hs.2 b (Nat.ne_of_lt (Nat.lt_of_lt_of_le (Heap.lt_size e) I.ok.above))).trans e1⟩
    · obtain ⟨o', e1⟩ := I.base.there b o e hx
      exact ⟨o', (hs.2 b (Nat.ne_of_lt (Nat.lt_of_lt_of_le (Heap.lt_size e) I.ok.above))).trans e1⟩
    · by_cases hj : j = i
      · subst hj
        rw [hi] at e1; cases e1
        rw [List.getElem?_set_self hiσ] at e2
        cases e2
        exact ⟨u, r, .inl ⟨hk, by simp⟩⟩
      · rw [List.getElem?_set_ne (Ne.symm hj)] at e2
        obtain ⟨u', r', q⟩ := hl j y v' e1 e2 e3
        refine ⟨u', r', ?_⟩
        rcases q with ⟨k, e⟩ | ⟨k, c, e, z⟩
        · refine .inl ⟨k, ?_⟩
          have : y ≠ x := fun e => hj (nodup_ix hN e1 (e ▸ hi))
          simp [this, e]
        · exact .inr ⟨k, c, e, z.sameBut hs (cne y c e)⟩
    · obtain ⟨w', z⟩ := I.cell y c e
      exact ⟨w', z.sameBut hs (cne y c e)⟩
    · obtain ⟨e, n, ne, nf, d⟩ := I.pin p hp
      exact ⟨(hs.2 p.1 ne).trans e, n, ne, nf, d⟩
  · have hfn : X.fn x = true := by
      rcases hf with z | z
      · exact z
      · rw [z] at hk; cases hk
    obtain ⟨c, hc⟩ := I.ok.has x (.inl hk)
    obtain ⟨w', z⟩ := I.cell x c hc
    refine wpAny_storeName_cell I.ok.kind hk hc z (fun h' hc' hs => ?_)
    obtain ⟨oc, hoc, hocd⟩ := id z
    refine h { s with heap := h' } ⟨I.ok, I.os, I.bare, ⟨fun b o e n hb hx => ?_, fun b o e n hb hx => ?_, I.base.free, fun b o e hx => ?_, I.base.tups, I.base.frzs, I.base.tbls⟩, ⟨m, hn.sameBut hs (Ne.symm (cne x c hc)), fun j y v' e1 e2 e3 => ?_⟩, fun y c' e => ?_, I.free, I.freeC, fun p hp => ?_, tracked ⟨oc, hoc, I.freeC x c hc⟩ hs, by simpa using I.len⟩ ⟨c, hs, .inr hc⟩
    · exact (hs.2 b (Nat.ne_of_lt (Nat.lt_of_lt_of_le (Heap.lt_size e) (I.ok.cab x c hfn hc)))).trans (I.base.keep b o e n hb hx)
    · obtain ⟨sl, e1⟩ := I.base.slot b o e n hb hx
      exact ⟨sl, (hs.2 b (Nat.ne_of_lt (Nat.lt_of_lt_of_le (Heap.lt_size e) (I.ok.cab x c hfn hc)))).trans e1⟩
    · obtain ⟨o', e1⟩ := I.base.there b o e hx
      exact ⟨o', (hs.2 b (Nat.ne_of_lt (Nat.lt_of_lt_of_le (Heap.lt_size e) (I.ok.cab x c hfn hc)))).trans e1⟩
    · by_cases hj : j = i
      · subst hj
        rw [hi] at e1; cases e1
        rw [List.getElem?_set_self hiσ] at e2
        cases e2
        exact ⟨u, r, .inr ⟨.inl hk, c, hc, hc'⟩⟩
      · rw [List.getElem?_set_ne (Ne.symm hj)] at e2
        obtain ⟨u', r', q⟩ := hl j y v' e1 e2 e3
        refine ⟨u', r', ?_⟩
        rcases q with q | ⟨k, c', e, z'⟩
        · exact .inl q
        · refine .inr ⟨k, c', e, z'.sameBut hs ?_⟩
          rintro rfl
          exact hj (nodup_ix hN e1 (I.ok.inj _ _ _ e hc ▸ hi))
    · by_cases hcc : c' = c
      · subst hcc; exact ⟨_, hc'⟩
      · obtain ⟨w2, z2⟩ := I.cell y c' e
        exact ⟨w2, z2.sameBut hs hcc⟩
    · obtain ⟨e, n, ne, nf, d⟩ := I.pin p hp
      refine ⟨(hs.2 p.1 ?_).trans e, n, ne, nf, d⟩
      intro q
      rw [q, hoc] at e
      have q' : oc = p.2 := Option.some.inj e
      exact d w' (by rw [← q']; exact hocd)
theorem store_ok {M : Model} {A : Around} {E : Value → Shared → Prop} {i : Nat} {x : Str} {v : V} {u : Value} {Q : Unit → Shared → Prop} (I : Inv X pins σ H s) (hN : X.N.Nodup) (hi : X.N[i]? = some x) (hx : Loc X.env.scope x) (r : RelV v u)
    (h : ∀ s', Inv X pins (σ.set i (some v)) H s' → Q () s') (hf : X.fn x = true ∨ X.env.scope.names.lookup x = some .local := by first | exact .inl rfl | exact .inr rfl | assumption) : wpAny M A (storeName X.env x u) Q E s :=
  store_ok2 I hN hi hx r (fun s' I' _ => h s' I') hf
/-- behind a call or a block, the state as it is -/
theorem Inv.call' {s' : Shared} {ch : List Addr} (I : Inv X pins σ H s) (ho : s'.os = s.os) (u : Un (frs X.stack) ch H H' s.heap s'.heap) (hok : HOk X.prog X.w H' s'.heap) (hg : AllBare s'.gens)
    (hch : ∀ b ∈ ch, (b ∈ X.ex ∨ X.s₀.heap.objs.size ≤ b) ∧ b ≠ X.env.locals ∧ (∀ x c, X.env.cells.lookup x = some c → c ≠ b) ∧ ∀ p ∈ X.pn ++ pins, p.1 ≠ b) : Inv X pins σ H' s' := by
  obtain ⟨h', g', d', t', o'⟩ := s'
  have e : o' = s.os := ho
  subst e
  exact I.call (g' := g') (t' := t') (d' := d') u hok hg hch
end

/-! ### the judgements -/
/-- an exception: its class, its own dict's address (where it has one), the abstract heap behind it -/
abbrev XK := Value → Option Addr → Hp → Prop
abbrev St := List (Option V)
abbrev VK := V → Hp → Prop
/-- an expression's reading; a test's; an argument list's -/
abbrev TE := St → Hp → VK → Prop
abbrev TT := St → Hp → (Bool → Hp → Prop) → Prop
abbrev TA := St → Hp → (List V → Hp → Prop) → Prop
/-- what is wanted behind a statement -/
structure Ends where
  nx : St → Hp → Prop
  rt : VK
  bk : St → Hp → Prop := fun _ _ => False
  ct : St → Hp → Prop := fun _ _ => False
abbrev TS := Ends → St → Hp → Prop

def EP (X : Cx) (pins : List (Addr × Obj)) (σ : St) (Q : VK) (u : Value) (s' : Shared) : Prop := ∃ v H', Inv X pins σ H' s' ∧ RelV v u ∧ Q v H'
def TP (X : Cx) (pins : List (Addr × Obj)) (σ : St) (Q : Bool → Hp → Prop) (b : Bool) (s' : Shared) : Prop := ∃ H', Inv X pins σ H' s' ∧ Q b H'
def AP (X : Cx) (pins : List (Addr × Obj)) (σ : St) (Q : List V → Hp → Prop) (us : List Value) (s' : Shared) : Prop := ∃ vs H', Inv X pins σ H' s' ∧ Vals vs us ∧ Q vs H'
def SP (X : Cx) (pins : List (Addr × Obj)) (D : Ends) (f : Flow) (s' : Shared) : Prop :=
  match f with
  | .next => ∃ σ' H', Inv X pins σ' H' s' ∧ D.nx σ' H'
  | .brk => ∃ σ' H', Inv X pins σ' H' s' ∧ D.bk σ' H'
  | .cont => ∃ σ' H', Inv X pins σ' H' s' ∧ D.ct σ' H'
  | .ret u => ∃ v σ' H', Inv X pins σ' H' s' ∧ RelV v u ∧ D.rt v H'

def PE (X : Cx) (e : Expr) (t : TE) : Prop :=
  ∀ (pins : List (Addr × Obj)) (s : Shared) (σ : St) (H : Hp) (Q : VK), Inv X pins σ H s → t σ H Q → wpAny (model X.prog X.w) X.A (eval e X.env) (EP X pins σ Q) X.xe s
def PT (X : Cx) (e : Expr) (t : TT) : Prop :=
  ∀ (pins : List (Addr × Obj)) (s : Shared) (σ : St) (H : Hp) (Q : Bool → Hp → Prop), Inv X pins σ H s → t σ H Q → wpAny (model X.prog X.w) X.A (isTrue e X.env (eval e X.env)) (TP X pins σ Q) X.xe s
/-- a test whatever its 'whole' is (and, or) -/
def PW (X : Cx) (e : Expr) (t : TT) : Prop :=
  ∀ (whole : Sem Value) (pins : List (Addr × Obj)) (s : Shared) (σ : St) (H : Hp) (Q : Bool → Hp → Prop), Inv X pins σ H s → t σ H Q → wpAny (model X.prog X.w) X.A (isTrue e X.env whole) (TP X pins σ Q) X.xe s
theorem PW.pt {X : Cx} {e : Expr} {t : TT} (h : PW X e t) : PT X e t := h _
/-- an argument list (no star), from the left -/
def PA (X : Cx) (es : List Expr) (t : TA) : Prop :=
  ∀ (pos : Pos) (pins : List (Addr × Obj)) (s : Shared) (σ : St) (H : Hp) (Q : List V → Hp → Prop), Inv X pins σ H s → t σ H Q → wpAny (model X.prog X.w) X.A (spliced (backTo pos (starEach es X.env))) (AP X pins σ Q) X.xe s
def PS (X : Cx) (st : Stmt) (t : TS) : Prop :=
  ∀ (pins : List (Addr × Obj)) (s : Shared) (σ : St) (H : Hp) (D : Ends), Inv X pins σ H s → t D σ H → wpAny (model X.prog X.w) X.A (exec st X.env) (SP X pins D) X.xe s
def PSs (X : Cx) (st : List Stmt) (t : TS) : Prop :=
  ∀ (pins : List (Addr × Obj)) (s : Shared) (σ : St) (H : Hp) (D : Ends), Inv X pins σ H s → t D σ H → wpAny (model X.prog X.w) X.A (execs st X.env) (SP X pins D) X.xe s
/-- weaken the end -/
theorem thn {α : Type} {t : Sem α} {Q Q' : α → Shared → Prop} {M : Model} {A : Around} {E : Value → Shared → Prop} {s : Shared} (h : wpAny M A t Q E s) (hQ : ∀ a s, Q a s → Q' a s) : wpAny M A t Q' E s := wpAny_mono h hQ fun _ _ x => x
end L2

namespace L2
open PySem PySem.Spec PyProof.Rows
section
variable {X : Cx}

/-- two expressions in a row -/
theorem bin {a b : Expr} {ta tb : TE} (ha : PE X a ta) (hb : PE X b tb) {pins : List (Addr × Obj)} {s : Shared} {σ : St} {H : Hp} {R : V → V → Hp → Prop} (I : Inv X pins σ H s) (h : ta σ H fun x H1 => tb σ H1 fun y H2 => R x y H2)
    {α : Type} {Q : α → Shared → Prop} {f : Value → Value → Sem α}
    (hf : ∀ v u s2 x y H2, Inv X pins σ H2 s2 → RelV x v → RelV y u → R x y H2 → wpAny (model X.prog X.w) X.A (f v u) Q X.xe s2) :
    wpAny (model X.prog X.w) X.A (eval a X.env) (fun v s₁ => wpAny (model X.prog X.w) X.A (eval b X.env) (fun u s₂ => wpAny (model X.prog X.w) X.A (f v u) Q X.xe s₂) X.xe s₁) X.xe s := by
  refine thn (ha pins s σ H _ I h) fun v s1 ⟨x, H1, I1, r1, q1⟩ => ?_
  refine thn (hb pins s1 σ H1 _ I1 q1) fun u s2 ⟨y, H2, I2, r2, q2⟩ => ?_
  exact hf v u s2 x y H2 I2 r1 r2 q2

/-! ### names and constants -/
def tVar (i : Nat) : TE := fun σ H Q => ∃ v, σ[i]? = some (some v) ∧ Q v H
def tC (v : V) : TE := fun _ H Q => Q v H
theorem pe_var {i : Nat} {x : Str} {pos : Pos} (hN : X.N[i]? = some x) (hv : Vis X.env.scope x) (hd : (x == ("__debug__" : Str)) = false := by decide) (hcd : (x == ("__classdict__" : Str)) = false := by decide) : PE X (.Name x pos) (tVar i) := by
  intro pins s σ H Q I h
  obtain ⟨v, e, h⟩ := h
  obtain ⟨m, hn, hl⟩ := I.loc
  obtain ⟨u, r, l⟩ := hl i x v hN e hv
  have fin : EP X pins σ Q u s := ⟨v, H, I, r, h⟩
  rcases l with ⟨hk, hm⟩ | ⟨hk, c, hc, hcell⟩
  · exact wpAny_Name (wpAny_loadName_local I.ok.kind hk hn hm fin) hd
  · rcases hk with hk | hk
    · exact wpAny_Name (wpAny_loadName_cell I.ok.kind hk hc hcell fin) hd
    · exact wpAny_Name (wpAny_loadName_free I.ok.kind hk hc hcell fin hcd) hd
theorem pe_int {i j pos} : PE X (.Constant (.int i) j pos) (tC (.int i)) := fun _ _ _ H _ I h => wpAny_Constant_int ⟨.int i, H, I.tok _, ⟨_, rfl⟩, h⟩
theorem pe_bl {b j pos} : PE X (.Constant (.bool b) j pos) (tC (.bl b)) := fun _ _ _ H _ I h => Constant_bool ⟨.bl b, H, I, rfl, h⟩
theorem pe_non {j pos} : PE X (.Constant .none j pos) (tC .non) := fun _ _ _ H _ I h => Constant_none ⟨.non, H, I, rfl, h⟩
theorem pe_str {x j pos} : PE X (.Constant (.str x) j pos) (tC (.str x)) := fun _ _ _ H _ I h => Calls.Constant_str ⟨.str x, H, I.tok _, ⟨_, rfl⟩, h⟩

/-- a global name of the def -/
def Gl (X : Cx) (x : Str) : Prop := X.env.kindOf x = some .globalImplicit
theorem ld_glob {E : Value → Shared → Prop} {pins : List (Addr × Obj)} {s : Shared} {σ : St} {H : Hp} {x : Str} {u : Value} {pos : Pos} {Q : Value → Shared → Prop} (I : Inv X pins σ H s) (hg : Gl X x) (hm : X.mg x = some u) (h : Q u s)
    (hd : (x == ("__debug__" : Str)) = false := by decide) : wpAny (model X.prog X.w) X.A (eval (.Name x pos) X.env) Q E s :=
  Calls.Name_function_global I.ok.kind hg (Calls.loadGlobal_global (by rw [I.ok.glob]; exact I.mod.glob.keeps I.bk) hm h) hd
theorem ld_blt {E : Value → Shared → Prop} {pins : List (Addr × Obj)} {s : Shared} {σ : St} {H : Hp} {x : Str} {u : Value} {pos : Pos} {Q : Value → Shared → Prop} (I : Inv X pins σ H s) (hg : Gl X x) (hm : X.mg x = none) (hv : bootBuiltins x = some u) (h : Q u s)
    (hn : x ≠ "__name__" := by decide) (hd : (x == ("__debug__" : Str)) = false := by decide) : wpAny (model X.prog X.w) X.A (eval (.Name x pos) X.env) Q E s := by
  obtain ⟨mb, h1, h2⟩ := I.mod.blt
  exact Calls.Name_function_global I.ok.kind hg (Calls.loadGlobal_builtin (by rw [I.ok.glob]; exact I.mod.glob.keeps I.bk) hm (by rw [I.ok.blt]; exact h1.keeps I.bk) ((h2 x hn).trans hv) h) hd
/-- a module's constant, a class, a function, as a value -/
theorem pe_glob {x : Str} {v : V} {u : Value} {pos : Pos} (hg : Gl X x) (hm : X.mg x = some u) (r : RelV v u) (hd : (x == ("__debug__" : Str)) = false := by decide) : PE X (.Name x pos) (tC v) :=
  fun _ _ _ H _ I h => ld_glob I hg hm ⟨v, H, I, r, h⟩ hd
theorem pe_bltn {x : Str} {v : V} {u : Value} {pos : Pos} (hg : Gl X x) (hm : X.mg x = none) (hv : bootBuiltins x = some u) (r : RelV v u) (hn : x ≠ "__name__" := by decide) (hd : (x == ("__debug__" : Str)) = false := by decide) : PE X (.Name x pos) (tC v) :=
  fun _ _ _ H _ I h => ld_blt I hg hm hv ⟨v, H, I, r, h⟩ hn hd

/-! ### arithmetic -/
/-- two ints -/
def t2I (ta tb : TE) (k : Int → Int → Hp → Prop) : St → Hp → Prop := fun σ H => ta σ H fun x H1 => tb σ H1 fun y H2 => ∃ i j, x = .int i ∧ y = .int j ∧ k i j H2
def tAdd (ta tb : TE) : TE := fun σ H Q => t2I ta tb (fun i j H2 => Q (.int (i + j)) H2) σ H
def tSub (ta tb : TE) : TE := fun σ H Q => t2I ta tb (fun i j H2 => Q (.int (i - j)) H2) σ H
/-- the left factor below 2^64 -/
def tMul (ta tb : TE) : TE := fun σ H Q => t2I ta tb (fun i j H2 => (-(2 ^ 64) < i ∧ i < 2 ^ 64) ∧ Q (.int (i * j)) H2) σ H
variable {a b : Expr} {ta tb : TE} {pos : Pos}
/-! ### comparisons -/
def PC (X : Cx) (op : CmpOp) (a b : Expr) (t : TE) : Prop :=
  ∀ (pins : List (Addr × Obj)) (s : Shared) (σ : St) (H : Hp) (Q : VK), Inv X pins σ H s → t σ H Q →
    wpAny (model X.prog X.w) X.A (eval a X.env) (fun v s₁ => wpAny (model X.prog X.w) X.A (eval b X.env) (fun u s₂ => wpAny (model X.prog X.w) X.A (compareOp op v u) (EP X pins σ Q) X.xe s₂) X.xe s₁) X.xe s
theorem nobehind (b : Expr) {op : CmpOp} (h : op ≠ .In) (h2 : op ≠ .NotIn) : behindInMarks op b = false := by
  have e1 : (op == CmpOp.In) = false := by cases op <;> first | rfl | exact absurd rfl h
  have e2 : (op == CmpOp.NotIn) = false := by cases op <;> first | rfl | exact absurd rfl h2
  cases b <;> simp [behindInMarks, e1, e2]
def tCmp (p : Int → Int → Bool) (ta tb : TE) : TE := fun σ H Q => t2I ta tb (fun i j H2 => Q (.bl (p i j)) H2) σ H
abbrev tLt : TE → TE → TE := tCmp fun i j => decide (i < j)
abbrev tLe : TE → TE → TE := tCmp fun i j => decide (i ≤ j)
abbrev tGt : TE → TE → TE := tCmp fun i j => decide (j < i)
abbrev tGe : TE → TE → TE := tCmp fun i j => decide (j ≤ i)
abbrev tEqI : TE → TE → TE := tCmp fun i j => decide (i = j)
abbrev tNeI : TE → TE → TE := tCmp fun i j => !decide (i = j)
/-- is None -/
def tIsN (ta : TE) : TE := fun σ H Q => ta σ H fun x H1 => Q (.bl (decide (x = .non))) H1
def tNotN (ta : TE) : TE := fun σ H Q => ta σ H fun x H1 => Q (.bl (!decide (x = .non))) H1
/-- a comparison as a value, as a test -/
def tB (t : TE) : TT := fun σ H Q => t σ H fun x H1 => ∃ c, x = .bl c ∧ Q c H1
theorem pe_cmp {op : CmpOp} {t : TE} (h : PC X op a b t) (h1 : behindInMarks op b = false := by first | exact nobehind _ (by decide) (by decide) | rfl) : PE X (.Compare a [op] [b] pos) t := fun pins s σ H Q I hw => wpAny_Compare1 (h pins s σ H Q I hw) h1
theorem pt_cmp {op : CmpOp} {t : TE} (h : PC X op a b t) (h1 : behindInMarks op b = false := by first | exact nobehind _ (by decide) (by decide) | rfl) : PT X (.Compare a [op] [b] pos) (tB t) := by
  intro pins s σ H Q I hw
  refine wpAny_isTrue_Compare1 (thn (h pins s σ H _ I hw) fun v s1 h1 => thn h1 fun u s2 h2 => thn h2 fun c s3 ⟨x, H1, I1, r1, q1⟩ => ?_) h1
  obtain ⟨d, rfl, q⟩ := q1
  cases r1
  exact wpAny_truthy_bool ⟨H1, I1, q⟩
/-- an expression whose value is a bool, as a test -/
theorem pt_val {e : Expr} {t : TE} (h : PE X e t) (he : ∀ whole, isTrue e X.env whole = (do let v ← whole; standAt e.pos; holding [v] (truthy v)) := by intro _; rfl) : PT X e (tB t) := by
  intro pins s σ H Q I hw
  refine isTrue_plain (thn (h pins s σ H _ I hw) fun v s1 ⟨x, H1, I1, r1, q1⟩ => ?_) (he _)
  obtain ⟨d, rfl, q⟩ := q1
  cases r1
  exact wpAny_truthy_bool ⟨H1, I1, q⟩

/-! ### and, or, not -/
variable {tA tB' : TT} {rest : List Expr}
def tAnd (t u : TT) : TT := fun σ H Q => t σ H fun c H1 => if c = true then u σ H1 Q else Q false H1
def tOr (t u : TT) : TT := fun σ H Q => t σ H fun c H1 => if c = true then Q true H1 else u σ H1 Q
def tNot (t : TT) : TT := fun σ H Q => t σ H fun c H1 => Q (!c) H1
theorem pw_and1 (ha : PT X a tA) : PW X (.BoolOp .And [a] pos) tA := by
  intro wh pins s σ H Q I h
  refine isTrue_and (thn (ha pins s σ H Q I h) fun c s1 e => ?_)
  cases c with
  | true => exact isTrue_and_nil e
  | false => exact e
theorem pw_or1 (ha : PT X a tA) : PW X (.BoolOp .Or [a] pos) tA := by
  intro wh pins s σ H Q I h
  refine isTrue_or (thn (ha pins s σ H Q I h) fun c s1 e => ?_)
  cases c with
  | false => exact isTrue_or_nil e
  | true => exact e
theorem pw_and (ha : PT X a tA) (hb : PW X (.BoolOp .And (b :: rest) pos) tB') : PW X (.BoolOp .And (a :: b :: rest) pos) (tAnd tA tB') := by
  intro wh pins s σ H Q I h
  refine isTrue_and (thn (ha pins s σ H _ I h) fun c s1 ⟨H1, I1, q1⟩ => ?_)
  cases c with
  | true => exact hb wh pins s1 σ H1 Q I1 q1
  | false => exact ⟨H1, I1, q1⟩
theorem pw_or (ha : PT X a tA) (hb : PW X (.BoolOp .Or (b :: rest) pos) tB') : PW X (.BoolOp .Or (a :: b :: rest) pos) (tOr tA tB') := by
  intro wh pins s σ H Q I h
  refine isTrue_or (thn (ha pins s σ H _ I h) fun c s1 ⟨H1, I1, q1⟩ => ?_)
  cases c with
  | true => exact ⟨H1, I1, q1⟩
  | false => exact hb wh pins s1 σ H1 Q I1 q1
theorem pt_not (ha : PT X a tA) : PT X (.UnaryOp .Not a pos) (tNot tA) := by
  intro pins s σ H Q I h
  exact isTrue_not (ha pins s σ H (fun c H1 => Q (!c) H1) I h)
/-- .. as values (bools) -/
def tAndV (ta tb : TE) : TE := fun σ H Q => ta σ H fun x H1 => ∃ c, x = .bl c ∧ if c = true then tb σ H1 Q else Q (.bl false) H1
def tOrV (ta tb : TE) : TE := fun σ H Q => ta σ H fun x H1 => ∃ c, x = .bl c ∧ if c = true then Q (.bl true) H1 else tb σ H1 Q
def tNotV (ta : TE) : TE := fun σ H Q => ta σ H fun x H1 => ∃ c, x = .bl c ∧ Q (.bl (!c)) H1
theorem pe_one {op} {t : TE} (h : PE X a t) : PE X (.BoolOp op [a] pos) t := fun pins s σ H Q I hw => BoolOp_one (h pins s σ H Q I hw)
theorem pe_and (ha : PE X a ta) (hb : PE X (.BoolOp .And (b :: rest) pos) tb) : PE X (.BoolOp .And (a :: b :: rest) pos) (tAndV ta tb) := by
  intro pins s σ H Q I h
  refine BoolOp_and (thn (ha pins s σ H _ I h) fun v s1 ⟨x, H1, I1, r1, q1⟩ => ?_)
  obtain ⟨c, rfl, q1⟩ := q1
  cases r1
  refine wpAny_truthy_bool ?_
  cases c with
  | true => exact hb pins s1 σ H1 Q I1 q1
  | false => exact ⟨.bl false, H1, I1, rfl, q1⟩
theorem pe_or (ha : PE X a ta) (hb : PE X (.BoolOp .Or (b :: rest) pos) tb) : PE X (.BoolOp .Or (a :: b :: rest) pos) (tOrV ta tb) := by
  intro pins s σ H Q I h
  refine BoolOp_or (thn (ha pins s σ H _ I h) fun v s1 ⟨x, H1, I1, r1, q1⟩ => ?_)
  obtain ⟨c, rfl, q1⟩ := q1
  cases r1
  refine wpAny_truthy_bool ?_
  cases c with
  | false => exact hb pins s1 σ H1 Q I1 q1
  | true => exact ⟨.bl true, H1, I1, rfl, q1⟩
/-- a if t else b -/
def tIf (t : TT) (ta tb : TE) : TE := fun σ H Q => t σ H fun c H1 => if c = true then ta σ H1 Q else tb σ H1 Q
end
end L2

namespace L2
open PySem PySem.Spec PyProof.Rows

/-! ### a list, a tuple that is read: tracked, frozen, or an object of the module -/
def SqL (K : PySem.W.Frag) (H : Hp) (a : Addr) (xs : List V) : Prop :=
  Rd H a (.lst xs) ∨
    ∃ (o : Obj) (its : Array Value) (n : Nat), K.lookup a = some o ∧ o.cls = .type "list" ∧ o.dict = none ∧ o.data = .seq its n ∧ its.size ≤ sizeLine ∧ Vals xs its.toList
def SqT (K : PySem.W.Frag) (H : Hp) (a : Addr) (xs : List V) : Prop :=
  Rd H a (.tup xs) ∨
    ∃ (o : Obj) (its : Array Value) (n : Nat), K.lookup a = some o ∧ o.cls = .type "tuple" ∧ o.data = .seq its n ∧ its.size ≤ sizeLine ∧ Vals xs its.toList
def absV : Value → Option V
  | .none => some .non
  | .bool b => some (.bl b)
  | .int i _ => some (.int i)
  | .str x _ => some (.str x)
  | .bytes b _ => some (.byt b)
  | .float b _ => some (.flt b)
  | .ref a => some (.ref a)
  | .type n => some (.ty n)
  | _ => none
theorem RelV.abs {x : V} {u : Value} (r : RelV x u) : absV u = some x := by
  cases x with
  | non => cases r; rfl
  | bl _ => cases r; rfl
  | int _ => obtain ⟨t, rfl⟩ := r; rfl
  | str _ => obtain ⟨t, rfl⟩ := r; rfl
  | byt _ => obtain ⟨t, rfl⟩ := r; rfl
  | flt _ => obtain ⟨t, rfl⟩ := r; rfl
  | ref _ => cases r; rfl
  | ty _ => cases r; rfl
theorem RelV.inj {x y : V} {u : Value} (r : RelV x u) (q : RelV y u) : x = y := Option.some.inj (r.abs.symm.trans q.abs)
theorem Vals.inj : ∀ {xs ys : List V} {us : List Value}, Vals xs us → Vals ys us → xs = ys
  | _, _, _, .nil, .nil => rfl
  | _, _, _, .cons r t, .cons r' t' => by rw [r.inj r', Vals.inj t t']
section
variable {X : Cx} {pins : List (Addr × Obj)} {σ : St} {H : Hp} {s : Shared} {a : Addr} {xs ys : List V}
theorem SqL.of {K : PySem.W.Frag} (h : H a = some (.lst xs)) : SqL K H a xs := .inl (.inl h)
theorem SqT.of {K : PySem.W.Frag} (h : H a = some (.tup xs)) : SqT K H a xs := .inl (.inl h)
theorem Inv.list (I : Inv X pins σ H s) (h : SqL X.K H a xs) : ∃ its : List Value, Vals xs its ∧ PlainL s.heap a its.toArray ∧ xs.length ≤ sizeLine := by
  rcases h with h | ⟨o, its, n, hk, hc, hd, hs, hz, r⟩
  · obtain ⟨z, its, n, r, e⟩ := h.ok I.hok
    exact ⟨its, r, ⟨_, n, e, rfl, rfl, rfl⟩, z⟩
  · refine ⟨its.toList, r, ⟨o, n, I.kIn a o hk, hc, hd, by simpa using hs⟩, ?_⟩
    have e := r.length
    simp only [Array.length_toList] at e
    omega
theorem Inv.tuple (I : Inv X pins σ H s) (h : SqT X.K H a xs) : ∃ its : List Value, Vals xs its ∧ IsTup s.heap a its.toArray ∧ xs.length ≤ sizeLine := by
  rcases h with h | ⟨o, its, n, hk, hc, hs, hz, r⟩
  · obtain ⟨z, its, r, p⟩ := h.ok I.hok
    exact ⟨its, r, p.is, z⟩
  · refine ⟨its.toList, r, ⟨o, I.kIn a o hk, hc, n, by simpa using hs⟩, ?_⟩
    have e := r.length
    simp only [Array.length_toList] at e
    omega
theorem Inv.list_inj (I : Inv X pins σ H s) (h : SqL X.K H a xs) (h' : SqL X.K H a ys) : xs = ys := by
  obtain ⟨its, r, ⟨o, n, e, _, _, d⟩, _⟩ := I.list h
  obtain ⟨its', r', ⟨o', n', e', _, _, d'⟩, _⟩ := I.list h'
  rw [e] at e'; cases e'
  rw [d] at d'
  injection d' with d1 _
  have : its = its' := by simpa using congrArg Array.toList d1
  subst this
  exact r.inj r'
theorem Inv.tuple_inj (I : Inv X pins σ H s) (h : SqT X.K H a xs) (h' : SqT X.K H a ys) : xs = ys := by
  obtain ⟨its, r, ⟨o, e, _, n, d⟩, _⟩ := I.tuple h
  obtain ⟨its', r', ⟨o', e', _, n', d'⟩, _⟩ := I.tuple h'
  rw [e] at e'; cases e'
  rw [d] at d'
  injection d' with d1 _
  have : its = its' := by simpa using congrArg Array.toList d1
  subst this
  exact r.inj r'
end

/-! ### another wish about exceptions -/
abbrev Cx.wish (X : Cx) (E : Value → Shared → Prop) : Cx := { X with xe := E }
/-- no exception leaves -/
abbrev Cx.nox (X : Cx) : Cx := X.wish fun _ _ => False
theorem Cx.Ok.wish {X : Cx} (ok : X.Ok) (E : Value → Shared → Prop) : (X.wish E).Ok :=
  ⟨ok.mod, ok.kind, ok.glob, ok.blt, ok.above, ok.inj, ok.has, ok.cab, ok.hd, ok.frames, ok.stk, ok.exf, ok.bs, ok.bsz, ok.noex, ok.exfs, ok.funs, ok.frf⟩
theorem Cx.Ok.unwish {X : Cx} {E : Value → Shared → Prop} (ok : (X.wish E).Ok) : X.Ok :=
  ⟨ok.mod, ok.kind, ok.glob, ok.blt, ok.above, ok.inj, ok.has, ok.cab, ok.hd, ok.frames, ok.stk, ok.exf, ok.bs, ok.bsz, ok.noex, ok.exfs, ok.funs, ok.frf⟩
section
variable {X : Cx} {pins : List (Addr × Obj)} {σ : St} {H : Hp} {s : Shared} {E : Value → Shared → Prop}
theorem Inv.wish (I : Inv X pins σ H s) (E : Value → Shared → Prop) : Inv (X.wish E) pins σ H s := ⟨I.ok.wish E, I.os, I.bare, I.base, I.loc, I.cell, I.free, I.freeC, I.pin, I.hok, I.len⟩
theorem Inv.unwish (I : Inv (X.wish E) pins σ H s) : Inv X pins σ H s := ⟨I.ok.unwish, I.os, I.bare, I.base, I.loc, I.cell, I.free, I.freeC, I.pin, I.hok, I.len⟩
theorem SP.unwish {D : Ends} {f : Flow} {s' : Shared} (h : SP (X.wish E) pins D f s') : SP X pins D f s' := by
  cases f with
  | next => obtain ⟨σ', H', I, q⟩ := h; exact ⟨σ', H', I.unwish, q⟩
  | brk => obtain ⟨σ', H', I, q⟩ := h; exact ⟨σ', H', I.unwish, q⟩
  | cont => obtain ⟨σ', H', I, q⟩ := h; exact ⟨σ', H', I.unwish, q⟩
  | ret u => obtain ⟨v, σ', H', I, r, q⟩ := h; exact ⟨v, σ', H', I.unwish, r, q⟩
theorem PE.nox {e : Expr} {t : TE} (h : PE X.nox e t) : PE X e t := fun pins s σ H Q I hw =>
  wpAny_mono (h pins s σ H Q (I.wish _) hw) (fun _ _ ⟨v, H', I', r, q⟩ => ⟨v, H', I'.unwish, r, q⟩) fun _ _ z => False.elim z
theorem PT.nox {e : Expr} {t : TT} (h : PT X.nox e t) : PT X e t := fun pins s σ H Q I hw =>
  wpAny_mono (h pins s σ H Q (I.wish _) hw) (fun _ _ ⟨H', I', q⟩ => ⟨H', I'.unwish, q⟩) fun _ _ z => False.elim z
theorem PSs.nox {st : List Stmt} {t : TS} (h : PSs X.nox st t) : PSs X st t := fun pins s σ H D I hw =>
  wpAny_mono (h pins s σ H D (I.wish _) hw) (fun _ _ q => q.unwish) fun _ _ z => False.elim z
end

/-! ### blocks and small statements -/
section
variable {X : Cx} {st : Stmt} {rest : List Stmt} {t u : TS} {e : Expr} {te : TE} {pos : Pos}
def tNext : TS := fun D σ H => D.nx σ H
def tSeq (t u : TS) : TS := fun D σ H => t { D with nx := u D } σ H
theorem pss_nil : PSs X [] tNext := fun _ _ σ H _ I h => wpAny_execs_nil ⟨σ, H, I, h⟩
theorem pss_cons (h1 : PS X st t) (h2 : PSs X rest u) : PSs X (st :: rest) (tSeq t u) := by
  intro pins s σ H D I h
  refine wpAny_execs_cons (thn (h1 pins s σ H { D with nx := u D } I h) fun f s1 q => ?_)
  cases f with
  | next =>
    obtain ⟨σ', H', I', q⟩ := q
    exact h2 pins s1 σ' H' D I' q
  | ret v => exact q
  | brk => exact q
  | cont => exact q
theorem pss_one (h1 : PS X st t) : PSs X [st] t := by
  intro pins s σ H D I h
  refine wpAny_execs_cons (thn (h1 pins s σ H D I h) fun f s1 q => ?_)
  cases f with
  | next => exact wpAny_execs_nil q
  | ret v => exact q
  | brk => exact q
  | cont => exact q
def tBreak : TS := fun D σ H => D.bk σ H
def tCont : TS := fun D σ H => D.ct σ H
/-- in a def's body nothing is shown -/
theorem Inv.quiet {pins : List (Addr × Obj)} {σ : St} {H : Hp} {s : Shared} (I : Inv X pins σ H s) : interactive X.env = false := by simp [interactive, I.ok.kind]
/-- an expression whose value is dropped -/
def tDrop (te : TE) : TS := fun D σ H => te σ H fun _ H1 => D.nx σ H1
theorem ps_expr (he : PE X e te) (hs : swapsWith e none pos.line X.env = pure false := by rfl) : PS X (.Expr e pos) (tDrop te) := by
  intro pins s σ H D I h
  exact wpAny_Expr_any (thn (he pins s σ H _ I h) fun v s1 ⟨x, H1, I1, r1, q1⟩ => ⟨σ, H1, I1, q1⟩) I.quiet hs
def tRet (te : TE) : TS := fun D σ H => te σ H D.rt
theorem ps_ret (he : PE X e te) : PS X (.Return (some e) pos) (tRet te) := by
  intro pins s σ H D I h
  exact wpAny_Return_some (thn (he pins s σ H _ I h) fun v s1 ⟨x, H1, I1, r1, q1⟩ => ⟨x, σ, H1, I1, r1, q1⟩)
def tRetN : TS := fun D _ H => D.rt .non H
def tIfS (c : TT) (t u : TS) : TS := fun D σ H => c σ H fun b H1 => if b = true then t D σ H1 else u D σ H1
theorem ps_if {c : Expr} {a b : List Stmt} {tc : TT} (hc : PT X c tc) (ha : PSs X a t) (hb : PSs X b u) : PS X (.If c a b pos) (tIfS tc t u) := by
  intro pins s σ H D I h
  refine wpAny_If (thn (hc pins s σ H _ I h) fun d s1 ⟨H1, I1, q1⟩ => ?_)
  cases d with
  | true => exact ha pins s1 σ H1 D I1 q1
  | false => exact hb pins s1 σ H1 D I1 q1
/-- code that the proof never comes to -/
def tNever : TS := fun _ _ _ => False
theorem ps_never : PS X st tNever := fun _ _ _ _ _ _ h => h.elim
theorem pss_never {sts : List Stmt} : PSs X sts tNever := fun _ _ _ _ _ _ h => h.elim
end

/-! ### targets -/
abbrev TG := V → St → Hp → (St → Hp → Prop) → Prop
abbrev TGs := List V → St → Hp → (St → Hp → Prop) → Prop
def PG (X : Cx) (target : Expr) (t : TG) : Prop :=
  ∀ (pins : List (Addr × Obj)) (s : Shared) (σ : St) (H : Hp) (v : V) (u : Value) (Q : St → Hp → Prop), Inv X pins σ H s → RelV v u → t v σ H Q →
    wpAny (model X.prog X.w) X.A (assign target X.env u) (fun _ s' => ∃ σ' H', Inv X pins σ' H' s' ∧ Q σ' H') X.xe s
/-- several targets, one after another -/
def PGs (X : Cx) (ts : List Expr) (t : TGs) : Prop :=
  ∀ (pins : List (Addr × Obj)) (s : Shared) (σ : St) (H : Hp) (vs : List V) (us : List Value) (Q : St → Hp → Prop), Inv X pins σ H s → Vals vs us → t vs σ H Q →
    wpAny (model X.prog X.w) X.A (assignInOrder ((assignEach ts X.env).map (·.2)) us) (fun _ s' => ∃ σ' H', Inv X pins σ' H' s' ∧ Q σ' H') X.xe s
/-- o[i] = v, by values -/
abbrev TSet := V → V → V → Hp → (Hp → Prop) → Prop
def PSet (X : Cx) (t : TSet) : Prop :=
  ∀ (pins : List (Addr × Obj)) (s : Shared) (σ : St) (H : Hp) (o i v : V) (ov iv u : Value) (Q : Hp → Prop), Inv X pins σ H s → RelV o ov → RelV i iv → RelV v u → t o i v H Q →
    wpAny (model X.prog X.w) X.A (setItem ov iv u) (fun _ s' => ∃ H', Inv X pins σ H' s' ∧ Q H') X.xe s
/-- a op= b, by values -/
abbrev TIp := V → V → Hp → VK → Prop
def PIp (X : Cx) (op : Operator) (t : TIp) : Prop :=
  ∀ (pins : List (Addr × Obj)) (s : Shared) (σ : St) (H : Hp) (x y : V) (v u : Value) (Q : VK), Inv X pins σ H s → RelV x v → RelV y u → t x y H Q →
    wpAny (model X.prog X.w) X.A (inplaceOp op v u) (EP X pins σ Q) X.xe s
section
variable {X : Cx} {pos : Pos}
def gName (i : Nat) : TG := fun v σ H Q => Q (σ.set i (some v)) H
theorem pg_name {i : Nat} {x : Str} (hN : X.N.Nodup) (hi : X.N[i]? = some x) (hx : Loc X.env.scope x) (hf : X.fn x = true ∨ X.env.scope.names.lookup x = some .local := by first | exact .inl rfl | exact .inr rfl | assumption) : PG X (.Name x pos) (gName i) := by
  intro pins s σ H v u Q I r h
  exact wpAny_assign_Name (store_ok I hN hi hx r (fun s' I' => ⟨_, H, I', h⟩) hf)
def gNil : TGs := fun vs σ H Q => vs = [] ∧ Q σ H
def gCons (t : TG) (u : TGs) : TGs := fun vs σ H Q => ∃ v r, vs = v :: r ∧ t v σ H fun σ' H' => u r σ' H' Q
theorem pgs_nil : PGs X [] gNil := by
  intro pins s σ H vs us Q I r h
  obtain ⟨e, h⟩ := h
  subst e
  cases r
  exact assignInOrder_nil ⟨σ, H, I, h⟩
theorem pgs_cons {e : Expr} {es : List Expr} {t : TG} {u : TGs} (h1 : PG X e t) (h2 : PGs X es u)
    (hs : (assignEach (e :: es) X.env).map (·.2) = assign e X.env :: (assignEach es X.env).map (·.2) := by rfl) : PGs X (e :: es) (gCons t u) := by
  intro pins s σ H vs us Q I r h
  obtain ⟨v, vr, e1, h⟩ := h
  subst e1
  cases r with
  | cons r rr =>
    rw [hs]
    refine assignInOrder_cons (thn (h1 pins s σ H _ _ _ I r h) fun _ s1 ⟨σ1, H1, I1, q1⟩ => ?_)
    exact h2 pins s1 σ1 H1 _ _ Q I1 rr q1
/-- (a, b, ..) = a tuple of that length -/
def gTup (K : PySem.W.Frag) (n : Nat) (t : TGs) : TG := fun v σ H Q => ∃ a xs, v = .ref a ∧ SqT K H a xs ∧ xs.length = n ∧ t xs σ H Q
theorem pg_tup {es : List Expr} {k : Nat} {t : TGs} {n : Nat} (hc : X.calm = true) (h : PGs X es t)
    (hn : (assignEach es X.env).length = n := by rfl) (hst : (assignEach es X.env).findIdx? (·.1) = none := by rfl) : PG X (.Tuple es k pos) (gTup X.K n t) := by
  intro pins s σ H v u Q I r hw
  obtain ⟨a, xs, e1, hq, hl, hw⟩ := hw
  subst e1
  cases r
  obtain ⟨its, rv, ht, hz⟩ := I.tuple hq
  refine assign_Tuple_tuple (I.ok.hd hc) ht (by simp [hn, ← hl, rv.length]) hst fun h' hx => ?_
  have I1 : Inv X pins σ H { s with heap := h' } := I.kept (t' := s.toks) fun b o e => hx b o (Nat.ne_of_lt (Heap.lt_size e)) e
  exact h pins _ σ H xs _ Q I1 (by simpa using rv) hw
/-- o[i] = .. -/
def gSub (to ti : TE) (t : TSet) : TG := fun v σ H Q => to σ H fun o H1 => ti σ H1 fun i H2 => t o i v H2 fun H3 => Q σ H3
theorem pg_sub {o i : Expr} {to ti : TE} {t : TSet} (ho : PE X o to) (hi : PE X i ti) (hs : PSet X t)
    (ha : ∀ v, assign (.Subscript o i pos) X.env v = (do
      let ov ← holding [v] (eval o X.env)
      let iv ← holding [v, ov] (eval i X.env)
      standAt pos
      holding [v, ov, iv] (setItem ov iv v)
      release [v, ov, iv] []) := by intro _; rfl) : PG X (.Subscript o i pos) (gSub to ti t) := by
  intro pins s σ H v u Q I r h
  rw [ha]
  refine wpAny_bind (wpAny_holding (thn (ho pins s σ H _ I h) fun ov s1 ⟨x, H1, I1, r1, q1⟩ => ?_))
  refine wpAny_bind (wpAny_holding (thn (hi pins s1 σ H1 _ I1 q1) fun iv s2 ⟨y, H2, I2, r2, q2⟩ => ?_))
  refine wpAny_bind (wpAny_standAt (wpAny_bind (wpAny_holding (thn (hs pins s2 σ H2 x y v ov iv u _ I2 r1 r2 r q2) fun _ s3 ⟨H3, I3, q3⟩ => ?_))))
  exact wpAny_release ⟨σ, H3, I3, q3⟩
/-- target = value -/
def tAsg (te : TE) (g : TG) : TS := fun D σ H => te σ H fun x H1 => g x σ H1 D.nx
theorem ps_asg {tg e : Expr} {te : TE} {g : TG} (he : PE X e te) (hg : PG X tg g) (hs : swapsWithSole [tg] e pos.line X.env = pure false := by rfl) (hw : swappedStores [tg] e X.env = pure none := by rfl)
    (h1 : (assignEach [tg] X.env).map (·.2) = [assign tg X.env] := by rfl) : PS X (.Assign [tg] e pos) (tAsg te g) := by
  intro pins s σ H D I h
  refine wpAny_Assign_stores (thn (he pins s σ H _ I h) fun v s1 ⟨x, H1, I1, r1, q1⟩ => ?_) hs hw
  rw [h1]
  exact thn (hg pins s1 σ H1 x v _ I1 r1 q1) fun _ s2 q => q
/-- name = value -/
theorem ps_set {i : Nat} {x : Str} {e : Expr} {te : TE} {pos' : Pos} (hN : X.N.Nodup) (hi : X.N[i]? = some x) (hx : Loc X.env.scope x) (he : PE X e te) (hs : swapsWith e (some (.Name x pos')) pos.line X.env = pure false := by rfl) (hf : X.fn x = true ∨ X.env.scope.names.lookup x = some .local := by first | exact .inl rfl | exact .inr rfl | assumption) :
    PS X (.Assign [.Name x pos'] e pos) (tAsg te (gName i)) := by
  intro pins s σ H D I h
  refine wpAny_Assign_Name (thn (he pins s σ H _ I h) fun v s1 ⟨y, H1, I1, r1, q1⟩ => ?_) hs
  exact store_ok I1 hN hi hx r1 (fun s2 I2 => ⟨_, H1, I2, q1⟩) hf
/-- a, b = x, y with plain local names: stored from the right; the pair itself is not tracked (the opening rows as in PyProof/Rows/TupAssign.lean:23) -/
def tPar (i j : Nat) (ta : TA) : TS := fun D σ H => ta σ H fun vs H1 => ∃ v w, vs = [v, w] ∧ D.nx ((σ.set i (some v)).set j (some w)) H1
/-- name op= e -/
def tAug (i : Nat) (te : TE) (ti : TIp) : TS := fun D σ H => ∃ x, σ[i]? = some (some x) ∧ te σ H fun y H1 => ti x y H1 fun z H2 => D.nx (σ.set i (some z)) H2
/-- o[i] op= e -/
def tAugS (to ti te : TE) (tget : V → V → Hp → VK → Prop) (tip : TIp) (tset : TSet) : TS := fun D σ H => to σ H fun o H1 => ti σ H1 fun i H2 => tget o i H2 fun x H3 => te σ H3 fun y H4 => tip x y H4 fun z H5 => tset o i z H5 fun H6 => D.nx σ H6
/-- o[i], by values -/
def PGet (X : Cx) (t : V → V → Hp → VK → Prop) : Prop :=
  ∀ (pins : List (Addr × Obj)) (s : Shared) (σ : St) (H : Hp) (o i : V) (ov iv : Value) (Q : VK), Inv X pins σ H s → RelV o ov → RelV i iv → t o i H Q →
    wpAny (model X.prog X.w) X.A (getItem ov iv) (EP X pins σ Q) X.xe s
/-- ints -/
def ipI (f : Int → Int → Int) : TIp := fun x y H Q => ∃ i j, x = .int i ∧ y = .int j ∧ Q (.int (f i j)) H
end

/-! ### while -/
section
variable {X : Cx} {pos : Pos}
/-- the invariant W with its measure -/
def tWhile (c : TT) (tb : TS) : TS := fun D σ H => ∃ W : Nat → St → Hp → Prop, (∃ m, W m σ H) ∧ ∀ m σ H, W m σ H →
  c σ H fun b H1 => if b = true then ∃ N : St → Hp → Prop, (∀ σ' H', N σ' H' → ∃ m', m' < m ∧ W m' σ' H') ∧ tb { D with nx := N, ct := N, bk := D.nx } σ H1 else D.nx σ H1
theorem ps_while {c : Expr} {body : List Stmt} {tc : TT} {tb : TS} (hp : PassesOwn (model X.prog X.w) X.A X.env X.xe) (hc : PT X c tc) (hb : PSs X body tb) : PS X (.While c body [] pos) (tWhile tc tb) := by
  intro pins s σ H D I h
  obtain ⟨W, ⟨m0, w0⟩, turn⟩ := h
  refine wpAny_While (codeAny_whileLoop (fun n s' => ∃ σ' H', Inv X pins σ' H' s' ∧ W n σ' H') ?_ m0 ⟨σ, H, I, w0⟩)
  rintro n s1 ⟨σ1, H1, I1, w1⟩
  refine wpAny_passesOwn hp (thn (hc pins s1 σ1 H1 _ I1 (turn n σ1 H1 w1)) fun b s2 ⟨H2, I2, q2⟩ => ?_)
  cases b with
  | true =>
    obtain ⟨N, hN, q2⟩ := q2
    rw [if_pos rfl]
    refine wpAny_passesOwn hp (thn (hb pins s2 σ1 H2 _ I2 q2) fun f s3 q3 => ?_)
    cases f with
    | next =>
      obtain ⟨σ3, H3, I3, n3⟩ := q3
      obtain ⟨m', hm, w3⟩ := hN σ3 H3 n3
      exact ⟨m', hm, σ3, H3, I3, w3⟩
    | cont =>
      obtain ⟨σ3, H3, I3, n3⟩ := q3
      obtain ⟨m', hm, w3⟩ := hN σ3 H3 n3
      exact ⟨m', hm, σ3, H3, I3, w3⟩
    | brk => exact q3
    | ret v => exact q3
  | false =>
    rw [if_neg Bool.false_ne_true]
    exact wpAny_execs_nil ⟨σ1, H2, I2, q2⟩
end

/-! ### what a loop or a comprehension walks -/
/-- at turn i: it yields x (the heap may grow), or it stops -/
structure It where
  go : Nat → Hp → Prop
  yld : Nat → Hp → V → Hp → Prop
  stop : Nat → Hp → Prop
/-- the iterator's own objects may turn: they are not the frame's, not pinned, younger than the entry (or a comprehension's own) -/
def FpOk (X : Cx) (pins : List (Addr × Obj)) (H : Hp) (b : Addr) : Prop :=
  H b = none ∧ b ≠ X.env.locals ∧ b ∉ X.fs ∧ (b ∈ X.ex ∨ X.s₀.heap.objs.size ≤ b) ∧ (∀ x c, X.env.cells.lookup x = some c → c ≠ b) ∧ ∀ p ∈ X.pn ++ pins, p.1 ≠ b
theorem Inv.fpOk {X : Cx} {pins : List (Addr × Obj)} {σ : St} {H H' : Hp} {s : Shared} {b : Addr} (I : Inv X pins σ H s) (hb : s.heap.objs.size ≤ b) (hn : H' b = none) : FpOk X pins H' b := by
  refine ⟨hn, Nat.ne_of_gt (Nat.lt_of_lt_of_le I.lt hb), I.nofs hb, .inr (Nat.le_trans I.sz hb), fun x c e z => ?_, fun p hp z => ?_⟩
  · obtain ⟨v, q⟩ := I.cell x c e
    exact absurd (Nat.lt_of_lt_of_le q.lt (by rw [z]; exact hb)) (Nat.lt_irrefl _)
  · exact absurd (Nat.lt_of_lt_of_le (Heap.lt_size (I.pin p hp).1) (by rw [z]; exact hb)) (Nat.lt_irrefl _)
structure Turn (P : Program) (w : World) (K : PySem.W.Frag) (tg : Expr) (J : It) (fp : List Addr) (it : Addr) (tn : Nat → Heap → Prop) : Prop where
  mem : it ∈ fp
  obj : ∀ i h, tn i h → ∀ b ∈ fp, ∃ o, h.get? b = some o ∧ ∀ v, o.data ≠ .cell v
  keep : ∀ i h h', tn i h → (∀ b ∈ fp, ∀ o, h.get? b = some o → h'.get? b = some o) → tn i h'
  item : ∀ (X : Cx), X.prog = P → X.w = w → X.K = K → X.calm = true → ∀ (i : Nat) (pins : List (Addr × Obj)) (s : Shared) (σ : St) (H : Hp) (E : Value → Shared → Prop), Inv X pins σ H s → (∀ b ∈ fp, FpOk X pins H b) → tn i s.heap → J.go i H →
    wpAny (model P w) X.A (pyNext (.ref it)) (fun r s1 => ∃ u, r = some u ∧
      wpAny (model P w) X.A (letOwnedTupleGo tg (.ref it) u) (fun _ s2 => ∃ x H', Inv X pins σ H' s2 ∧ RelV x u ∧ J.yld i H x H' ∧ tn (i + 1) s2.heap ∧ ∀ b ∈ fp, H' b = none) E s1) E s
  done : ∀ (X : Cx), X.prog = P → X.w = w → X.K = K → X.calm = true → ∀ (i : Nat) (pins : List (Addr × Obj)) (s : Shared) (σ : St) (H : Hp) (E : Value → Shared → Prop), Inv X pins σ H s → (∀ b ∈ fp, FpOk X pins H b) → tn i s.heap → J.stop i H →
    wpAny (model P w) X.A (pyNext (.ref it)) (fun r s1 => r = none ∧ Inv X pins σ H s1) E s
  self : ∀ (A : Around) (i : Nat) (s : Shared) (Q : Value → Shared → Prop) (E : Value → Shared → Prop), tn i s.heap → Q (.ref it) s → wpAny (model P w) A (pyIter (.ref it)) Q E s
abbrev TI := St → Hp → (It → Hp → Prop) → Prop
/-- an iterator has come -/
def PIE (X : Cx) (pins : List (Addr × Obj)) (σ : St) (tg : Expr) (R : It → Hp → Prop) (itv : Value) (s2 : Shared) : Prop :=
  ∃ (it : Addr) (fp : List Addr) (tn : Nat → Heap → Prop) (J : It) (H' : Hp), itv = .ref it ∧ Inv X pins σ H' s2 ∧ Turn X.prog X.w X.K tg J fp it tn ∧ tn 0 s2.heap ∧ (∀ b ∈ fp, FpOk X pins H' b) ∧ R J H'
def PI (X : Cx) (tg iter : Expr) (wi : TI) : Prop :=
  ∀ (pins : List (Addr × Obj)) (s : Shared) (σ : St) (H : Hp) (R : It → Hp → Prop), Inv X pins σ H s → wi σ H R →
    wpAny (model X.prog X.w) X.A (eval iter X.env) (fun v s1 => wpAny (model X.prog X.w) X.A (pyIter v) (PIE X pins σ tg R) X.xe s1) X.xe s

/-- the step ahead of the store is nothing for an iterator that keeps no tuple -/
theorem go_of {M : Model} {A : Around} {E : Value → Shared → Prop} {s : Shared} {tg : Expr} {it : Addr} {u : Value} {o : Obj} {n : String} {vs : Array Value} {Q : Unit → Shared → Prop} (ho : s.heap.get? it = some o) (hc : o.cls = .type n) (hd : o.data = .fields vs)
    (hn : ["enumerate", "zip", "dict_itemiterator", "dict_reverseitemiterator", "odict_iterator", "itertools.zip_longest", "itertools.pairwise"].contains n = false) (hQ : Q () s) : wpAny M A (letOwnedTupleGo tg (.ref it) u) Q E s := by
  unfold letOwnedTupleGo
  cases tg <;> first
    | exact wpAny_pure hQ
    | (cases u <;> first
        | exact wpAny_pure hQ
        | (refine wpAny_bind (wpAny_load ho ?_)
           rw [hc, hd]
           show wpAny M A (if (["enumerate", "zip", "dict_itemiterator", "dict_reverseitemiterator", "odict_iterator", "itertools.zip_longest", "itertools.pairwise"].contains n && vs[0]? == some (rawInt _)) = true then _ else _) Q E s
           rw [if_neg (by intro h; rw [hn, Bool.false_and] at h; cases h)]
           exact wpAny_pure hQ))

/-- the list at a, as it stands at each turn (a loop may append to it) -/
def Itl (K : PySem.W.Frag) (a : Addr) : It :=
  ⟨fun i H => ∃ xs x, SqL K H a xs ∧ xs[i]? = some x, fun i H x H' => H' = H ∧ ∀ xs, SqL K H a xs → xs[i]? = some x, fun i H => ∃ xs, SqL K H a xs ∧ xs.length ≤ i⟩
def Itt (K : PySem.W.Frag) (a : Addr) : It :=
  ⟨fun i H => ∃ xs x, SqT K H a xs ∧ xs[i]? = some x, fun i H x H' => H' = H ∧ ∀ xs, SqT K H a xs → xs[i]? = some x, fun i H => ∃ xs, SqT K H a xs ∧ xs.length ≤ i⟩
/-- lo, lo + 1, .. (n of them) -/
def Itr (lo : Int) (n : Nat) : It := ⟨fun i _ => i < n, fun i H x H' => H' = H ∧ x = .int (lo + i), fun i _ => n ≤ i⟩
theorem turn_list {P : Program} {w : World} {K : PySem.W.Frag} {tg : Expr} (a it : Addr) : Turn P w K tg (Itl K a) [it] it (fun i h => h.IsListIter it a i) where
  mem := by simp
  obj := fun i h st b hb => by
    have e : b = it := by simpa using hb
    subst e
    obtain ⟨o, e, c, d⟩ := st
    exact ⟨o, e, fun v z => by rw [d] at z; cases z⟩
  keep := fun i h h' st k => st.at fun o e => k it (by simp) o e
  item := by
    intro X hP hw hK hc i pins s σ H E I hf st hg
    subst hP hw hK
    obtain ⟨xs, x, hq, hx⟩ := hg
    obtain ⟨its, rv, p, hz⟩ := I.list hq
    obtain ⟨u, hu, ru⟩ := rv.get hx
    obtain ⟨f0, f1, f2, f3, f4, f5⟩ := hf it (by simp)
    refine wpAny_pyNext_list_item st p.isList (x := u) (by simpa using hu) fun h' st' sb => ?_
    have I1 : Inv X pins σ H { s with heap := h' } := I.turned (t' := s.toks) (fun b o hb e => (sb.2 b hb).trans e) f0 f1 f3 f4 f5
    obtain ⟨o, e, c, d⟩ := id st'
    exact ⟨u, rfl, go_of (s := { s with heap := h' }) e c d (by decide) ⟨x, H, I1, ru, ⟨rfl, fun ys hy => by rw [I.list_inj hy hq]; exact hx⟩, st', fun b hb => (hf b hb).1⟩⟩
  done := by
    intro X hP hw hK hc i pins s σ H E I hf st hg
    subst hP hw hK
    obtain ⟨xs, hq, hx⟩ := hg
    obtain ⟨its, rv, p, hz⟩ := I.list hq
    obtain ⟨f0, f1, f2, f3, f4, f5⟩ := hf it (by simp)
    have hl := rv.length
    exact wpAny_pyNext_list_end (I.ok.hd hc) st p.isList (by simp; omega) fun h' eb => ⟨rfl, I.turned (t' := s.toks) (fun b o hb e => eb b o hb e) f0 f1 f3 f4 f5⟩
  self := fun _ _ _ _ _ st h => wpAny_pyIter_listiter st h
theorem turn_tuple {P : Program} {w : World} {K : PySem.W.Frag} {tg : Expr} (a it : Addr) : Turn P w K tg (Itt K a) [it] it (fun i h => h.IsTupleIter it a i) where
  mem := by simp
  obj := fun i h st b hb => by
    have e : b = it := by simpa using hb
    subst e
    obtain ⟨o, e, c, d⟩ := st
    exact ⟨o, e, fun v z => by rw [d] at z; cases z⟩
  keep := fun i h h' st k => st.at fun o e => k it (by simp) o e
  item := by
    intro X hP hw hK hc i pins s σ H E I hf st hg
    subst hP hw hK
    obtain ⟨xs, x, hq, hx⟩ := hg
    obtain ⟨its, rv, p, hz⟩ := I.tuple hq
    obtain ⟨u, hu, ru⟩ := rv.get hx
    obtain ⟨f0, f1, f2, f3, f4, f5⟩ := hf it (by simp)
    refine wpAny_pyNext_tuple_item st (show s.heap.IsTuple a its.toArray from p) (x := u) (by simpa using hu) fun h' st' sb => ?_
    have I1 : Inv X pins σ H { s with heap := h' } := I.turned (t' := s.toks) (fun b o hb e => (sb.2 b hb).trans e) f0 f1 f3 f4 f5
    obtain ⟨o, e, c, d⟩ := id st'
    exact ⟨u, rfl, go_of (s := { s with heap := h' }) e c d (by decide) ⟨x, H, I1, ru, ⟨rfl, fun ys hy => by rw [I.tuple_inj hy hq]; exact hx⟩, st', fun b hb => (hf b hb).1⟩⟩
  done := by
    intro X hP hw hK hc i pins s σ H E I hf st hg
    subst hP hw hK
    obtain ⟨xs, hq, hx⟩ := hg
    obtain ⟨its, rv, p, hz⟩ := I.tuple hq
    obtain ⟨f0, f1, f2, f3, f4, f5⟩ := hf it (by simp)
    have hl := rv.length
    exact wpAny_pyNext_tuple_end (I.ok.hd hc) st (show s.heap.IsTuple a its.toArray from p) (by simp; omega) fun h' eb => ⟨rfl, I.turned (t' := s.toks) (fun b o hb e => eb b o hb e) f0 f1 f3 f4 f5⟩
  self := fun _ _ _ _ _ st h => wpAny_pyIter_tupleiter st h
theorem turn_range {P : Program} {w : World} {K : PySem.W.Frag} {tg : Expr} (it : Addr) (lo : Int) (n : Nat) : Turn P w K tg (Itr lo n) [it] it (fun i h => IsRangeIter h it (lo + (i : Nat) * 1) ((n : Int) - (i : Nat)) 1) where
  mem := by simp
  obj := fun i h st b hb => by
    have e : b = it := by simpa using hb
    subst e
    exact ⟨_, st, fun v z => by
      have z' : Data.fields _ = Data.cell v := z
      cases z'⟩
  keep := fun i h h' st k => k it (by simp) _ st
  item := by
    intro X hP hw hK hc i pins s σ H E I hf st hg
    subst hP hw hK
    obtain ⟨f0, f1, f2, f3, f4, f5⟩ := hf it (by simp)
    have W := Walks.range (prog := X.prog) (w := X.w) (I.ok.hd hc) it lo 1 n
    refine W.item i s _ _ hg st fun v h' tk hv st' kk => ?_
    obtain ⟨t, rfl⟩ := hv
    have I1 : Inv X pins σ H { s with heap := h', toks := tk } := I.turned (fun b o hb e => kk b o (by simpa using hb) e) f0 f1 f3 f4 f5
    refine ⟨_, rfl, go_of (s := { s with heap := h', toks := tk }) (n := "range_iterator") st' rfl rfl (by decide) ⟨.int (lo + i), H, I1, ⟨t, ?_⟩, ⟨rfl, rfl⟩, st', fun b hb => (hf b hb).1⟩⟩
    rw [Int.mul_one]
  done := by
    intro X hP hw hK hc i pins s σ H E I hf st hg
    subst hP hw hK
    obtain ⟨f0, f1, f2, f3, f4, f5⟩ := hf it (by simp)
    exact wpAny_pyNext_range_end (I.ok.hd hc) st (by have : n ≤ i := hg; omega) fun h' eb => ⟨rfl, I.turned (t' := s.toks) (fun b o hb e => eb b o hb e) f0 f1 f3 f4 f5⟩
  self := fun _ _ _ _ _ st h => wpAny_pyIter_rangeiter st h
end L2

namespace L2
open PySem PySem.Spec PyProof.Rows
section
variable {X : Cx} {tg : Expr}
def iList (K : PySem.W.Frag) (tl : TE) : TI := fun σ H R => tl σ H fun x H1 => ∃ a, x = .ref a ∧ (∃ xs, SqL K H1 a xs) ∧ R (Itl K a) H1
def iTup (K : PySem.W.Frag) (tl : TE) : TI := fun σ H R => tl σ H fun x H1 => ∃ a, x = .ref a ∧ (∃ xs, SqT K H1 a xs) ∧ R (Itt K a) H1
theorem pi_list {l : Expr} {tl : TE} (hl : PE X l tl) : PI X tg l (iList X.K tl) := by
  intro pins s σ H R I h
  refine thn (hl pins s σ H _ I h) fun v s1 ⟨x, H1, I1, r1, q1⟩ => ?_
  obtain ⟨a, e, ⟨xs, hq⟩, q⟩ := q1
  subst e
  cases r1
  obtain ⟨its, rv, p, hz⟩ := I1.list hq
  refine wpAny_pyIter_list p.isList ?_
  refine ⟨s1.heap.objs.size, [s1.heap.objs.size], _, _, H1, rfl, I1.kept (t' := s1.toks) fun b o e => Heap.get?_push_of_some _ e, turn_list a _, ⟨_, Heap.get?_push_size _ rfl, rfl, rfl⟩, fun b hb => ?_, q⟩
  have e : b = s1.heap.objs.size := by simpa using hb
  subst e
  exact I1.fpOk (Nat.le_refl _) (I1.hok.fresh (Nat.le_refl _))
theorem pi_tup {l : Expr} {tl : TE} (hl : PE X l tl) : PI X tg l (iTup X.K tl) := by
  intro pins s σ H R I h
  refine thn (hl pins s σ H _ I h) fun v s1 ⟨x, H1, I1, r1, q1⟩ => ?_
  obtain ⟨a, e, ⟨xs, hq⟩, q⟩ := q1
  subst e
  cases r1
  obtain ⟨its, rv, p, hz⟩ := I1.tuple hq
  refine wpAny_pyIter_tuple (show s1.heap.IsTuple a its.toArray from p) ?_
  refine ⟨s1.heap.objs.size, [s1.heap.objs.size], _, _, H1, rfl, I1.kept (t' := s1.toks) fun b o e => Heap.get?_push_of_some _ e, turn_tuple a _, ⟨_, Heap.get?_push_size _ rfl, rfl, rfl⟩, fun b hb => ?_, q⟩
  have e : b = s1.heap.objs.size := by simpa using hb
  subst e
  exact I1.fpOk (Nat.le_refl _) (I1.hok.fresh (Nat.le_refl _))
/-- a range object just made, walked -/
theorem range_it {pins : List (Addr × Obj)} {σ : St} {H : Hp} {s : Shared} {R : It → Hp → Prop} {E : Value → Shared → Prop} {lo hi : Int} {t u v : Tok} {tk : Nat} (I : Inv X pins σ H s) (h1 : -(2 ^ 62) ≤ lo) (h2 : lo < 2 ^ 62) (h3 : -(2 ^ 62) ≤ hi) (h4 : hi < 2 ^ 62)
    (q : R (Itr lo (hi - lo).toNat) H) : wpAny (model X.prog X.w) X.A (pyIter (.ref s.heap.objs.size)) (PIE X pins σ tg R) E { s with heap := s.heap.push { cls := .type "range", data := .fields #[.int lo t, .int hi u, .int 1 v] }, toks := tk } := by
  refine wpAny_pyIter_range (IsRange.new ..) (small_one h1 h2 h3 h4) ?_
  have I1 : Inv X pins σ H { s with heap := s.heap.push { cls := .type "range", data := .fields #[.int lo t, .int hi u, .int 1 v] }, toks := tk } := I.kept fun b o e => Heap.get?_push_of_some _ e
  refine ⟨(s.heap.push { cls := .type "range", data := .fields #[.int lo t, .int hi u, .int 1 v] }).objs.size, [(s.heap.push { cls := .type "range", data := .fields #[.int lo t, .int hi u, .int 1 v] }).objs.size], _, _, H, rfl,
    I1.kept (t' := tk) fun b o e => Heap.get?_push_of_some _ e, turn_range _ lo (hi - lo).toNat, ?_, fun b hb => ?_, q⟩
  · have e1 : lo + ((0 : Nat) : Int) * 1 = lo := by simp
    have e2 : (((hi - lo).toNat : Nat) : Int) - ((0 : Nat) : Int) = Builtin.Range.rangeSize lo hi 1 := by rw [rangeSize_one]; split <;> omega
    show IsRangeIter _ _ (lo + ((0 : Nat) : Int) * 1) ((((hi - lo).toNat : Nat) : Int) - ((0 : Nat) : Int)) 1
    rw [e1, e2]
    exact Heap.get?_push_size _ rfl
  · have e : b = (s.heap.push { cls := .type "range", data := .fields #[.int lo t, .int hi u, .int 1 v] }).objs.size := by simpa using hb
    subst e
    exact I1.fpOk (Nat.le_refl _) (I1.hok.fresh (Nat.le_refl _))
def iRng1 (ta : TA) : TI := fun σ H R => ta σ H fun vs H1 => ∃ j : Int, vs = [.int j] ∧ -(2 ^ 62) ≤ j ∧ j < 2 ^ 62 ∧ R (Itr 0 j.toNat) H1
def iRng2 (ta : TA) : TI := fun σ H R => ta σ H fun vs H1 => ∃ i j : Int, vs = [.int i, .int j] ∧ (-(2 ^ 62) ≤ i ∧ i < 2 ^ 62 ∧ -(2 ^ 62) ≤ j ∧ j < 2 ^ 62) ∧ R (Itr i (j - i).toNat) H1
theorem pi_range1 {a : Expr} {ta : TA} {p pos : Pos} (hg : Gl X "range") (hm : X.mg "range" = none) (ha : PA X [a] ta) (hs : starEach [a] X.env = [(false, eval a X.env)] := by rfl) : PI X tg (.Call (.Name "range" p) [a] [] pos) (iRng1 ta) := by
  intro pins s σ H R I h
  refine Call_ (ld_blt I hg hm boot_range (PyProof.Rows.callWith_type1 (thn (ha pos pins s σ H _ I h) fun us s1 ⟨vs, H1, I1, r1, q1⟩ => ?_) hs rfl))
  obtain ⟨j, e, q1, q2, q⟩ := q1
  subst e
  cases r1 with
  | cons r rr =>
    cases rr
    obtain ⟨t, rfl⟩ := r
    exact call_range_1 (range_it I1 (by omega) (by omega) q1 q2 (by simpa using q))
/-! ### for -/
/-- W: the invariant by the turn and a measure; N: what the body is to reach -/
def tFor (wi : TI) (g : TG) (tb : TS) : TS := fun D σ H => wi σ H fun J H1 => ∃ W : Nat → Nat → St → Hp → Prop, (∃ m, W 0 m σ H1) ∧ ∀ i m σ H, W i m σ H →
  (J.stop i H ∧ D.nx σ H) ∨ (J.go i H ∧ ∃ N : St → Hp → Prop, (∀ σ' H', N σ' H' → ∃ m', m' < m ∧ W (i + 1) m' σ' H') ∧ ∀ x H', J.yld i H x H' → g x σ H' fun σ2 H2 => tb { D with nx := N, ct := N, bk := D.nx } σ2 H2)
/-- the records at fp as they stand -/
def pinsAt (fp : List Addr) (h : Heap) : List (Addr × Obj) := fp.filterMap fun b => (h.get? b).map fun o => (b, o)
theorem mem_pinsAt {fp : List Addr} {h : Heap} {b : Addr} {o : Obj} (hb : b ∈ fp) (e : h.get? b = some o) : (b, o) ∈ pinsAt fp h := List.mem_filterMap.mpr ⟨b, hb, by rw [e]; rfl⟩
theorem of_pinsAt {fp : List Addr} {h : Heap} {p : Addr × Obj} (hp : p ∈ pinsAt fp h) : p.1 ∈ fp ∧ h.get? p.1 = some p.2 := by
  obtain ⟨b, hb, e⟩ := List.mem_filterMap.mp hp
  cases q : h.get? b with
  | none => rw [q] at e; cases e
  | some o =>
    rw [q] at e
    have e' : (b, o) = p := Option.some.inj e
    subst e'
    exact ⟨hb, q⟩
theorem Inv.pinned {pins : List (Addr × Obj)} {σ : St} {H : Hp} {s : Shared} {fp : List Addr} (I : Inv X pins σ H s) (hf : ∀ b ∈ fp, FpOk X pins H b) (ho : ∀ b ∈ fp, ∃ o, s.heap.get? b = some o ∧ ∀ v, o.data ≠ .cell v) : Inv X (pins ++ pinsAt fp s.heap) σ H s :=
  I.pins_of fun p hp => (List.mem_append.mp hp).elim (fun z => I.pin p (List.mem_append_right _ z)) fun z => by
    obtain ⟨hb, e⟩ := of_pinsAt z
    obtain ⟨f0, f1, f2, _⟩ := hf p.1 hb
    obtain ⟨o, e', d⟩ := ho p.1 hb
    rw [e] at e'; cases e'
    exact ⟨e, f0, f1, f2, d⟩
theorem Inv.unpinned {pins pl : List (Addr × Obj)} {σ : St} {H : Hp} {s : Shared} (I : Inv X (pins ++ pl) σ H s) : Inv X pins σ H s := I.pins_of fun p hp => I.pin p (List.mem_append_right _ (List.mem_append_left _ hp))
theorem ps_for {iter : Expr} {body : List Stmt} {wi : TI} {g : TG} {tb : TS} {pos : Pos} (hp : PassesOwn (model X.prog X.w) X.A X.env X.xe) (hc : X.calm = true) (hi : PI X tg iter wi) (hg : PG X tg g) (hb : PSs X body tb)
    (hs : ∀ x, foldedSetIterable iter X.env x = pure x := by intro _; rfl) : PS X (.For tg iter body [] pos) (tFor wi g tb) := by
  intro pins s σ H D I h
  refine wpAny_For (thn (hi pins s σ H _ I h) fun v s1 h1 => thn h1 fun itv s2 h2 => ?_) hs
  obtain ⟨it, fp, tn, J, H2, e, I2, T, st2, f2, W, ⟨m0, w0⟩, turn⟩ := h2
  subst e
  -- what stays true of the iterator's objects through the loop
  have stat : ∀ {H' : Hp}, (∀ b ∈ fp, H' b = none) → ∀ b ∈ fp, FpOk X pins H' b := fun hn b hb => ⟨hn b hb, (f2 b hb).2⟩
  refine codeAny_forLoop_any (fun n s' => ∃ i σ' H', Inv X pins σ' H' s' ∧ tn i s'.heap ∧ (∀ b ∈ fp, H' b = none) ∧ W i n σ' H') ?_ m0 ⟨0, σ, H2, I2, st2, fun b hb => (f2 b hb).1, w0⟩
  rintro n s3 ⟨i, σ3, H3, I3, st3, fr3, w3⟩
  rcases turn i n σ3 H3 w3 with ⟨stop, qn⟩ | ⟨go, N, hN, step⟩
  · refine wpAny_passesOwn hp (thn (T.done X rfl rfl rfl hc i pins s3 σ3 H3 X.xe I3 (stat fr3) st3 stop) fun r s4 ⟨hr, I4⟩ => ?_)
    subst hr
    exact wpAny_execs_nil ⟨σ3, H3, I4, qn⟩
  · refine wpAny_passesOwn hp (thn (T.item X rfl rfl rfl hc i pins s3 σ3 H3 X.xe I3 (stat fr3) st3 go) fun r s4 ⟨u, hr, h4⟩ => ?_)
    subst hr
    refine wpAny_passesOwn hp (thn h4 fun _ s5 ⟨x, H5, I5, r5, y5, st5, fr5⟩ => ?_)
    have I5' := I5.pinned (stat fr5) (T.obj _ _ st5)
    refine wpAny_passesOwn hp (thn (hg _ s5 σ3 H5 x u _ I5' r5 (step x H5 y5)) fun _ s6 ⟨σ6, H6, I6, q6⟩ => ?_)
    refine wpAny_passesOwn hp (thn (hb _ s6 σ6 H6 _ I6 q6) fun f s7 q7 => ?_)
    have again : ∀ {σ7 : St} {H7 : Hp}, Inv X (pins ++ pinsAt fp s5.heap) σ7 H7 s7 → N σ7 H7 → ∃ m, m < n ∧ ∃ i σ' H', Inv X pins σ' H' s7 ∧ tn i s7.heap ∧ (∀ b ∈ fp, H' b = none) ∧ W i m σ' H' := fun {σ7 H7} I7 n7 => by
      obtain ⟨m', hm, w7⟩ := hN σ7 H7 n7
      refine ⟨m', hm, i + 1, σ7, H7, I7.unpinned, T.keep _ _ _ st5 fun b hb o e => (I7.pin (b, o) (List.mem_append_right _ (List.mem_append_right _ (mem_pinsAt hb e)))).1, fun b hb => ?_, w7⟩
      obtain ⟨o, e, d⟩ := T.obj _ _ st5 b hb
      exact (I7.pin (b, o) (List.mem_append_right _ (List.mem_append_right _ (mem_pinsAt hb e)))).2.1
    cases f with
    | next => obtain ⟨σ7, H7, I7, n7⟩ := q7; exact again I7 n7
    | cont => obtain ⟨σ7, H7, I7, n7⟩ := q7; exact again I7 n7
    | brk => obtain ⟨σ7, H7, I7, q7⟩ := q7; exact ⟨σ7, H7, I7.unpinned, q7⟩
    | ret v => obtain ⟨x7, σ7, H7, I7, r7, q7⟩ := q7; exact ⟨x7, σ7, H7, I7.unpinned, r7, q7⟩
end

/-! ### the forms one uses -/
/-- over a list that the body leaves as it is -/
theorem for_list {K : PySem.W.Frag} {a : Addr} {xs : List V} {g : TG} {tb : TS} {D : Ends} {σ : St} {H : Hp} (Pv : Nat → St → Hp → Prop) (h0 : Pv 0 σ H) (hl : ∀ i σ H, i ≤ xs.length → Pv i σ H → SqL K H a xs)
    (hs : ∀ i x σ H, xs[i]? = some x → Pv i σ H → g x σ H fun σ2 H2 => tb { D with nx := Pv (i + 1), ct := Pv (i + 1), bk := D.nx } σ2 H2) (hd : ∀ σ H, Pv xs.length σ H → D.nx σ H) :
    ∃ W : Nat → Nat → St → Hp → Prop, (∃ m, W 0 m σ H) ∧ ∀ i m σ H, W i m σ H →
      ((Itl K a).stop i H ∧ D.nx σ H) ∨ ((Itl K a).go i H ∧ ∃ N : St → Hp → Prop, (∀ σ' H', N σ' H' → ∃ m', m' < m ∧ W (i + 1) m' σ' H') ∧ ∀ x H', (Itl K a).yld i H x H' → g x σ H' fun σ2 H2 => tb { D with nx := N, ct := N, bk := D.nx } σ2 H2) := by
  refine ⟨fun i m σ H => m = xs.length - i ∧ i ≤ xs.length ∧ Pv i σ H, ⟨xs.length, by simp, Nat.zero_le _, h0⟩, ?_⟩
  rintro i m σ H ⟨rfl, hi, p⟩
  have q := hl i σ H hi p
  by_cases hlt : i < xs.length
  · refine .inr ⟨⟨xs, xs[i], q, by simp [hlt]⟩, Pv (i + 1), fun σ' H' p' => ⟨xs.length - (i + 1), by omega, rfl, hlt, p'⟩, fun x H' y => ?_⟩
    obtain ⟨e, y⟩ := y
    subst e
    exact hs i x σ _ (y xs q) p
  · have e : i = xs.length := by omega
    subst e
    exact .inl ⟨⟨xs, q, Nat.le_refl _⟩, hd σ H p⟩
theorem for_tup {K : PySem.W.Frag} {a : Addr} {xs : List V} {g : TG} {tb : TS} {D : Ends} {σ : St} {H : Hp} (Pv : Nat → St → Hp → Prop) (h0 : Pv 0 σ H) (hl : ∀ i σ H, i ≤ xs.length → Pv i σ H → SqT K H a xs)
    (hs : ∀ i x σ H, xs[i]? = some x → Pv i σ H → g x σ H fun σ2 H2 => tb { D with nx := Pv (i + 1), ct := Pv (i + 1), bk := D.nx } σ2 H2) (hd : ∀ σ H, Pv xs.length σ H → D.nx σ H) :
    ∃ W : Nat → Nat → St → Hp → Prop, (∃ m, W 0 m σ H) ∧ ∀ i m σ H, W i m σ H →
      ((Itt K a).stop i H ∧ D.nx σ H) ∨ ((Itt K a).go i H ∧ ∃ N : St → Hp → Prop, (∀ σ' H', N σ' H' → ∃ m', m' < m ∧ W (i + 1) m' σ' H') ∧ ∀ x H', (Itt K a).yld i H x H' → g x σ H' fun σ2 H2 => tb { D with nx := N, ct := N, bk := D.nx } σ2 H2) := by
  refine ⟨fun i m σ H => m = xs.length - i ∧ i ≤ xs.length ∧ Pv i σ H, ⟨xs.length, by simp, Nat.zero_le _, h0⟩, ?_⟩
  rintro i m σ H ⟨rfl, hi, p⟩
  have q := hl i σ H hi p
  by_cases hlt : i < xs.length
  · refine .inr ⟨⟨xs, xs[i], q, by simp [hlt]⟩, Pv (i + 1), fun σ' H' p' => ⟨xs.length - (i + 1), by omega, rfl, hlt, p'⟩, fun x H' y => ?_⟩
    obtain ⟨e, y⟩ := y
    subst e
    exact hs i x σ _ (y xs q) p
  · have e : i = xs.length := by omega
    subst e
    exact .inl ⟨⟨xs, q, Nat.le_refl _⟩, hd σ H p⟩
theorem for_range {lo : Int} {n : Nat} {g : TG} {tb : TS} {D : Ends} {σ : St} {H : Hp} (Pv : Nat → St → Hp → Prop) (h0 : Pv 0 σ H)
    (hs : ∀ i σ H, i < n → Pv i σ H → g (.int (lo + i)) σ H fun σ2 H2 => tb { D with nx := Pv (i + 1), ct := Pv (i + 1), bk := D.nx } σ2 H2) (hd : ∀ σ H, Pv n σ H → D.nx σ H) :
    ∃ W : Nat → Nat → St → Hp → Prop, (∃ m, W 0 m σ H) ∧ ∀ i m σ H, W i m σ H →
      ((Itr lo n).stop i H ∧ D.nx σ H) ∨ ((Itr lo n).go i H ∧ ∃ N : St → Hp → Prop, (∀ σ' H', N σ' H' → ∃ m', m' < m ∧ W (i + 1) m' σ' H') ∧ ∀ x H', (Itr lo n).yld i H x H' → g x σ H' fun σ2 H2 => tb { D with nx := N, ct := N, bk := D.nx } σ2 H2) := by
  refine ⟨fun i m σ H => m = n - i ∧ i ≤ n ∧ Pv i σ H, ⟨n, by simp, Nat.zero_le _, h0⟩, ?_⟩
  rintro i m σ H ⟨rfl, hi, p⟩
  by_cases hlt : i < n
  · refine .inr ⟨hlt, Pv (i + 1), fun σ' H' p' => ⟨n - (i + 1), by omega, rfl, hlt, p'⟩, fun x H' y => ?_⟩
    obtain ⟨e, y⟩ := y
    subst e y
    exact hs i σ _ hlt p
  · have e : i = n := by omega
    subst e
    exact .inl ⟨Nat.le_refl _, hd σ H p⟩
end L2

namespace L2
open PySem PySem.Spec PyProof.Rows

abbrev R2 := V → V → Hp → VK → Prop
/-- a two-place operation on values: f is binaryOp op, inplaceOp op or compareOp op -/
def OpR (X : Cx) (f : Value → Value → Sem Value) (r : R2) : Prop :=
  ∀ (pins : List (Addr × Obj)) (s : Shared) (σ : St) (H : Hp) (x y : V) (v u : Value) (Q : VK), Inv X pins σ H s → RelV x v → RelV y u → r x y H Q →
    wpAny (model X.prog X.w) X.A (f v u) (EP X pins σ Q) X.xe s
/-- a one-place operation -/
def UnR (X : Cx) (f : Value → Sem Value) (r : V → Hp → VK → Prop) : Prop :=
  ∀ (pins : List (Addr × Obj)) (s : Shared) (σ : St) (H : Hp) (x : V) (v : Value) (Q : VK), Inv X pins σ H s → RelV x v → r x H Q →
    wpAny (model X.prog X.w) X.A (f v) (EP X pins σ Q) X.xe s
/-- a call of a value that is known (a builtin, a type) with values -/
def CallR (X : Cx) (f : Value) (r : List V → Hp → VK → Prop) : Prop :=
  ∀ (pins : List (Addr × Obj)) (s : Shared) (σ : St) (H : Hp) (xs : List V) (us : List Value) (Q : VK), Inv X pins σ H s → Vals xs us → r xs H Q →
    wpAny (model X.prog X.w) X.A (call f us) (EP X pins σ Q) X.xe s
/-- a value's truth -/
def TruR (X : Cx) (r : V → Hp → (Bool → Hp → Prop) → Prop) : Prop :=
  ∀ (pins : List (Addr × Obj)) (s : Shared) (σ : St) (H : Hp) (x : V) (v : Value) (Q : Bool → Hp → Prop), Inv X pins σ H s → RelV x v → r x H Q →
    wpAny (model X.prog X.w) X.A (truthy v) (TP X pins σ Q) X.xe s

def tOp (r : R2) (ta tb : TE) : TE := fun σ H Q => ta σ H fun x H1 => tb σ H1 fun y H2 => r x y H2 Q
def tUn (r : V → Hp → VK → Prop) (ta : TE) : TE := fun σ H Q => ta σ H fun x H1 => r x H1 Q
/-- ints in, under C, and a value out -/
def rI (C : Int → Int → Prop) (g : Int → Int → V) : R2 := fun x y H Q => ∃ i j, x = .int i ∧ y = .int j ∧ C i j ∧ Q (g i j) H
def rI0 (g : Int → Int → V) : R2 := fun x y H Q => ∃ i j, x = .int i ∧ y = .int j ∧ Q (g i j) H
def rU (g : Int → V) : V → Hp → VK → Prop := fun x H Q => ∃ i, x = .int i ∧ Q (g i) H

section
variable {X : Cx} {a b c : Expr} {ta tb tc : TE} {pos : Pos}

theorem binT (ha : PE X a ta) (hb : PE X b tb) {pins : List (Addr × Obj)} {s : Shared} {σ : St} {H : Hp} {R : V → V → Hp → Prop} (I : Inv X pins σ H s)
    (h : ta σ H fun x H1 => tb σ H1 fun y H2 => R x y H2) {Q : Value → Shared → Prop} {f : Value → Value → Sem Value}
    (hf : ∀ v u s2 x y H2, Inv X pins σ H2 s2 → RelV x v → RelV y u → R x y H2 → wpAny (model X.prog X.w) X.A (f v u) Q X.xe s2) :
    wpAny (model X.prog X.w) X.A (eval a X.env) (fun v s₁ => wpAny (model X.prog X.w) X.A (eval b X.env) (fun u s₂ => wpAny (model X.prog X.w) X.A (f v u) Q X.xe s₂) X.xe s₁) X.xe s := by
  refine thn (ha pins s σ H _ I h) fun v s1 ⟨x, H1, I1, r1, q1⟩ => ?_
  refine thn (hb pins s1 σ H1 _ I1 q1) fun u s2 ⟨y, H2, I2, r2, q2⟩ => ?_
  exact hf v u s2 x y H2 I2 r1 r2 q2

theorem pe_op {op : Operator} {r : R2} (ho : OpR X (binaryOp op) r) (ha : PE X a ta) (hb : PE X b tb) : PE X (.BinOp a op b pos) (tOp r ta tb) := by
  intro pins s σ H Q I h
  exact wpAny_BinOp (binT ha hb I h fun v u s2 x y H2 I2 rx ry q => ho pins s2 σ H2 x y v u Q I2 rx ry q)
theorem pe_un {op : UnaryOp} {r : V → Hp → VK → Prop} (ho : UnR X (unaryOp op) r) (ha : PE X a ta) : PE X (.UnaryOp op a pos) (tUn r ta) := by
  intro pins s σ H Q I h
  exact UnaryOp_ (thn (ha pins s σ H _ I h) fun v s1 ⟨x, H1, I1, r1, q1⟩ => ho pins s1 σ H1 x v Q I1 r1 q1)
/-! ### ints -/
theorem opI {f : Value → Value → Sem Value} {C : Int → Int → Prop} {g : Int → Int → Int}
    (rule : ∀ (i j : Int) (t u : Tok) (s : Shared) (Q : Value → Shared → Prop) (E : Value → Shared → Prop), C i j → Q (.int (g i j) s.toks) { s with toks := s.toks + 1 } → wpAny (model X.prog X.w) X.A (f (.int i t) (.int j u)) Q E s) :
    OpR X f (rI C fun i j => .int (g i j)) := by
  intro pins s σ H x y v u Q I rx ry h
  obtain ⟨i, j, rfl, rfl, hc, q⟩ := h
  obtain ⟨t, rfl⟩ := rx
  obtain ⟨t', rfl⟩ := ry
  exact rule i j t t' s _ _ hc ⟨.int (g i j), H, I.tok _, ⟨_, rfl⟩, q⟩
theorem opI0 {f : Value → Value → Sem Value} {g : Int → Int → Int}
    (rule : ∀ (i j : Int) (t u : Tok) (s : Shared) (Q : Value → Shared → Prop) (E : Value → Shared → Prop), Q (.int (g i j) s.toks) { s with toks := s.toks + 1 } → wpAny (model X.prog X.w) X.A (f (.int i t) (.int j u)) Q E s) :
    OpR X f (rI0 fun i j => .int (g i j)) := by
  intro pins s σ H x y v u Q I rx ry h
  obtain ⟨i, j, rfl, rfl, q⟩ := h
  obtain ⟨t, rfl⟩ := rx
  obtain ⟨t', rfl⟩ := ry
  exact rule i j t t' s _ _ ⟨.int (g i j), H, I.tok _, ⟨_, rfl⟩, q⟩
theorem opB0 {f : Value → Value → Sem Value} {g : Int → Int → Bool}
    (rule : ∀ (i j : Int) (t u : Tok) (s : Shared) (Q : Value → Shared → Prop) (E : Value → Shared → Prop), Q (.bool (g i j)) s → wpAny (model X.prog X.w) X.A (f (.int i t) (.int j u)) Q E s) :
    OpR X f (rI0 fun i j => .bl (g i j)) := by
  intro pins s σ H x y v u Q I rx ry h
  obtain ⟨i, j, rfl, rfl, q⟩ := h
  obtain ⟨t, rfl⟩ := rx
  obtain ⟨t', rfl⟩ := ry
  exact rule i j t t' s _ _ ⟨.bl (g i j), H, I, rfl, q⟩

def CDiv (i j : Int) : Prop := 0 < j ∧ j < 1073741824
def CDivN (i j : Int) : Prop := j ≠ 0 ∧ j.natAbs < 1073741824
def CPow (i j : Int) : Prop := 0 ≤ j ∧ j ≤ 1000000 ∧ i.natAbs < 2 ^ 64
def CMul (i j : Int) : Prop := (-(2 ^ 64) < i ∧ i < 2 ^ 64) ∨ (-(2 ^ 64) < j ∧ j < 2 ^ 64)
theorem CMul.ok {i j : Int} (h : CMul i j) : IntMulOk i j := by
  rcases h with ⟨h1, h2⟩ | ⟨h1, h2⟩
  · exact .of_left (intBits_le_64 h1 h2)
  · exact .of_right (intBits_le_64 h1 h2)
theorem op_add : OpR X (binaryOp .Add) (rI0 fun i j => .int (i + j)) := opI0 fun _ _ _ _ _ _ _ q => add_int q
theorem op_sub : OpR X (binaryOp .Sub) (rI0 fun i j => .int (i - j)) := opI0 fun _ _ _ _ _ _ _ q => sub_int q
theorem op_mul : OpR X (binaryOp .Mult) (rI CMul fun i j => .int (i * j)) := opI fun _ _ _ _ _ _ _ hc q => mul_int q hc.ok
/-- // by a positive divisor -/
theorem op_fdiv : OpR X (binaryOp .FloorDiv) (rI CDiv fun i j => .int (i / j)) := opI fun i j _ _ _ _ _ hc q => by
  have h1 : (0 : Int) < j := hc.1
  have h2 : j < 1073741824 := hc.2
  exact floordiv_int (by omega) (by rw [Int.fdiv_eq_ediv_of_nonneg i (by omega)]; exact q) (.inl (PyProof.noPylong_small (by omega)))
/-- % by a positive divisor of any size -/
theorem op_mod : OpR X (binaryOp .Mod) (rI (fun _ j => 0 < j) fun i j => .int (i % j)) := opI fun i j _ _ _ _ _ hc q => by
  have h1 : (0 : Int) < j := hc
  exact mod_int' (by omega) (by rw [Int.fmod_eq_emod_of_nonneg i (by omega)]; exact q)
theorem op_pow : OpR X (binaryOp .Pow) (rI CPow fun i j => .int (i ^ j.toNat)) := opI fun _ _ _ _ _ _ _ hc q => pow_int_small hc.1 hc.2.1 hc.2.2 q
theorem unI {f : Value → Sem Value} {g : Int → Int}
    (rule : ∀ (i : Int) (t : Tok) (s : Shared) (Q : Value → Shared → Prop) (E : Value → Shared → Prop), Q (.int (g i) s.toks) { s with toks := s.toks + 1 } → wpAny (model X.prog X.w) X.A (f (.int i t)) Q E s) :
    UnR X f (rU fun i => .int (g i)) := by
  intro pins s σ H x v Q I rx h
  obtain ⟨i, rfl, q⟩ := h
  obtain ⟨t, rfl⟩ := rx
  exact rule i t s _ _ ⟨.int (g i), H, I.tok _, ⟨_, rfl⟩, q⟩
theorem un_neg : UnR X (unaryOp .USub) (rU fun i => .int (-i)) := unI fun _ _ _ _ _ q => neg_int q
/-! ### bools among ints: n += (a < b) -/
end

/-! ### comparisons -/
/-- the scalars that == tells apart as data does -/
def scal : V → V → Bool
  | .non, .non => true | .non, .int _ => true | .int _, .non => true | .non, .bl _ => true | .bl _, .non => true | .non, .str _ => true | .str _, .non => true
  | .int _, .int _ => true | .bl _, .bl _ => true | .str _, .str _ => true | .byt _, .byt _ => true
  | .int _, .str _ => true | .str _, .int _ => true | .bl _, .str _ => true | .str _, .bl _ => true
  | _, _ => false
def rEq : R2 := fun x y H Q => scal x y = true ∧ Q (.bl (decide (x = y))) H
def rNe : R2 := fun x y H Q => scal x y = true ∧ Q (.bl (!decide (x = y))) H

theorem dec_int {i j : Int} : decide (V.int i = V.int j) = (i == j) := by
  rw [Bool.eq_iff_iff]
  simp
theorem dec_bl {i j : Bool} : decide (V.bl i = V.bl j) = (i == j) := by
  rw [Bool.eq_iff_iff]
  simp
theorem dec_str {i j : Str} : decide (V.str i = V.str j) = (i == j) := by
  rw [Bool.eq_iff_iff]
  simp
theorem dec_byt {i j : Array UInt8} : decide (V.byt i = V.byt j) = (i.toList == j.toList) := by
  rw [Bool.eq_iff_iff]
  cases i
  cases j
  simp

section
variable {X : Cx} {a b c : Expr} {ta tb tc : TE} {pos : Pos}
theorem fin_bl {pins : List (Addr × Obj)} {σ : St} {H : Hp} {s : Shared} {Q : VK} {k k' : Bool} (I : Inv X pins σ H s) (q : Q (.bl k) H) (e : k = k') : EP X pins σ Q (.bool k') s := by
  subst e
  exact ⟨.bl k, H, I, rfl, q⟩
theorem op_eq : OpR X (compareOp .Eq) rEq := by
  intro pins s σ H x y v u Q I rx ry h
  obtain ⟨hs, q⟩ := h
  cases x with
  | non =>
    cases rx
    cases y with
    | non => cases ry; exact PySem.EqNone.eq_none_none (fin_bl I q (by simp))
    | bl j => cases ry; exact PySem.EqNone.eq_none_bool (fin_bl I q (by simp))
    | int j => obtain ⟨t', rfl⟩ := ry; exact PySem.EqNone.eq_none_int (fin_bl I q (by simp))
    | str j => obtain ⟨t', rfl⟩ := ry; exact PySem.EqNone.eq_none_str (fin_bl I q (by simp))
    | _ => exact absurd (show false = true from hs) Bool.false_ne_true
  | bl i =>
    cases rx
    cases y with
    | non => cases ry; exact PySem.EqNone.eq_bool_none (fin_bl I q (by simp))
    | bl j => cases ry; exact eq_bool (fin_bl I q dec_bl)
    | str j => obtain ⟨t', rfl⟩ := ry; exact PySem.EqMixed.eq_bool_str (fin_bl I q (by simp))
    | _ => exact absurd (show false = true from hs) Bool.false_ne_true
  | int i =>
    obtain ⟨t, rfl⟩ := rx
    cases y with
    | non => cases ry; exact PySem.EqNone.eq_int_none (fin_bl I q (by simp))
    | int j => obtain ⟨t', rfl⟩ := ry; exact eq_int (fin_bl I q dec_int)
    | str j => obtain ⟨t', rfl⟩ := ry; exact PySem.EqMixed.eq_int_str (fin_bl I q (by simp))
    | _ => exact absurd (show false = true from hs) Bool.false_ne_true
  | str i =>
    obtain ⟨t, rfl⟩ := rx
    cases y with
    | non => cases ry; exact PySem.EqNone.eq_str_none (fin_bl I q (by simp))
    | bl j => cases ry; exact PySem.EqMixed.eq_str_bool (fin_bl I q (by simp))
    | int j => obtain ⟨t', rfl⟩ := ry; exact PySem.EqMixed.eq_str_int (fin_bl I q (by simp))
    | str j => obtain ⟨t', rfl⟩ := ry; exact eq_str (fin_bl I q dec_str)
    | _ => exact absurd (show false = true from hs) Bool.false_ne_true
  | byt i =>
    obtain ⟨t, rfl⟩ := rx
    cases y with
    | byt j => obtain ⟨t', rfl⟩ := ry; exact PySem.W.eq_bytes (fin_bl I q dec_byt)
    | _ => exact absurd (show false = true from hs) Bool.false_ne_true
  | _ => cases y <;> exact absurd (show false = true from hs) Bool.false_ne_true
theorem op_ne : OpR X (compareOp .NotEq) rNe := by
  intro pins s σ H x y v u Q I rx ry h
  obtain ⟨hs, q⟩ := h
  cases x with
  | non =>
    cases rx
    cases y with
    | non => cases ry; exact PySem.EqNone.ne_none_none (fin_bl I q (by simp))
    | bl j => cases ry; exact PySem.EqNone.ne_none_bool (fin_bl I q (by simp))
    | int j => obtain ⟨t', rfl⟩ := ry; exact PySem.EqNone.ne_none_int (fin_bl I q (by simp))
    | str j => obtain ⟨t', rfl⟩ := ry; exact PySem.EqNone.ne_none_str (fin_bl I q (by simp))
    | _ => exact absurd (show false = true from hs) Bool.false_ne_true
  | bl i =>
    cases rx
    cases y with
    | non => cases ry; exact PySem.EqNone.ne_bool_none (fin_bl I q (by simp))
    | bl j => cases ry; exact ne_bool (fin_bl I q (congrArg not dec_bl))
    | str j => obtain ⟨t', rfl⟩ := ry; exact PySem.EqMixed.ne_bool_str (fin_bl I q (by simp))
    | _ => exact absurd (show false = true from hs) Bool.false_ne_true
  | int i =>
    obtain ⟨t, rfl⟩ := rx
    cases y with
    | non => cases ry; exact PySem.EqNone.ne_int_none (fin_bl I q (by simp))
    | int j => obtain ⟨t', rfl⟩ := ry; exact ne_int (fin_bl I q (congrArg not dec_int))
    | str j => obtain ⟨t', rfl⟩ := ry; exact PySem.EqMixed.ne_int_str (fin_bl I q (by simp))
    | _ => exact absurd (show false = true from hs) Bool.false_ne_true
  | str i =>
    obtain ⟨t, rfl⟩ := rx
    cases y with
    | non => cases ry; exact PySem.EqNone.ne_str_none (fin_bl I q (by simp))
    | bl j => cases ry; exact PySem.EqMixed.ne_str_bool (fin_bl I q (by simp))
    | int j => obtain ⟨t', rfl⟩ := ry; exact PySem.EqMixed.ne_str_int (fin_bl I q (by simp))
    | str j => obtain ⟨t', rfl⟩ := ry; exact ne_str (fin_bl I q (congrArg not dec_str))
    | _ => exact absurd (show false = true from hs) Bool.false_ne_true
  | byt i =>
    obtain ⟨t, rfl⟩ := rx
    cases y with
    | byt j => obtain ⟨t', rfl⟩ := ry; exact PySem.W.ne_bytes (fin_bl I q (congrArg not dec_byt))
    | _ => exact absurd (show false = true from hs) Bool.false_ne_true
  | _ => cases y <;> exact absurd (show false = true from hs) Bool.false_ne_true

theorem op_lt : OpR X (compareOp .Lt) (rI0 fun i j => .bl (decide (i < j))) := opB0 fun _ _ _ _ _ _ _ q => lt_int q
theorem op_le : OpR X (compareOp .LtE) (rI0 fun i j => .bl (decide (i ≤ j))) := opB0 fun _ _ _ _ _ _ _ q => le_int q
theorem op_gt : OpR X (compareOp .Gt) (rI0 fun i j => .bl (decide (j < i))) := opB0 fun _ _ _ _ _ _ _ q => gt_int q
/-- is None, is not None: the right side a value none -/
theorem op_isN : OpR X (compareOp .Is) (fun x y H Q => y = .non ∧ Q (.bl (decide (x = .non))) H) := by
  intro pins s σ H x y v u Q I rx ry h
  obtain ⟨rfl, q⟩ := h
  cases ry
  refine is_none_gen (fin_bl I q ?_)
  cases x <;> first
    | (cases rx; rfl)
    | (obtain ⟨t, rfl⟩ := rx; rfl)
theorem op_notN : OpR X (compareOp .IsNot) (fun x y H Q => y = .non ∧ Q (.bl (!decide (x = .non))) H) := by
  intro pins s σ H x y v u Q I rx ry h
  obtain ⟨rfl, q⟩ := h
  cases ry
  refine isnot_none_gen (fin_bl I q ?_)
  cases x <;> first
    | (cases rx; rfl)
    | (obtain ⟨t, rfl⟩ := rx; rfl)

/-- is, is not of two objects that are tracked lists or instances -/
def isObj : HO → Bool
  | .lst _ => true
  | .ins _ _ _ => true
  | _ => false
/-- two rules for one operation: by cases -/
theorem OpR.or {f : Value → Value → Sem Value} {r r' : R2} (h : OpR X f r) (h' : OpR X f r') : OpR X f (fun x y H Q => r x y H Q ∨ r' x y H Q) := by
  intro pins s σ H x y v u Q I rx ry q
  rcases q with q | q
  · exact h pins s σ H x y v u Q I rx ry q
  · exact h' pins s σ H x y v u Q I rx ry q

theorem nomark (b : Expr) {op : CmpOp} (h : op ≠ .In := by decide) (h2 : op ≠ .NotIn := by decide) : behindInMarks op b = false := by
  have e1 : (op == CmpOp.In) = false := by cases op <;> first | rfl | exact absurd rfl h
  have e2 : (op == CmpOp.NotIn) = false := by cases op <;> first | rfl | exact absurd rfl h2
  cases b <;> simp [behindInMarks, e1, e2]
/-- a comparison as a value; hm: nomark b, or (for in, not in) by with_unfolding_all rfl -/
theorem pe_cmpR {op : CmpOp} {r : R2} (ho : OpR X (compareOp op) r) (ha : PE X a ta) (hb : PE X b tb) (hm : behindInMarks op b = false) : PE X (.Compare a [op] [b] pos) (tOp r ta tb) := by
  intro pins s σ H Q I h
  exact wpAny_Compare1 (binT ha hb I h fun v u s2 x y H2 I2 rx ry q => ho pins s2 σ H2 x y v u Q I2 rx ry q) hm
/-- a reading of a value as a test -/
def tTest (t : TE) : TT := fun σ H Q => t σ H fun x H' => ∃ k, x = .bl k ∧ Q k H'
theorem pt_cmpR {op : CmpOp} {r : R2} (ho : OpR X (compareOp op) r) (ha : PE X a ta) (hb : PE X b tb) (hm : behindInMarks op b = false) : PT X (.Compare a [op] [b] pos) (tTest (tOp r ta tb)) := by
  intro pins s σ H Q I h
  refine wpAny_isTrue_Compare1 (thn (ha pins s σ H _ I h) fun v s1 ⟨x, H1, I1, r1, q1⟩ => thn (hb pins s1 σ H1 _ I1 q1) fun u s2 ⟨y, H2, I2, r2, q2⟩ =>
    thn (ho pins s2 σ H2 x y v u _ I2 r1 r2 q2) fun c s3 ⟨z, H3, I3, r3, k, e, q3⟩ => ?_) hm
  subst e
  cases r3
  exact wpAny_truthy_bool ⟨H3, I3, q3⟩
/-- a op1 b op2 c -/
def tChain (r r' : R2) (ta tb tc : TE) : TE := fun σ H Q => ta σ H fun x H1 => tb σ H1 fun y H2 => r x y H2 fun z H3 => ∃ k, z = .bl k ∧
  (if k = true then tc σ H3 fun w' H4 => r' y w' H4 Q else Q (.bl false) H3)
theorem pe_chain {op op' : CmpOp} {r r' : R2} (ho : OpR X (compareOp op) r) (ho' : OpR X (compareOp op') r') (ha : PE X a ta) (hb : PE X b tb) (hc : PE X c tc)
    (hm : lastMarks [op, op'] [b, c] = false := by with_unfolding_all rfl) : PE X (.Compare a [op, op'] [b, c] pos) (tChain r r' ta tb tc) := by
  intro pins s σ H Q I h
  refine Compare_chain (thn (ha pins s σ H _ I h) fun v s1 ⟨x, H1, I1, r1, q1⟩ => chain_link (thn (hb pins s1 σ H1 _ I1 q1) fun u s2 ⟨y, H2, I2, r2, q2⟩ =>
    thn (ho pins s2 σ H2 x y v u _ I2 r1 r2 q2) fun d s3 ⟨z, H3, I3, r3, k, e, q3⟩ => ?_)) hm
  subst e
  cases r3
  refine wpAny_truthy_bool ?_
  cases k with
  | false => exact ite_ff ⟨.bl false, H3, I3, rfl, q3⟩
  | true => exact ite_tt (chain_last (thn (hc pins s3 σ H3 _ I3 q3) fun w' s4 ⟨z', H4, I4, r4, q4⟩ => ho' pins s4 σ H4 y z' u w' Q I4 r2 r4 q4))
theorem pt_chain {op op' : CmpOp} {r r' : R2} (ho : OpR X (compareOp op) r) (ho' : OpR X (compareOp op') r') (ha : PE X a ta) (hb : PE X b tb) (hc : PE X c tc)
    (hm : lastMarks [op, op'] [b, c] = false := by with_unfolding_all rfl) : PT X (.Compare a [op, op'] [b, c] pos) (tTest (tChain r r' ta tb tc)) := by
  intro pins s σ H Q I h
  refine isTrue_chain (thn (ha pins s σ H _ I h) fun v s1 ⟨x, H1, I1, r1, q1⟩ => test_link (thn (hb pins s1 σ H1 _ I1 q1) fun u s2 ⟨y, H2, I2, r2, q2⟩ =>
    thn (ho pins s2 σ H2 x y v u _ I2 r1 r2 q2) fun d s3 ⟨z, H3, I3, r3, k, e, q3⟩ => ?_)) hm
  subst e
  cases r3
  refine wpAny_truthy_bool ?_
  cases k with
  | false =>
    obtain ⟨k', e', q'⟩ := q3
    cases e'
    exact ite_ff ⟨H3, I3, q'⟩
  | true =>
    refine ite_tt (test_last (thn (hc pins s3 σ H3 _ I3 q3) fun w' s4 ⟨z', H4, I4, r4, q4⟩ => thn (ho' pins s4 σ H4 y z' u w' _ I4 r2 r4 q4) fun d' s5 ⟨z2, H5, I5, r5, k2, e2, q5⟩ => ?_))
    subst e2
    cases r5
    exact wpAny_truthy_bool ⟨H5, I5, q5⟩

/-! ### truth -/
/-- a value's truth by the abstract heap -/
def TruV (K : PySem.W.Frag) (x : V) (H : Hp) (k : Bool) : Prop :=
  match x with
  | .non => k = false
  | .bl b => k = b
  | .int i => k = (i != 0)
  | .str y => y.length ≤ sizeLine ∧ k = ((y.length : Int) != 0)
  | .byt y => y.size ≤ sizeLine ∧ k = ((y.size : Int) != 0)
  | .ref p => (∃ xs, SqL K H p xs ∧ k = !xs.isEmpty) ∨ (∃ xs, SqT K H p xs ∧ k = !xs.isEmpty) ∨ ∃ kvs, H p = some (.dK kvs) ∧ k = !kvs.isEmpty
  | _ => False
theorem isEmpty_kv {κ : Type} {kvs : List (κ × V)} {vs : List (κ × Value)} (r : KV kvs vs) : (!vs.isEmpty) = !kvs.isEmpty := by
  cases r <;> rfl
theorem isEmpty_of {xs : List V} {its : List Value} (r : Vals xs its) : (!its.toArray.isEmpty) = !xs.isEmpty := by
  cases r <;> simp
theorem line63 : (sizeLine : Nat) < 2 ^ 63 := by rw [sizeLine_eq]; decide
theorem tru_ok : TruR X (fun x H Q => ∃ k, TruV X.K x H k ∧ Q k H) := by
  intro pins s σ H x v Q I rx h
  obtain ⟨k, e, q⟩ := h
  have hl := line63
  have hs : sizeLine = 16777216 := sizeLine_eq
  cases x with
  | non =>
    cases rx
    have e' : k = false := e
    subst e'
    exact truthy_none ⟨H, I, q⟩
  | bl b =>
    cases rx
    have e' : k = b := e
    subst e'
    exact wpAny_truthy_bool ⟨H, I, q⟩
  | int i =>
    obtain ⟨t, rfl⟩ := rx
    have e' : k = (i != 0) := e
    subst e'
    exact PySem.P.truthy_int ⟨H, I, q⟩
  | str y =>
    obtain ⟨t, rfl⟩ := rx
    obtain ⟨hy, e'⟩ : y.length ≤ sizeLine ∧ k = ((y.length : Int) != 0) := e
    subst e'
    exact PySem.P.truthy_str (by omega) ⟨H, I.tok _, q⟩
  | byt y =>
    obtain ⟨t, rfl⟩ := rx
    obtain ⟨hy, e'⟩ : y.size ≤ sizeLine ∧ k = ((y.size : Int) != 0) := e
    subst e'
    exact PySem.W.truthy_bytes (by omega) ⟨H, I.tok _, q⟩
  | ref p =>
    cases rx
    have e' : (∃ xs, SqL X.K H p xs ∧ k = !xs.isEmpty) ∨ (∃ xs, SqT X.K H p xs ∧ k = !xs.isEmpty) ∨ ∃ kvs, H p = some (.dK kvs) ∧ k = !kvs.isEmpty := e
    rcases e' with ⟨xs, hx, e'⟩ | ⟨xs, hx, e'⟩ | ⟨kvs, hx, e'⟩
    · subst e'
      obtain ⟨its, r, pl, hz⟩ := I.list hx
      have hlen := r.length
      exact wpAny_truthy_list pl.isList (by simp only [List.size_toArray]; omega) ⟨H, I.tok _, by rw [isEmpty_of r]; exact q⟩
    · subst e'
      obtain ⟨its, r, pl, hz⟩ := I.tuple hx
      have hlen := r.length
      exact truthy_tuple pl (by simp only [List.size_toArray]; omega) ⟨H, I.tok _, by rw [isEmpty_of r]; exact q⟩
    · subst e'
      obtain ⟨hz, hS, vs, r, m⟩ : kvs.length ≤ sizeLine ∧ (p == sysModules) = false ∧ ∃ vs, KV kvs vs ∧ s.heap.DictOf (mixKind X.prog X.w) p vs := I.hok p _ hx
      have hlen : kvs.length = vs.length := Paired.length r
      exact wpAny_truthy_dict hS m (by omega) ⟨H, I.tok _, by rw [isEmpty_kv r]; exact q⟩
  | _ => exact (show False from e).elim
/-- any expression whose test is its value's truth (a name, a call, a subscript, a field ..: he by fun _ => rfl) -/
theorem pt_truth (ha : PE X a ta) (he : ∀ whole, isTrue a X.env whole = (do let v ← whole; standAt a.pos; holding [v] (truthy v))) :
    PT X a (fun σ H Q => ta σ H fun x H' => ∃ k, TruV X.K x H' k ∧ Q k H') := by
  intro pins s σ H Q I h
  exact isTrue_plain (thn (ha pins s σ H _ I h) fun v s1 ⟨x, H1, I1, r1, q1⟩ => tru_ok pins s1 σ H1 x v Q I1 r1 q1) (he _)

/-! ### strs and bytes -/
theorem op_add_str : OpR X (binaryOp .Add) (fun x y H Q => ∃ i j, x = .str i ∧ y = .str j ∧ i.length + j.length ≤ sizeLine ∧ Q (.str (i ++ j)) H) := by
  intro pins s σ H x y v u Q I rx ry h
  obtain ⟨i, j, rfl, rfl, hz, q⟩ := h
  obtain ⟨t, rfl⟩ := rx
  obtain ⟨t', rfl⟩ := ry
  exact add_str (fun t' tk => ⟨.str (i ++ j), H, I.tok _, ⟨_, rfl⟩, q⟩) hz
def PlainIxT (b : Expr) : Prop := ∀ o i, subscripted b false o i = operate [o, i] (getItem o i)
/-! ### scalar builtins, by CallR -/
theorem vals1 {x : V} {us : List Value} (r : Vals [x] us) : ∃ u, us = [u] ∧ RelV x u := by
  cases r with
  | cons r1 r2 => cases r2; exact ⟨_, rfl, r1⟩
theorem vals2 {x y : V} {us : List Value} (r : Vals [x, y] us) : ∃ u w', us = [u, w'] ∧ RelV x u ∧ RelV y w' := by
  cases r with
  | cons r1 r2 =>
    cases r2 with
    | cons r3 r4 => cases r4; exact ⟨_, _, rfl, r1, r3⟩
theorem call_abs : CallR X (.builtin "abs") (fun xs H Q => ∃ i, xs = [.int i] ∧ Q (.int (if i < 0 then -i else i)) H) := by
  intro pins s σ H xs us Q I r h
  obtain ⟨i, rfl, q⟩ := h
  obtain ⟨u, rfl, t, rfl⟩ := vals1 r
  exact call_abs_int fun u tk => ⟨.int (if i < 0 then -i else i), H, I.tok _, ⟨_, rfl⟩, q⟩
theorem call_max2 (hc : X.calm = true) : CallR X (.builtin "max") (fun xs H Q => ∃ i j, xs = [.int i, .int j] ∧ Q (.int (if j > i then j else i)) H) := by
  intro pins s σ H xs us Q I r h
  obtain ⟨i, j, rfl, q⟩ := h
  obtain ⟨u, w', rfl, ⟨t, rfl⟩, ⟨t', rfl⟩⟩ := vals2 r
  refine max_two_ints (I.ok.hd hc) fun h' tk k => ⟨_, H, I.kept k, ?_, q⟩
  by_cases hj : j > i
  · rw [if_pos hj, if_pos hj]; exact ⟨_, rfl⟩
  · rw [if_neg hj, if_neg hj]; exact ⟨_, rfl⟩
theorem call_min2 (hc : X.calm = true) : CallR X (.builtin "min") (fun xs H Q => ∃ i j, xs = [.int i, .int j] ∧ Q (.int (if j < i then j else i)) H) := by
  intro pins s σ H xs us Q I r h
  obtain ⟨i, j, rfl, q⟩ := h
  obtain ⟨u, w', rfl, ⟨t, rfl⟩, ⟨t', rfl⟩⟩ := vals2 r
  refine min_two_ints (I.ok.hd hc) fun h' tk k => ⟨_, H, I.kept k, ?_, q⟩
  by_cases hj : j < i
  · rw [if_pos hj, if_pos hj]; exact ⟨_, rfl⟩
  · rw [if_neg hj, if_neg hj]; exact ⟨_, rfl⟩
/-- len of a str, a bytes, a list, a tuple -/
def LenV (K : PySem.W.Frag) (x : V) (H : Hp) (n : Nat) : Prop :=
  match x with
  | .str y => y.length ≤ sizeLine ∧ n = y.length
  | .byt y => y.size ≤ sizeLine ∧ n = y.size
  | .ref p => (∃ xs, SqL K H p xs ∧ n = xs.length) ∨ ∃ xs, SqT K H p xs ∧ n = xs.length
  | _ => False
end
end L2

namespace L2
open PySem PySem.Spec PyProof.Rows

/-! ### an instance, its attributes a map -/
structure ObjM (h : Heap) (x dx C : Addr) (mA : Str → Option Value) : Prop where
  obj : h.get? x = some (PySem.W.instObj C dx)
  ns : h.Ns1 dx mA
  ne : dx ≠ x

theorem lookIn_ns {h : Heap} {dx : Addr} {mA : Str → Option Value} (n : h.Ns1 dx mA) : ∃ od, h.get? dx = some od ∧ ∀ name, PySem.W.lookIn name od = some (mA name) := by
  obtain ⟨o, es, ep, ho, hd, hk, _, hm⟩ := n
  refine ⟨o, ho, fun name => ?_⟩
  have e := hm name
  unfold nsFind findBy at e
  rw [← Array.find?_toList] at e
  unfold PySem.W.lookIn
  rw [hd]
  dsimp only
  split
  · rename_i y q
    rw [q] at e
    exact congrArg some e
  · rename_i q
    rw [q] at e
    have a : es.toList.any (·.refKey) = false := by
      rw [List.any_eq_false]
      intro y hy
      obtain ⟨z, t, hkey⟩ := hk y (Array.mem_toList_iff.mp hy)
      simp [DictEntry.refKey, hkey]
    have a' : ¬ es.toList.any (·.refKey) = true := by rw [a]; exact Bool.false_ne_true
    rw [if_neg a']
    exact congrArg some e

theorem ObjM.look {h : Heap} {x dx C : Addr} {mA : Str → Option Value} (I : ObjM h x dx C mA) : ∃ od, PySem.W.InstAt h x (PySem.W.instObj C dx) C (some od) ∧ ∀ name, PySem.W.lookIn name od = some (mA name) :=
  let ⟨od, ho, hl⟩ := lookIn_ns I.ns
  ⟨od, ⟨I.obj, rfl, rfl, ho⟩, hl⟩

section
variable {prog : Program} {w : World} {A : Around} {E : Value → Shared → Prop} {s : Shared} {K : PySem.W.Frag} {x dx C f : Addr} {mA : Str → Option Value} {name : Str} {v : Value}

end

/-! ### the attributes as a list of pairs -/
def putF (f : Str) (v : V) : List (Str × V) → List (Str × V)
  | [] => [(f, v)]
  | (g, x) :: r => if g = f then (g, v) :: r else (g, x) :: putF f v r
theorem RelO.some_of {v : V} {o : Option Value} (r : RelO (some v) o) : ∃ u, o = some u ∧ RelV v u := by
  cases o with
  | none => exact (show False from r).elim
  | some u => exact ⟨u, rfl, r⟩
section
variable {P : Program} {w : World} {H H' : Hp} {h h' : Heap} {a C dx : Addr} {fs fs' : List (Str × V)}
theorem ins_get (hok : HOk P w H h) (e : H a = some (.ins C dx fs)) : ∃ mA, ObjM h a dx C mA ∧ (∀ f, RelO (fs.lookup f) (mA f)) ∧ PySem.Within mA (fs.map (·.1)) ∧ fs.length ≤ 1000 ∧ H dx = some (.own a) := by
  obtain ⟨d, z, ne, ob, mA, n, r, q⟩ := (show ObjOk P w H h a (.ins C dx fs) from hok a _ e)
  exact ⟨mA, ⟨ob, n, ne⟩, r, q, z, d⟩
end

/-! ### what of the text a class must have -/
structure Cls (K : PySem.W.Frag) (C : Addr) : Prop where
  pg : PySem.W.plainGet K C Str.empty = true
  hd : PySem.W.hasDictIn K C = true
  po : PySem.W.plainOver K C = true
  sa : PySem.W.findIn K (.ref C) "__setattr__" = some (some (.builtin "object.__setattr__"))
theorem Cls.get {K : PySem.W.Frag} {C : Addr} (c : Cls K C) (f : Str) : PySem.W.plainGet K C f = true := c.pg
/-- no class of it has the name -/
def NoAttr (K : PySem.W.Frag) (C : Addr) (f : Str) : Prop := PySem.W.findIn K (.ref C) f = some none
/-- a constant of the class -/
structure Con (K : PySem.W.Frag) (C : Addr) (f : Str) (v : V) (u : Value) : Prop where
  at_ : PySem.W.findIn K (.ref C) f = some (some u)
  rel : RelV v u
  get : PySem.W.specialIn K u "__get__" = some none
  cp : PySem.W.copiedNames.contains f = false
/-- a method: a plain def of the class or of one above it -/
structure Meth (K : PySem.W.Frag) (C : Addr) (m : Str) (f : Addr) : Prop where
  at_ : PySem.W.findIn K (.ref C) m = some (some (.ref f))
  fn : PySem.W.isFn K (.ref f) = true
  kp : PySem.W.keepIn K (.ref f) = true

section
variable {X : Cx} {pins : List (Addr × Obj)} {σ : St} {H : Hp} {s : Shared} {a C dx : Addr} {fs : List (Str × V)} {f : Str} {v : V} {A : Around} {E : Value → Shared → Prop}

/-- a new instance, tracked, without attributes -/
theorem Inv.made (I : Inv X pins σ H s) : Inv X pins σ (upd (upd H s.heap.objs.size (.own (s.heap.objs.size + 1))) (s.heap.objs.size + 1) (.ins C s.heap.objs.size []))
    { s with heap := (s.heap.push PySem.W.emptyDict).push (PySem.W.instObj C s.heap.objs.size) } := by
  have e1 : (s.heap.push PySem.W.emptyDict).get? s.heap.objs.size = some PySem.W.emptyDict := Heap.get?_push_size s.heap rfl
  have e2 : ((s.heap.push PySem.W.emptyDict).push (PySem.W.instObj C s.heap.objs.size)).get? (s.heap.objs.size + 1) = some (PySem.W.instObj C s.heap.objs.size) := by
    have := Heap.get?_push_size (s.heap.push PySem.W.emptyDict) (o := PySem.W.instObj C s.heap.objs.size) rfl
    rwa [Heap.size_push] at this
  have e3 : (s.heap.push PySem.W.emptyDict).Ns s.heap.objs.size (fun _ => none) := ⟨PySem.W.emptyDict, #[], _, e1, rfl, (fun e he => absurd he (by simp)), fun _ => rfl⟩
  have I1 := I.laid (a := s.heap.objs.size) (o := .own (s.heap.objs.size + 1)) (h' := s.heap.push PySem.W.emptyDict) (t' := s.toks) (fun b u q => Heap.get?_push_of_some _ q) (Nat.le_refl _) ⟨_, e1⟩
  refine I1.laid (a := s.heap.objs.size + 1) (o := .ins C s.heap.objs.size []) (t' := s.toks) (fun b u q => Heap.get?_push_of_some _ q) (Nat.le_of_eq (Heap.size_push _ _)) ?_
  have ne : s.heap.objs.size ≠ s.heap.objs.size + 1 := Nat.ne_of_lt (Nat.lt_succ_self _)
  refine ⟨by rw [upd_ne ne, upd_same], Nat.zero_le _, ne, e2, fun _ => none, (Heap.Ns1.of_empty e3).at fun o q => Heap.get?_push_of_some _ q, fun _ => True.intro, fun y hy => absurd rfl hy⟩

end

/-! ### readings and rules -/
/-- e.f, an attribute of the instance -/
def tFld (K : PySem.W.Frag) (ta : TE) (f : Str) : TE := fun σ H Q => ta σ H fun x H1 => ∃ a C dx fs v, x = .ref a ∧ H1 a = some (.ins C dx fs) ∧ Cls K C ∧ NoAttr K C f ∧ fs.lookup f = some v ∧ Q v H1
/-- e.f, a constant of the class -/
def tCon (K : PySem.W.Frag) (ta : TE) (f : Str) : TE := fun σ H Q => ta σ H fun x H1 => ∃ a C dx fs v u, x = .ref a ∧ H1 a = some (.ins C dx fs) ∧ Cls K C ∧ Con K C f v u ∧ fs.lookup f = none ∧ Q v H1
/-- e.f = value -/
def sFld (K : PySem.W.Frag) (ta tv : TE) (f : Str) : TS := fun D σ H => tv σ H fun y H1 => ta σ H1 fun x H2 => ∃ a C dx fs, x = .ref a ∧ H2 a = some (.ins C dx fs) ∧ Cls K C ∧ NoAttr K C f ∧ fs.length < 1000 ∧
  D.nx σ (upd H2 a (.ins C dx (putF f y fs)))
/-- an augmented operator on two values -/
def InOp (X : Cx) (op : Operator) (rd : V → V → Hp → VK → Prop) : Prop :=
  ∀ (pins : List (Addr × Obj)) (s : Shared) (σ : St) (H : Hp) (x y : V) (u v : Value) (Q : VK), Inv X pins σ H s → RelV x u → RelV y v → rd x y H Q → wpAny (model X.prog X.w) X.A (inplaceOp op u v) (EP X pins σ Q) X.xe s
/-- e.f op= value -/
def sFldAug (K : PySem.W.Frag) (ta tv : TE) (rd : V → V → Hp → VK → Prop) (f : Str) : TS := fun D σ H => ta σ H fun x H1 => ∃ a C dx fs v, x = .ref a ∧ H1 a = some (.ins C dx fs) ∧ Cls K C ∧ NoAttr K C f ∧ fs.lookup f = some v ∧
  tv σ H1 fun y H2 => rd v y H2 fun z H3 => ∃ dx' fs', H3 a = some (.ins C dx' fs') ∧ fs'.length < 1000 ∧ D.nx σ (upd H3 a (.ins C dx' (putF f z fs')))

section
variable {X : Cx} {o e value : Expr} {f : Str} {pos pos' tpos : Pos} {ta tv : TE}
def rAdd : V → V → Hp → VK → Prop := fun x y H Q => ∃ i j, x = .int i ∧ y = .int j ∧ Q (.int (i + j)) H
def rSub : V → V → Hp → VK → Prop := fun x y H Q => ∃ i j, x = .int i ∧ y = .int j ∧ Q (.int (i - j)) H
end

/-! ### isinstance -/
section
variable {X : Cx} {pins : List (Addr × Obj)} {σ : St} {H : Hp} {s : Shared} {A : Around} {E : Value → Shared → Prop} {Q : Value → Shared → Prop} {c : Value} {b : Bool}
/-- the type of a value, as the fragment's deciders take it; for an instance its class -/
inductive TyOf (K : PySem.W.Frag) (H : Hp) : V → Value → Prop where
  | non : TyOf K H .non (.type "NoneType")
  | bl (x : Bool) : TyOf K H (.bl x) (.type "bool")
  | int (i : Int) : TyOf K H (.int i) (.type "int")
  | str (x : Str) : TyOf K H (.str x) (.type "str")
  | flt (x : UInt64) : TyOf K H (.flt x) (.type "float")
  | lst {a : Addr} {xs : List V} (e : H a = some (.lst xs)) : TyOf K H (.ref a) (.type "list")
  | frz {a : Addr} {o : Obj} {xs : List V} (e : H a = some (.frz o (.lst xs))) : TyOf K H (.ref a) (.type "list")
  | tup {a : Addr} {xs : List V} (e : H a = some (.tup xs)) : TyOf K H (.ref a) (.type "tuple")
  | dK {a : Addr} {kvs : List (Key × V)} (e : H a = some (.dK kvs)) : TyOf K H (.ref a) (.type "dict")
  | dT {a : Addr} {kvs : List (List Key × V)} (e : H a = some (.dT kvs)) : TyOf K H (.ref a) (.type "dict")
  | ins {a C dx : Addr} {fs : List (Str × V)} (e : H a = some (.ins C dx fs)) (cl : Cls K C) (ha : PySem.W.findIn K (.ref C) "__class__" = some (some (.builtin "object.__class__")))
      (hn : PySem.W.specialIn K (.builtin "object.__class__") "__get__" = some (some (.builtin "getset_descriptor.__get__"))) (htk : PySem.W.takesIn K (.builtin "object.__class__") = some true)
      (hm : PySem.W.mroIn K C (.type "object") = some true) : TyOf K H (.ref a) (.ref C)
/-- isinstance(x, c) for one class c, a built-in or an own one: kitOne's answer -/
theorem isinst_ok {x : V} {u t : Value} (I : Inv X pins σ H s) (rx : RelV x u) (ty : TyOf X.K H x t) (e : PySem.W.kitOne X.K t c = some b) (h : ∀ tk, Q (.bool b) { s with toks := tk }) :
    wpAny (model X.prog X.w) A (call (.builtin "isinstance") [u, c]) Q E s := by
  cases ty with
  | non => cases (show u = Value.none from rx); exact PySem.W.kia_one PySem.W.kitx_none I.kIn True.intro e (fun z => nomatch z) h
  | bl y => cases (show u = Value.bool y from rx); exact PySem.W.kia_one PySem.W.kitx_bool I.kIn True.intro e (fun z => nomatch z) h
  | int i => obtain ⟨t, q⟩ := (show ∃ t, u = Value.int i t from rx); cases q; exact PySem.W.kia_one PySem.W.kitx_int I.kIn True.intro e (fun z => nomatch z) h
  | str y => obtain ⟨t, q⟩ := (show ∃ t, u = Value.str y t from rx); cases q; exact PySem.W.kia_one PySem.W.kitx_str I.kIn True.intro e (fun z => nomatch z) h
  | flt y => obtain ⟨t, q⟩ := (show ∃ t, u = Value.float y t from rx); cases q; exact PySem.W.kia_one PySem.W.kitx_float I.kIn True.intro e (fun z => nomatch z) h
  | @lst a xs ea =>
    cases (show u = Value.ref a from rx)
    obtain ⟨_, _, n, _, h1⟩ := (show ObjOk X.prog X.w H s.heap a (.lst xs) from I.hok a _ ea)
    exact PySem.W.kia_one PySem.W.kitx_list I.kIn ⟨_, h1, rfl⟩ e (fun z => nomatch z) h
  | @frz a ob xs ea =>
    cases (show u = Value.ref a from rx)
    obtain ⟨_, _, _, n, _, h1⟩ := (show ObjOk X.prog X.w H s.heap a (.frz ob (.lst xs)) from I.hok a _ ea)
    exact PySem.W.kia_one PySem.W.kitx_list I.kIn ⟨_, h1, rfl⟩ e (fun z => nomatch z) h
  | @tup a xs ea =>
    cases (show u = Value.ref a from rx)
    obtain ⟨_, _, _, p⟩ := (show ObjOk X.prog X.w H s.heap a (.tup xs) from I.hok a _ ea)
    obtain ⟨o, h1, h2, _⟩ := p
    exact PySem.W.kia_one PySem.W.kitx_tuple I.kIn ⟨o, h1, h2⟩ e (fun z => nomatch z) h
  | @dK a kvs ea =>
    cases (show u = Value.ref a from rx)
    obtain ⟨_, _, vs, _, p⟩ := (show ObjOk X.prog X.w H s.heap a (.dK kvs) from I.hok a _ ea)
    obtain ⟨o, es, ep, h1, h2, _⟩ := p
    exact PySem.W.kia_one PySem.W.kitx_dict I.kIn ⟨o, h1, h2.1⟩ e (fun z => nomatch z) h
  | @dT a kvs ea =>
    cases (show u = Value.ref a from rx)
    obtain ⟨_, _, xs, _, o, es, ep, h1, h2, _⟩ := (show ObjOk X.prog X.w H s.heap a (.dT kvs) from I.hok a _ ea)
    exact PySem.W.kia_one PySem.W.kitx_dict I.kIn ⟨o, h1, h2.1⟩ e (fun z => nomatch z) h
  | @ins a C dx fs ea cl ha hn htk hm =>
    cases (show u = Value.ref a from rx)
    obtain ⟨mA, O, _⟩ := ins_get I.hok ea
    obtain ⟨od, J, _⟩ := O.look
    exact PySem.W.kia_one (PySem.W.kitx_own (cl.get _) cl.hd ha hn htk hm) I.kIn J e (fun z => nomatch z) h
end
end L2

namespace L2
open PySem PySem.Spec PyProof.Rows

/-! ### room -/
structure Room (k : Nat) (A : Around) : Prop where
  hd : A.handled = none
  dp : A.depth + 3 * k + 5 < recursionLimit
  un : A.units + 16 * k + 200 < cLine
  gd : A.guards = some []
theorem Room.mono {j k : Nat} {A : Around} (r : Room k A) (h : j ≤ k) : Room j A := ⟨r.hd, by have := r.dp; omega, by have := r.un; omega, r.gd⟩
theorem Room.deeper {k : Nat} {A : Around} (r : Room (k + 1) A) (env : Env) : Room k (A.deeper env) :=
  ⟨r.hd, by have := r.dp; show A.depth + 1 + 3 * k + 5 < _; omega, by have := r.un; show A.units + 3 + 16 * k + 200 < _; omega, by first | exact r.gd | simp [Around.deeper, r.gd]⟩
theorem Room.in1 {k : Nat} {A : Around} (r : Room (k + 1) A) : Room k A.in1 :=
  ⟨r.hd, by have := r.dp; show A.depth + 3 * k + 5 < _; omega, by have := r.un; show A.units + 1 + 16 * k + 200 < _; omega, r.gd⟩
theorem Room.depth {k : Nat} {A : Around} (r : Room k A) : A.depth < recursionLimit := by have := r.dp; omega
theorem Room.units {k : Nat} {A : Around} (r : Room k A) : A.units + 64 < cLine := by have := r.un; omega
/-! ### argument lists and displays -/
def tNil : TA := fun _ H Q => Q [] H
def tCons (ta : TE) (tr : TA) : TA := fun σ H Q => ta σ H fun x H1 => tr σ H1 fun xs H2 => Q (x :: xs) H2
section
variable {X : Cx} {e : Expr} {es : List Expr} {te : TE} {t : TA} {pos : Pos}
theorem pa_nil : PA X [] tNil := fun _ _ _ _ H Q I h => Calls.spliced_nil ⟨[], H, I, .nil, h⟩
theorem pa_cons (ha : PE X e te) (hr : PA X es t) (hs : starEach (e :: es) X.env = (false, eval e X.env) :: starEach es X.env := by rfl) : PA X (e :: es) (tCons te t) := by
  intro pos pins s σ H Q I h
  rw [hs]
  show wpAny _ _ (spliced ((false, eval e X.env) :: backTo pos (starEach es X.env))) _ _ s
  refine Calls.spliced_cons (thn (ha pins s σ H _ I h) fun u s1 ⟨x, H1, I1, r1, q1⟩ => ?_)
  exact thn (hr pos pins s1 σ H1 _ I1 q1) fun us s2 ⟨xs, H2, I2, r2, q2⟩ => ⟨x :: xs, H2, I2, .cons r1 r2, q2⟩

/-- a tuple, a list of written items -/
def tTup (t : TA) : TE := fun σ H Q => t σ H fun xs H1 => xs.length ≤ sizeLine ∧ ∀ p, H1 p = none → Q (.ref p) (upd H1 p (.tup xs))
def tLst (t : TA) : TE := fun σ H Q => t σ H fun xs H1 => xs.length ≤ sizeLine ∧ ∀ p, H1 p = none → Q (.ref p) (upd H1 p (.lst xs))
theorem pe_tup {x1} (h : PA X es t) : PE X (.Tuple es x1 pos) (tTup t) := by
  intro pins s σ H Q I hq
  refine wpAny_Tuple_spliced (thn (h pos pins s σ H _ I hq) fun us s1 ⟨xs, H1, I1, r, z, q⟩ => ⟨by rw [← r.length]; exact z, ?_⟩)
  have hf : H1 s1.heap.objs.size = none := I1.hok.fresh (Nat.le_refl _)
  refine ⟨.ref s1.heap.objs.size, upd H1 s1.heap.objs.size (.tup xs), I1.laid (t' := s1.toks) (fun b u e => Heap.get?_push_of_some _ e) (Nat.le_refl _) ?_, rfl, q _ hf⟩
  exact ⟨z, us, r, ⟨_, Heap.get?_push_size _ rfl, rfl, _, rfl, rfl⟩⟩
theorem pe_lst (h : PA X es t) : PE X (.List es pos) (tLst t) := by
  intro pins s σ H Q I hq
  refine wpAny_List_spliced (thn (h pos pins s σ H _ I hq) fun us s1 ⟨xs, H1, I1, r, z, q⟩ => ⟨by rw [← r.length]; exact z, ?_⟩)
  have hf : H1 s1.heap.objs.size = none := I1.hok.fresh (Nat.le_refl _)
  refine ⟨.ref s1.heap.objs.size, upd H1 s1.heap.objs.size (.lst xs), I1.laid (t' := s1.toks) (fun b u e => Heap.get?_push_of_some _ e) (Nat.le_refl _) ?_, rfl, q _ hf⟩
  exact ⟨z, us, 0, r, Heap.get?_push_size _ rfl⟩
end

/-! ### what a def promises -/
/-- a def's promise: the bound arguments in the parameters' order, the heap, the wanted end, the wanted exception -/
abbrev Sp := List V → Hp → VK → XK → Prop
/-- how an exception lies behind a call (file 08 gives it): the callers' frames, abstract heap and state ahead of the call, the wish, the exception, the state -/
abbrev CXT := List Env → Hp → Shared → XK → Value → Shared → Prop

/-- the state at a call -/
structure Env0 (P : Program) (w : World) (K : PySem.W.Frag) (mg : Str → Option Value) (base : Heap) (A : Around) (outer : List Env) (s : Shared) (H : Hp) : Prop where
  frames : A.frames = some outer
  mod : Mod K mg base
  bs : ∀ b o, base.get? b = some o → s.heap.get? b = some o ∧ H b = none
  bsz : base.objs.size ≤ s.heap.objs.size
  funs : s.heap.FunFrames base outer
  frf : ∀ b ∈ frs outer, H b = none
  hok : HOk P w H s.heap
  bare : AllBare s.gens
/-- a call's end -/
def CE (outer : List Env) (P : Program) (w : World) (H : Hp) (s : Shared) (Q : VK) (u : Value) (s' : Shared) : Prop :=
  ∃ v H', s'.os = s.os ∧ AllBare s'.gens ∧ Un (frs outer) [] H H' s.heap s'.heap ∧ HOk P w H' s'.heap ∧ RelV v u ∧ Q v H'
def CR (CX : CXT) (outer : List Env) (P : Program) (w : World) (H : Hp) (s : Shared) (Q : VK) (E : XK) (r : Result) (s' : Shared) : Prop :=
  match r with
  | .ok (.ret u) => CE outer P w H s Q u s'
  | .ok _ => False
  | .error e => CX outer H s E e s'
structure FnOk (P : Program) (w : World) (K : PySem.W.Frag) (mg : Str → Option Value) (base : Heap) (CX : CXT) (k : Nat) (f : Addr) (fd : FuncData) (ps : List Str) (sp : Sp) : Prop where
  len : ∀ vs H Q E, sp vs H Q E → vs.length = ps.length
  run : ∀ (A : Around) (outer : List Env) (s : Shared) (H : Hp) (args : Args) (us : List Value) (vs : List V) (Q : VK) (E : XK), Room k A → Env0 P w K mg base A outer s H → BindsTo s fd args (ps.zip us) → Vals vs us → sp vs H Q E →
    codeAny (model P w) A (.call (.ref f) args) (CR CX outer P w H s Q E) s
theorem FnOk.mono {P : Program} {w : World} {K : PySem.W.Frag} {mg : Str → Option Value} {base : Heap} {CX : CXT} {j k : Nat} {f : Addr} {fd : FuncData} {ps : List Str} {sp : Sp} (F : FnOk P w K mg base CX j f fd ps sp) (h : j ≤ k) :
    FnOk P w K mg base CX k f fd ps sp := ⟨F.len, fun A outer s H args us vs Q E hr => F.run A outer s H args us vs Q E (hr.mono h)⟩
/-- a weaker promise -/
theorem FnOk.imp {P : Program} {w : World} {K : PySem.W.Frag} {mg : Str → Option Value} {base : Heap} {CX : CXT} {k : Nat} {f : Addr} {fd : FuncData} {ps : List Str} {sp sp' : Sp} (F : FnOk P w K mg base CX k f fd ps sp)
    (h : ∀ vs H Q E, sp' vs H Q E → sp vs H Q E) : FnOk P w K mg base CX k f fd ps sp' :=
  ⟨fun vs H Q E q => F.len vs H Q E (h _ _ _ _ q), fun A outer s H args us vs Q E hr he hb hv hs => F.run A outer s H args us vs Q E hr he hb hv (h _ _ _ _ hs)⟩

theorem Env0.in1 {P : Program} {w : World} {K : PySem.W.Frag} {mg : Str → Option Value} {base : Heap} {A : Around} {outer : List Env} {s : Shared} {H : Hp} (e : Env0 P w K mg base A outer s H) :
    Env0 P w K mg base A.in1 outer s H := ⟨e.frames, e.mod, e.bs, e.bsz, e.funs, e.frf, e.hok, e.bare⟩

section
variable {X : Cx} {pins : List (Addr × Obj)} {σ : St} {H : Hp} {s s' : Shared}
/-- from a body: what a callee wants -/
theorem Inv.env0 (I : Inv X pins σ H s) : Env0 X.prog X.w X.K X.mg X.base X.A X.stack s H :=
  ⟨I.ok.frames, I.ok.mod, I.bs, Nat.le_trans I.ok.bsz I.sz, I.stack, I.stkFree, I.hok, I.bare⟩
/-- behind a call -/
theorem Inv.after {Q : VK} {u : Value} (I : Inv X pins σ H s) (h : CE X.stack X.prog X.w H s Q u s') : EP X pins σ Q u s' := by
  obtain ⟨v, H', os, bare, un, hok, r, q⟩ := h
  obtain ⟨hh, g, d, t, os'⟩ := s'
  obtain rfl : os' = s.os := os
  exact ⟨v, H', I.call (h' := hh) (g' := g) (d' := d) (t' := t) (ch := []) un hok bare (fun b z => absurd z (by simp)), r, q⟩
end

/-! ### calls -/
/-- f(..): the written arguments, then the defaults dvs; E: what is wanted of an exception -/
def tCall (sp : Sp) (dvs : List V) (E : XK) (t : TA) : TE := fun σ H Q => t σ H fun vs H1 => sp (vs ++ dvs) H1 Q E
/-- o.m(..) of an instance of the class at C -/
def tMeth (C : Addr) (m : Str) (sp : Sp) (dvs : List V) (E : XK) (ta : TE) (t : TA) : TE := fun σ H Q => ta σ H fun x H1 => ∃ a dx fs, x = .ref a ∧ H1 a = some (.ins C dx fs) ∧ fs.lookup m = none ∧
  t σ H1 fun vs H2 => sp (x :: (vs ++ dvs)) H2 Q E
/-- C(..): a new instance and its dict, then __init__ -/
def tMake (C : Addr) (sp : Sp) (dvs : List V) (E : XK) (t : TA) : TE := fun σ H Q => t σ H fun vs H1 => ∀ x dx, H1 x = none → H1 dx = none → dx ≠ x →
  sp (.ref x :: (vs ++ dvs)) (upd (upd H1 dx (.own x)) x (.ins C dx [])) (fun v H2 => v = .non ∧ Q (.ref x) H2) E

/-- how the parameters are bound: us the positional arguments, kw the keywords' values by name, ds the defaults that fill up -/
def Binds (K : PySem.W.Frag) (fd : FuncData) (ps : List Str) (ds : List Value) : Prop :=
  ∀ (s : Shared) (us : List Value), K.In s.heap → (us ++ ds).length = ps.length → BindsTo s fd ⟨us, []⟩ (ps.zip (us ++ ds))
/-- every parameter is given -/
theorem Binds.all {K : PySem.W.Frag} {fd : FuncData} {ps : List Str} (h : ∀ us : List Value, us.length = ps.length → bindArgs fd ⟨us, []⟩ = pure (ps.zip us)) : Binds K fd ps [] := fun s us _ hl => by
  rw [List.append_nil] at hl ⊢
  exact .of_eq (h us hl)

/-- an exception of a callee reaches what this body wants of exceptions -/
def Passes (CX : CXT) (X : Cx) (E : XK) : Prop := ∀ (pins : List (Addr × Obj)) (σ : St) (H : Hp) (s : Shared) (e : Value) (s' : Shared), Inv X pins σ H s → CX X.stack H s E e s' → X.xe e s'

section
variable {X : Cx} {CX : CXT} {k : Nat} {f C : Addr} {fd : FuncData} {ps : List Str} {sp : Sp} {dvs : List V} {ds : List Value} {E : XK} {x m : Str} {p pos apos : Pos} {e o : Expr} {es : List Expr} {ta : TE} {t : TA}

/-- the callee runs -/
theorem run_fn {pins : List (Addr × Obj)} {σ : St} {H : Hp} {s : Shared} {Q : VK} {us : List Value} {vs : List V} (F : FnOk X.prog X.w X.K X.mg X.base CX k f fd ps sp) (hr : Room k X.A) (hb : Binds X.K fd ps ds) (hd : Vals dvs ds) (hx : Passes CX X E)
    (I : Inv X pins σ H s) (r : Vals vs us) (h : sp (vs ++ dvs) H Q E) : wpAny (model X.prog X.w) X.A (call (.ref f) us) (EP X pins σ Q) X.xe s := by
  have r2 : Vals (vs ++ dvs) (us ++ ds) := r.append hd
  have hl : (us ++ ds).length = ps.length := by rw [← r2.length]; exact F.len _ _ _ _ h
  refine wpAny_call (codeAny_mono (F.run X.A X.stack s H ⟨us, []⟩ (us ++ ds) (vs ++ dvs) Q E hr I.env0 (hb s us I.kIn hl) r2 h) fun r s' hq => ?_)
  cases r with
  | error e => exact hx pins σ H s e s' I hq
  | ok fl =>
    cases fl with
    | ret u => exact I.after hq
    | next => exact False.elim hq
    | brk => exact False.elim hq
    | cont => exact False.elim hq

theorem pe_call (F : FnOk X.prog X.w X.K X.mg X.base CX k f fd ps sp) (hr : Room k X.A) (hg : Gl X x) (hm : X.mg x = some (.ref f)) (hk : PySem.W.keepIn X.K (.ref f) = true) (hb : Binds X.K fd ps ds) (hd : Vals dvs ds) (hx : Passes CX X E)
    (ha : PA X (e :: es) t) (hdb : (x == ("__debug__" : Str)) = false := by decide) (he : starEach (e :: es) X.env = (false, eval e X.env) :: starEach es X.env := by rfl) (hpl : (backTo pos (starEach es X.env)).any (·.1) = false := by rfl) :
    PE X (.Call (.Name x p) (e :: es) [] pos) (tCall sp dvs E t) := by
  intro pins s σ H Q I h
  refine wpAny_Call_Name_kw (ld_glob I hg hm ?_ hdb)
  refine PySem.W.callWith_K (h₀ := X.base) I.ok.mod.kin hk (thn (ha pos pins s σ H _ I h) fun us s1 ⟨vs, H1, I1, r, q⟩ => ⟨I1.kIn, ?_⟩) he hpl
  exact run_fn F hr hb hd hx I1 r q
/-- what a class must have to be made -/
structure Mk (K : PySem.W.Frag) (C f : Addr) : Prop where
  makes : PySem.W.makesIn K C = true
  init : PySem.W.findIn K (.ref C) "__init__" = some (some (.ref f))
  fn : PySem.W.isFn K (.ref f) = true
  kp : PySem.W.keepIn K (.ref C) = true

end

/-! ### keywords -/
/-- the values of the keywords, from the left -/
def PK (X : Cx) (kws : List Keyword) (t : TA) : Prop :=
  ∀ (pos : Pos) (pins : List (Addr × Obj)) (s : Shared) (σ : St) (H : Hp) (Q : List V → Hp → Prop), Inv X pins σ H s → t σ H Q → wpAny (model X.prog X.w) X.A (evalAll ((backToKw pos (keywordEach kws X.env)).map (·.2))) (AP X pins σ Q) X.xe s
section
variable {X : Cx} {CX : CXT} {k : Nat} {f C : Addr} {fd : FuncData} {ps ks : List Str} {sp : Sp} {E : XK} {x m : Str} {p pos apos kpos : Pos} {e o : Expr} {es : List Expr} {kws : List Keyword} {te ta : TE} {t tk : TA} {nm : Option Str}
/-- how a call with keywords binds: g puts the positional values us and the keywords' values ws (names ks) in the parameters' order, defaults among them -/
structure KBinds (K : PySem.W.Frag) (fd : FuncData) (ps ks : List Str) (g : List Value → List Value → List Value) (gV : List V → List V → List V) : Prop where
  to : ∀ (s : Shared) (us ws : List Value), K.In s.heap → (g us ws).length = ps.length → BindsTo s fd ⟨us, ks.zip ws⟩ (ps.zip (g us ws))
  rel : ∀ {vs : List V} {us : List Value} {zs : List V} {ws : List Value}, Vals vs us → Vals zs ws → Vals (gV vs zs) (g us ws)
def tCallK (sp : Sp) (gV : List V → List V → List V) (E : XK) (t tk : TA) : TE := fun σ H Q => t σ H fun vs H1 => tk σ H1 fun zs H2 => sp (gV vs zs) H2 Q E
variable {g : List Value → List Value → List Value} {gV : List V → List V → List V}
end

/-! ### a def's body keeps its promise -/
/-- names: the parameters first -/
structure FnScope (N P : List Str) (sc : Scope) : Prop where
  kind : sc.kind = .function
  co : sc.isCoroutine = false
  gen : sc.isGenerator = false
  nd : N.Nodup
  pre : N.take P.length = P
  par : ∀ x ∈ P, sc.names.lookup x = some .local ∨ sc.names.lookup x = some .cell
  nofree : ∀ y ∈ sc.names, y.2 ≠ .free

theorem bindL_out {kindOf : Str → Option NameKind} {x : Str} : ∀ {binds : List (Str × Value)} {m : Str → Option Value}, (∀ v, (x, v) ∉ binds) → bindL kindOf binds m x = m x
  | [], _, _ => rfl
  | (n, v) :: r, m, h => by
    unfold bindL
    rw [bindL_out fun w hw => h w (List.mem_cons_of_mem _ hw)]
    split
    · have : x ≠ n := by rintro rfl; exact h v List.mem_cons_self
      simp [this]
    · rfl
theorem bindC_out {kindOf : Str → Option NameKind} {x : Str} : ∀ {binds : List (Str × Value)} {m : Str → Option Value}, (∀ v, (x, v) ∉ binds) → bindC kindOf binds m x = m x
  | [], _, _ => rfl
  | (n, v) :: r, m, h => by
    unfold bindC
    rw [bindC_out fun w hw => h w (List.mem_cons_of_mem _ hw)]
    split
    · rfl
    · have : x ≠ n := by rintro rfl; exact h v List.mem_cons_self
      simp [this]
theorem bindL_get {kindOf : Str → Option NameKind} {x : Str} {v : Value} : ∀ {P : List Str} {vs : List Value} {i : Nat} {m : Str → Option Value}, P.Nodup → P[i]? = some x → vs[i]? = some v → kindOf x = some .local →
    bindL kindOf (P.zip vs) m x = some v
  | [], _, _, _, _, h, _, _ => by simp at h
  | _ :: _, [], _, _, _, _, h, _ => by simp at h
  | p :: P, w :: vs, 0, m, nd, h1, h2, hk => by
    simp at h1 h2; subst h1; subst h2
    show bindL kindOf ((p, w) :: P.zip vs) m p = _
    unfold bindL
    rw [bindL_out fun v hv => (List.nodup_cons.mp nd).1 (List.of_mem_zip hv).1, if_pos hk]
    simp
  | p :: P, w :: vs, i + 1, m, nd, h1, h2, hk => by
    show bindL kindOf ((p, w) :: P.zip vs) m x = _
    unfold bindL
    exact bindL_get (i := i) (List.nodup_cons.mp nd).2 (by simpa using h1) (by simpa using h2) hk
theorem bindC_get {kindOf : Str → Option NameKind} {x : Str} {v : Value} : ∀ {P : List Str} {vs : List Value} {i : Nat} {m : Str → Option Value}, P.Nodup → P[i]? = some x → vs[i]? = some v → kindOf x ≠ some .local →
    bindC kindOf (P.zip vs) m x = some v
  | [], _, _, _, _, h, _, _ => by simp at h
  | _ :: _, [], _, _, _, _, h, _ => by simp at h
  | p :: P, w :: vs, 0, m, nd, h1, h2, hk => by
    simp at h1 h2; subst h1; subst h2
    show bindC kindOf ((p, w) :: P.zip vs) m p = _
    unfold bindC
    rw [bindC_out fun v hv => (List.nodup_cons.mp nd).1 (List.of_mem_zip hv).1, if_neg hk]
    simp
  | p :: P, w :: vs, i + 1, m, nd, h1, h2, hk => by
    show bindC kindOf ((p, w) :: P.zip vs) m x = _
    unfold bindC
    exact bindC_get (i := i) (List.nodup_cons.mp nd).2 (by simpa using h1) (by simpa using h2) hk

/-- the names' values at the entry -/
def start (N : List Str) (vs : List V) : St := vs.map some ++ List.replicate (N.length - vs.length) none

/-- the context of a def's body, at its entry; an exception leaves the frame, then lies as CX says -/
def cxOf (CX : CXT) (P : Program) (w : World) (K : PySem.W.Frag) (mg : Str → Option Value) (base : Heap) (N : List Str) (qual : Str) (scope : Scope) (f : Addr) (cd : Value) (A : Around) (outer : List Env) (s : Shared) (H : Hp) (E : XK) : Cx where
  prog := P
  w := w
  K := K
  mg := mg
  base := base
  A := A.deeper (envOfC qual scope s.heap.objs.size f cd)
  N := N
  s₀ := s
  H₀ := H
  env := envOfC qual scope s.heap.objs.size f cd
  outer := outer
  stack := envOfC qual scope s.heap.objs.size f cd :: outer
  ex := []
  calm := true
  fn := fun _ => true
  pn := []
  xe := fun e s' => wpAny (model P w) (A.deeper (envOfC qual scope s.heap.objs.size f cd)) (leaving (envOfC qual scope s.heap.objs.size f cd) e) (fun _ s'' => CX outer H s E e s'') (fun e' s'' => CX outer H s E e' s'') s'

theorem cell_has {sc : Scope} {n : Nat} {x : Str} (h : sc.names.lookup x = some .cell) : ∃ c, (cellsFrom n sc.names []).lookup x = some c := by
  have q := PySem.W.cellsFrom_some sc.names n [] (.inl h)
  exact Option.isSome_iff_exists.mp q

theorem inv_start {CX : CXT} {P : Program} {w : World} {K : PySem.W.Frag} {mg : Str → Option Value} {base : Heap} {N ps : List Str} {qual : Str} {scope : Scope} {f : Addr} {cd : Value} {A : Around} {outer : List Env} {s s1 : Shared} {H : Hp} {E : XK} {us : List Value} {vs : List V}
    (S : FnScope N ps scope) (hd : A.handled = none) (e0 : Env0 P w K mg base A outer s H) (hl : vs.length = ps.length) (r : Vals vs us)
    (x : InCallC s s.heap.objs.size (bindL (envOfC qual scope s.heap.objs.size f cd).kindOf (ps.zip us) fun _ => none) (cellsFrom (s.heap.objs.size + 1) scope.names []) (bindC (envOfC qual scope s.heap.objs.size f cd).kindOf (ps.zip us) fun _ => none) s1) :
    Inv (cxOf CX P w K mg base N qual scope f cd A outer s H E) [] (start N vs) H s1 := by
  have hpl : ps.length ≤ N.length := by have := congrArg List.length S.pre; rw [List.length_take] at this; omega
  obtain ⟨h1, tk, rfl, hk⟩ := x.done
  have noA : ∀ b : Addr, b ∉ (cxOf CX P w K mg base N qual scope f cd A outer s H E).ex := fun b z => absurd (show b ∈ ([] : List Addr) from z) (by simp)
  refine ⟨⟨e0.mod, S.kind, rfl, rfl, Nat.le_refl _, fun y z c h1 h2 => ?_, fun y hy => ?_, fun y c _ h => ?_, fun _ => hd, Around.frames_deeper e0.frames, .inr ⟨rfl, rfl⟩, fun b z => absurd z (noA b), e0.bs, e0.bsz, fun b _ _ => noA b, fun b z => absurd z (noA b), e0.funs, e0.frf⟩,
    rfl, e0.bare, Un.kept hk, ⟨_, x.toInCall.ns, fun i y v h1 h2 h3 => ?_⟩, fun y c h => ⟨_, x.cell y c h⟩, e0.hok.fresh (Nat.le_refl _), fun y c h => ?_, fun p hp => absurd (show p ∈ ([] : List (Addr × Obj)) from hp) (by simp), e0.hok.kept hk, ?_⟩
  · exact name_of_addr x.apart (PySem.mem_of_lookup h1) (PySem.mem_of_lookup h2)
  · have hy : scope.names.lookup y = some .cell ∨ scope.names.lookup y = some .free := hy
    rcases hy with hy | hy
    · exact cell_has hy
    · exact absurd rfl (S.nofree _ (PySem.mem_of_lookup hy))
  · exact Nat.le_of_lt (x.above y c (PySem.mem_of_lookup h))
  · have hi : i < vs.length := by
      unfold start at h2
      by_cases hi : i < vs.length
      · exact hi
      · rw [List.getElem?_append_right (by simpa using hi)] at h2
        rw [List.getElem?_replicate] at h2
        split at h2 <;> cases h2
    have ha : vs[i]? = some v := by
      unfold start at h2
      rw [List.getElem?_append_left (by simpa using hi), List.getElem?_map] at h2
      cases e : vs[i]? with
      | none => rw [e] at h2; cases h2
      | some a => rw [e] at h2; cases h2; rfl
    obtain ⟨u, hu, rv⟩ := r.get ha
    have hp : ps[i]? = some y := by
      rw [← S.pre, List.getElem?_take_of_lt (by omega)]; exact h1
    have ndP : ps.Nodup := by rw [← S.pre]; exact S.nd.sublist (List.take_sublist _ _)
    refine ⟨u, rv, ?_⟩
    rcases S.par y (List.mem_of_getElem? hp) with k | k
    · exact .inl ⟨k, bindL_get ndP hp hu k⟩
    · obtain ⟨c, e⟩ := cell_has (n := s.heap.objs.size + 1) k
      refine .inr ⟨.inl k, c, e, ?_⟩
      have q := x.cell y c e
      rw [bindC_get ndP hp hu (by show scope.names.lookup y ≠ _; rw [k]; decide)] at q
      exact q
  · exact e0.hok.fresh (Nat.le_of_lt (x.above y c (PySem.mem_of_lookup h)))
  · unfold start
    show _ = N.length
    rw [List.length_append, List.length_map, List.length_replicate]
    omega

/-- THE RULE: a def (or a method) of the text, by its body. The body's reading t is chosen for each entry; it is run at the parameters' values -/
theorem fn_of {CX : CXT} {P : Program} {w : World} {K : PySem.W.Frag} {mg : Str → Option Value} {base : Heap} {k : Nat} {f : Addr} {name qual : Str} {params : Arguments} {body : List Stmt} {scope : Scope} {dV kV doc pm cdv ct oc : Value} {an od : Option Addr}
    {osl : Array (Option Value)} {N ps : List Str} {sp : Sp} (lk : K.lookup f = some ⟨oc, od, .func (PySem.W.fnOf name qual params body scope dV kV doc pm an cdv ct), osl⟩) (hcd : PySem.W.codeIn K cdv qual = true) (S : FnScope N ps scope)
    (len : ∀ vs H Q E, sp vs H Q E → vs.length = ps.length)
    (hbody : ∀ (A : Around) (outer : List Env) (s : Shared) (H : Hp) (vs : List V) (Q : VK) (E : XK), Room k (A.deeper (envOfC qual scope s.heap.objs.size f cdv)) → sp vs H Q E →
      ∃ t, PSs (cxOf CX P w K mg base N qual scope f cdv A outer s H E) body t ∧ t { nx := fun _ H' => Q .non H', rt := Q } (start N vs) H) :
    FnOk P w K mg base CX (k + 1) f (PySem.W.fnOf name qual params body scope dV kV doc pm an cdv ct) ps sp := by
  refine ⟨len, fun A outer s H args us vs Q E hr e0 hb r hsp => ?_⟩
  have hl := len _ _ _ _ hsp
  have KX : K.In s.heap := e0.mod.kin.keeps fun b o e => (e0.bs b o e).1
  have lim : s.heap.NoLimit := e0.mod.nolimit.keeps fun b o e => (e0.bs b o e).1
  have hkind : ∀ y ∈ ps.zip us, scope.names.lookup y.1 = some .local ∨ (scope.names.lookup y.1 = some .cell ∧ ((cellsFrom (s.heap.objs.size + 1) scope.names []).lookup y.1).isSome = true) := fun ⟨n, v⟩ hy => by
    rcases S.par n (List.of_mem_zip hy).1 with q | q
    · exact .inl q
    · exact .inr ⟨q, PySem.W.cellsFrom_some _ _ _ (.inl q)⟩
  refine codeAny_call_function hr.depth (KX _ _ lk) rfl S.co S.gen rfl (PySem.W.codeRec_of KX hcd) (hb _ _ _ _ ?_)
  refine wpAny_newFunctionEnv_cells S.kind hkind fun env he s1 x => ?_
  subst he
  refine ⟨lim.keeps x.toInCall.keep, codeAny_func ?_⟩
  obtain ⟨t, ht, hq⟩ := hbody A outer s H vs Q E (hr.deeper _) hsp
  have I : Inv (cxOf CX P w K mg base N qual scope f cdv A outer s H E) [] (start N vs) H s1 := inv_start S hr.hd e0 hl r x
  refine wpAny_mono (ht [] s1 (start N vs) H _ I hq) (fun fl s' hs => ?_) fun e s' hs => hs
  have fin : ∀ {σ' : St} {H' : Hp} {v : V} {u : Value}, Inv (cxOf CX P w K mg base N qual scope f cdv A outer s H E) [] σ' H' s' → RelV v u → Q v H' → CE outer P w H s Q u s' :=
    fun {σ' H' v u} J rv q => ⟨v, H', J.os, J.bare, J.base, J.hok, rv, q⟩
  cases fl with
  | ret u =>
    obtain ⟨v, σ', H', J, rv, q⟩ := hs
    exact fin J rv q
  | next =>
    obtain ⟨σ', H', J, q⟩ := hs
    exact fin (v := V.non) (u := Value.none) J rfl q
  | brk =>
    obtain ⟨_, _, _, q⟩ := hs
    exact False.elim q
  | cont =>
    obtain ⟨_, _, _, q⟩ := hs
    exact False.elim q
end L2

namespace L2
open PySem PySem.Spec PyProof.Rows
section
variable {X : Cx} {x : Str} {p pos : Pos} {e : Expr} {es : List Expr} {t : TA} {id T : String} {r : List V → Hp → VK → Prop}

def tCB (r : List V → Hp → VK → Prop) (t : TA) : TE := fun σ H Q => t σ H fun vs H1 => r vs H1 Q
/-- f(e, ..), f a built-in function -/
theorem pe_callB (hc : CallR X (.builtin id) r) (hg : Gl X x) (hm : X.mg x = none) (hv : bootBuiltins x = some (.builtin id)) (ha : PA X (e :: es) t) (hn : x ≠ "__name__" := by decide) (hdb : (x == ("__debug__" : Str)) = false := by decide)
    (he : starEach (e :: es) X.env = (false, eval e X.env) :: starEach es X.env := by rfl) (hpl : (backTo pos (starEach es X.env)).any (·.1) = false := by rfl) : PE X (.Call (.Name x p) (e :: es) [] pos) (tCB r t) := by
  intro pins s σ H Q I h
  refine wpAny_Call_Name_kw (ld_blt I hg hm hv ?_ hn hdb)
  exact PyProof.Rows.callWith_builtin1 (thn (ha pos pins s σ H _ I h) fun us s1 ⟨vs, H1, I1, r1, q1⟩ => hc pins s1 σ H1 vs us Q I1 r1 q1) he hpl
/-- T(e, ..), T a built-in type -/
theorem pe_callTy (hc : CallR X (.type T) r) (hg : Gl X x) (hm : X.mg x = none) (hv : bootBuiltins x = some (.type T)) (ha : PA X (e :: es) t) (hn : x ≠ "__name__" := by decide) (hdb : (x == ("__debug__" : Str)) = false := by decide)
    (he : starEach (e :: es) X.env = (false, eval e X.env) :: starEach es X.env := by rfl) (hpl : (backTo pos (starEach es X.env)).any (·.1) = false := by rfl) : PE X (.Call (.Name x p) (e :: es) [] pos) (tCB r t) := by
  intro pins s σ H Q I h
  refine wpAny_Call_Name_kw (ld_blt I hg hm hv ?_ hn hdb)
  exact PyProof.Rows.callWith_type1 (thn (ha pos pins s σ H _ I h) fun us s1 ⟨vs, H1, I1, r1, q1⟩ => hc pins s1 σ H1 vs us Q I1 r1 q1) he hpl
end
end L2

namespace HT
open PySem PyProof.Rows

/-- t < u of tuples of ints -/
def lexLt : List Int → List Int → Bool
  | [], [] => false
  | [], _ :: _ => true
  | _ :: _, [] => false
  | x :: xs, y :: ys => if x = y then lexLt xs ys else decide (x < y)
theorem lexLt_cons (x y : Int) (xs ys : List Int) : lexLt (x :: xs) (y :: ys) = if x = y then lexLt xs ys else decide (x < y) := rfl
section
open PySem.SeqAt
open PySem.AutoSeq1 (wpAny_loadPart')
open PySem.MeetsSeq PySem.MeetsSeq2 PySem.MeetsSeq3

end

section
variable {prog : Program} {w : World} {A : Around} {E : Value → Shared → Prop} {s : Shared}

/-- t + u, t not empty -/
theorem cat_tup {t b : Addr} {vs ws : List Value} {Q : Value → Shared → Prop} (ht : IsTup s.heap t vs.toArray) (hb : IsTup s.heap b ws.toArray) (hv : vs ≠ [])
    (h1 : ws = [] → Q (.ref t) s) (h2 : ws ≠ [] → Q (.ref s.heap.objs.size) { s with heap := s.heap.push { cls := .type "tuple", data := .seq (vs ++ ws).toArray } })
    (hsz : vs.length + ws.length ≤ sizeLine) : wpAny (model prog w) A (binaryOp .Add (.ref t) (.ref b)) Q E s := by
  obtain ⟨⟨cls, dd, data, sl⟩, ho, hc, n, hd⟩ := id ht
  obtain ⟨⟨cls2, dd2, data2, sl2⟩, ho2, hc2, n2, hd2⟩ := id hb
  simp only at hc hd hc2 hd2
  subst hc hd hc2 hd2
  have e : vs.toArray ++ ws.toArray = (vs ++ ws).toArray := by simp
  by_cases hw : ws = []
  · exact concat_meets ⟨_, ho, rfl⟩ ⟨_, ho2, rfl⟩ noFill_tuple_add seq_tuple_add PySem.F.slot_tuple_add PySem.F.entry_tuple_add (PySem.F.args_tuple_add_2 _ _)
      (tuple_addW1 t b vs.toArray ws.toArray n n2 dd dd2 sl sl2 (by simpa using hv) (by simp [hw])) ⟨ho, ho2, h1 hw⟩
  · refine concat_meets ⟨_, ho, rfl⟩ ⟨_, ho2, rfl⟩ noFill_tuple_add seq_tuple_add PySem.F.slot_tuple_add PySem.F.entry_tuple_add (PySem.F.args_tuple_add_2 _ _)
      (tuple_addW2 t b vs.toArray ws.toArray n n2 dd dd2 sl sl2 (by simpa using hv) (by simpa using hw) (by rw [List.size_toArray, List.size_toArray]; exact hsz)) ⟨ho, ho2, ?_⟩
    rw [e]
    exact h2 hw

/-! ### t[a:b], not the whole -/
/-- a slice's bound as a place among n (d where it is left out) -/
def sIx (n d : Nat) : Option Int → Nat
  | none => d
  | some v => if v < 0 then (v + (n : Int)).toNat else min v.toNat n
theorem sIx_none (n d : Nat) : sIx n d none = d := rfl
theorem sIx_nat (n d k : Nat) : sIx n d (some (k : Int)) = min k n := by
  show (if (k : Int) < 0 then ((k : Int) + (n : Int)).toNat else min (k : Int).toNat n) = min k n
  rw [if_neg (by omega), Int.toNat_natCast]
theorem sIx_le (n d : Nat) (hd : d ≤ n) (o : Option Int) : sIx n d o ≤ n := by
  cases o with
  | none => exact hd
  | some v =>
    show (if v < 0 then (v + (n : Int)).toNat else min v.toNat n) ≤ n
    by_cases hv : v < 0
    · rw [if_pos hv]; omega
    · rw [if_neg hv]; exact Nat.min_le_right _ _
theorem clip_eq (v : Int) (n d : Nat) : (if v < 0 then max (v + (n : Int)) 0 else min v (n : Int)) = ((sIx n d (some v) : Nat) : Int) := by
  show (if v < 0 then max (v + (n : Int)) 0 else min v (n : Int)) = (((if v < 0 then (v + (n : Int)).toNat else min v.toNat n) : Nat) : Int)
  by_cases hv : v < 0
  · simp only [if_pos hv]; omega
  · simp only [if_neg hv]; omega
theorem adjust_gen (lo hi : Option Int) (n : Nat) : Builtin.Slice.sliceAdjust lo hi 1 (n : Int) = (((sIx n 0 lo : Nat) : Int), ((sIx n n hi : Nat) : Int)) := by
  have h1 : ¬ ((1 : Int) < 0) := by omega
  unfold Builtin.Slice.sliceAdjust
  simp only [h1, if_false]
  refine Prod.ext ?_ ?_
  · cases lo with
    | none => rfl
    | some v => exact clip_eq v n 0
  · cases hi with
    | none => rfl
    | some v => exact clip_eq v n n
theorem places_gen (i j : Nat) : Builtin.Slice.slicePlaces (i : Int) (j : Int) 1 = j - i := by
  unfold Builtin.Slice.slicePlaces
  have h1 : (1 : Int) > 0 := by omega
  simp only [h1, if_true, Int.ediv_one]
  split <;> omega
theorem slicePart_ {v : Value} {o : Option Int} {Q : Option Int → Shared → Prop} (p : IsPart v o) (h : Q o s) : wpAny (model prog w) A (Builtin.Slice.slicePartIndex v) Q E s := by
  cases p with
  | none => exact slicePart_none h
  | int i t => exact slicePart_int h
theorem sliceApplied_gen {sl : Addr} {vl vu : Value} {lo hi : Option Int} {n : Nat} {Q : Int × Int × Nat → Shared → Prop} (hs : s.heap.IsSliceOf sl vl vu .none) (pl : IsPart vl lo) (pu : IsPart vu hi)
    (h : Q (((sIx n 0 lo : Nat) : Int), 1, sIx n n hi - sIx n 0 lo) s) : wpAny (model prog w) A (Builtin.Slice.sliceApplied (.ref sl) (pure (n : Int))) Q E s := by
  obtain ⟨os, hos, hcs, hds⟩ := id hs
  unfold Builtin.Slice.sliceApplied Builtin.Slice.sliceFields
  refine wpAny_bind (wpAny_bind (wpAny_field hos hds (x := vl) rfl (wpAny_bind (wpAny_field hos hds (x := vu) rfl (wpAny_bind (wpAny_field hos hds (x := .none) rfl (wpAny_pure ?_)))))))
  refine wpAny_bind (slicePart_none ?_)
  show wpAny _ _ (if ((1 : Int) == 0) = true then _ else _) _ _ s
  rw [if_neg (by decide)]
  refine wpAny_bind (slicePart_ pl (wpAny_bind (slicePart_ pu (wpAny_bind (wpAny_pure ?_)))))
  show wpAny _ _ (match Builtin.Slice.sliceAdjust lo hi 1 (n : Int) with | (lo, hi) => pure (lo, (1 : Int), Builtin.Slice.slicePlaces lo hi 1)) _ _ s
  rw [adjust_gen lo hi n]
  show wpAny _ _ (pure (((sIx n 0 lo : Nat) : Int), (1 : Int), Builtin.Slice.slicePlaces ((sIx n 0 lo : Nat) : Int) ((sIx n n hi : Nat) : Int) 1)) _ _ s
  rw [places_gen]
  exact wpAny_pure h
theorem pick_gen (xs : Array Value) (i k : Nat) : ((List.range k).filterMap fun (m : Nat) => xs[((i : Int) + (m : Int) * 1).toNat]?).toArray = ((xs.toList.drop i).take k).toArray := by
  have e : (fun (m : Nat) => xs[((i : Int) + (m : Int) * 1).toNat]?) = fun m => xs[i + m]? := by
    funext m
    have : ((i : Int) + (m : Int) * 1).toNat = i + m := by omega
    rw [this]
  rw [e]
  have := pick_run xs i k
  rw [List.filterMap_map] at this
  have e2 : ((fun x => xs[x]?) ∘ fun x => i + x) = fun m => xs[i + m]? := rfl
  rw [e2] at this
  rw [this]

theorem getItem_tuple_cut {t sl : Addr} {items : Array Value} {vl vu : Value} {lo hi : Option Int} {Q : Value → Shared → Prop} (ht : IsTup s.heap t items) (hs : s.heap.IsSliceOf sl vl vu .none) (pl : IsPart vl lo) (pu : IsPart vu hi)
    (hw : ¬ (sIx items.size 0 lo = 0 ∧ sIx items.size items.size hi = items.size))
    (h : Q (.ref s.heap.objs.size) { s with heap := s.heap.push { cls := .type "tuple", data := .seq ((items.toList.drop (sIx items.size 0 lo)).take (sIx items.size items.size hi - sIx items.size 0 lo)).toArray } })
    (hsz : items.size ≤ sizeLine) : wpAny (model prog w) A (getItem (.ref t) (.ref sl)) Q E s := by
  have htake : sizeOk (.seq ((items.toList.drop (sIx items.size 0 lo)).take (sIx items.size items.size hi - sIx items.size 0 lo)).toArray) := by
    show ((items.toList.drop (sIx items.size 0 lo)).take (sIx items.size items.size hi - sIx items.size 0 lo)).toArray.size ≤ sizeLine
    rw [List.size_toArray, List.length_take, List.length_drop, Array.length_toList]
    omega
  have hj : sIx items.size items.size hi ≤ items.size := sIx_le _ _ (Nat.le_refl _) hi
  obtain ⟨os, hos, hcs, hds⟩ := id hs
  have hTs : s.TypeIs (.ref sl) "slice" := ⟨os, hos, hcs⟩
  unfold getItem
  try with_reducible refine wpAny_holding ?_
  first | refine wpAny_bind (wpAny_pure ?_) | skip
  refine wpAny_bind (wpAny_sequenceKey ht.typeIs (by decide) ?_)
  refine wpAny_bind (wpAny_callSpecial?_slot (name := Str.ofString "__getitem__") ht.typeIs PyProof.Rows.slot_tuple_getitem
    (wpAny_call_entry PyProof.Rows.slot_tuple_getitem ht.typeIs entry_tuple_getitem ?_ (args_tuple_getitem _ _)))
  show wpAny _ _ (Builtin.Tuple.tupleItemsOf (.ref t) >>= _) _ _ s
  refine wpAny_bind (tupleItemsOf_ ht ?_)
  refine wpAny_bind (wpAny_typeOf hTs ?_)
  rw [if_pos (by decide)]
  refine wpAny_bind (sliceApplied_gen hs pl pu ?_)
  have hno : ¬ ((((sIx items.size 0 lo : Nat) : Int) == 0 && (1 : Int) == 1 && (sIx items.size items.size hi - sIx items.size 0 lo) == items.size) = true) := by
    intro q
    rw [Bool.and_eq_true, Bool.and_eq_true] at q
    have q1 : ((sIx items.size 0 lo : Nat) : Int) = 0 := eq_of_beq q.1.1
    have q2 : sIx items.size items.size hi - sIx items.size 0 lo = items.size := eq_of_beq q.2
    exact hw ⟨by omega, by omega⟩
  show wpAny _ _ (if (((sIx items.size 0 lo : Nat) : Int) == 0 && (1 : Int) == 1 && (sIx items.size items.size hi - sIx items.size 0 lo) == items.size) = true then _ else _) _ _ s
  rw [if_neg hno, pick_gen]
  first
    | exact wpAny_bind (m := Builtin.Tuple.tupleExact _) (wpAny_newObj_type (wpAny_pure ⟨_, rfl, wpAny_pure h⟩) htake)
    | exact wpAny_bind (m := Builtin.Tuple.tupleExact _) (wpAny_newObj_type (wpAny_bind (wpAny_pure (wpAny_pure ⟨_, rfl, wpAny_pure h⟩))) htake)
    | exact wpAny_bind (wpAny_bind (m := Builtin.Tuple.tupleExact _) (wpAny_newObj_type (wpAny_pure (wpAny_pure ⟨_, rfl, wpAny_pure h⟩)) htake))
    | exact wpAny_bind (wpAny_bind (m := Builtin.Tuple.tupleExact _) (wpAny_newObj_type (wpAny_pure ⟨_, rfl, wpAny_pure h⟩) htake))
end
end HT

namespace L2
open PySem PySem.Spec PyProof.Rows

/-! ### the parts of a slice -/
abbrev TO := St → Hp → (Option Int → Hp → Prop) → Prop
/-- a slice's part (left out, or an int) -/
def PO (X : Cx) (e : Option Expr) (t : TO) : Prop :=
  ∀ (pins : List (Addr × Obj)) (s : Shared) (σ : St) (H : Hp) (Q : Option Int → Hp → Prop), Inv X pins σ H s → t σ H Q →
    wpAny (model X.prog X.w) X.A (evalPart e X.env) (fun u s' => ∃ o H', Inv X pins σ H' s' ∧ IsPart u o ∧ Q o H') X.xe s
def tNoPart : TO := fun _ H Q => Q none H
def tPart (t : TE) : TO := fun σ H Q => t σ H fun x H1 => ∃ i, x = .int i ∧ Q (some i) H1

theorem intsAre_of {ns : List Int} : ∀ {us : List Value}, Vals (ns.map V.int) us → IntsAre us ns := by
  induction ns with
  | nil => intro us r; rw [List.map_nil] at r; cases r; exact .nil
  | cons n ns ih =>
    intro us r
    rw [List.map_cons] at r
    cases r with
    | cons r1 r2 =>
      obtain ⟨t, e⟩ := r1
      subst e
      exact .cons n t (ih r2)

section
variable {X : Cx} {e : Expr} {te : TE} {lo hi : Option Expr} {tl th : TO} {pos p2 : Pos}

theorem po_none : PO X none tNoPart := by
  intro pins s σ H Q I h
  rw [evalPart_none]
  exact wpAny_pure ⟨none, H, I, .none, h⟩
theorem po_some (h : PE X e te) : PO X (some e) (tPart te) := by
  intro pins s σ H Q I hw
  rw [evalPart_some]
  refine thn (h pins s σ H _ I hw) fun u s1 ⟨x, H1, I1, r1, q1⟩ => ?_
  obtain ⟨i, rfl, q⟩ := q1
  obtain ⟨t, rfl⟩ := r1
  exact ⟨some i, H1, I1, .int i t, q⟩

/-- what a slice of a value is, by values: the slice object stands at sl -/
def SlR (X : Cx) (r : V → Option Int → Option Int → Hp → VK → Prop) : Prop :=
  ∀ (pins : List (Addr × Obj)) (s : Shared) (σ : St) (H : Hp) (x : V) (v vl vu : Value) (lo hi : Option Int) (sl : Addr) (Q : VK), Inv X pins σ H s → RelV x v → s.heap.IsSliceOf sl vl vu .none → IsPart vl lo → IsPart vu hi → r x lo hi H Q →
    ∃ T id, typeLookup (.type T) "__getitem__" = pure (some (.builtin id)) ∧ s.TypeIs v T ∧ wpAny (model X.prog X.w) X.A (getItem v (.ref sl)) (EP X pins σ Q) X.xe s
theorem SlR.or {r r' : V → Option Int → Option Int → Hp → VK → Prop} (h : SlR X r) (h' : SlR X r') : SlR X (fun x lo hi H Q => r x lo hi H Q ∨ r' x lo hi H Q) := by
  intro pins s σ H x v vl vu lo hi sl Q I rx hs pl pu q
  rcases q with q | q
  · exact h pins s σ H x v vl vu lo hi sl Q I rx hs pl pu q
  · exact h' pins s σ H x v vl vu lo hi sl Q I rx hs pl pu q
def tSl (r : V → Option Int → Option Int → Hp → VK → Prop) (te : TE) (tl th : TO) : TE := fun σ H Q => te σ H fun x H1 => tl σ H1 fun l H2 => th σ H2 fun u H3 => r x l u H3 Q
/-- a[lo:hi], any a -/
theorem pe_slice {r : V → Option Int → Option Int → Hp → VK → Prop} (hr : SlR X r) (he : PE X e te) (hl : PO X lo tl) (hu : PO X hi th) : PE X (.Subscript e (.Slice lo hi none p2) pos) (tSl r te tl th) := by
  intro pins s σ H Q I h
  refine Subscript_ (thn (he pins s σ H _ I h) fun v s1 ⟨x, H1, I1, r1, q1⟩ => ?_)
  refine wpAny_Slice (thn (hl pins s1 σ H1 _ I1 q1) fun vl s2 ⟨l, H2, I2, pl, q2⟩ => thn (hu pins s2 σ H2 _ I2 q2) fun vu s3 ⟨u, H3, I3, pu, q3⟩ => ?_)
  rw [evalPart_none]
  refine wpAny_pure ?_
  have I4 : Inv X pins σ H3 { s3 with heap := s3.heap.push { cls := .type "slice", data := .fields #[vl, vu, .none] } } := I3.kept (t' := s3.toks) fun b ob q => Heap.get?_push_of_some _ q
  obtain ⟨T, id, hT, ht, hg⟩ := hr pins { s3 with heap := s3.heap.push { cls := .type "slice", data := .fields #[vl, vu, .none] } } σ H3 x v vl vu l u s3.heap.objs.size Q I4 r1 (Heap.IsSliceOf.new ..) pl pu q3
  show wpAny (model X.prog X.w) X.A (subscriptTail e (.Slice lo hi none p2) v (.ref s3.heap.objs.size)) (EP X pins σ Q) X.xe { s3 with heap := s3.heap.push { cls := .type "slice", data := .fields #[vl, vu, .none] } }
  exact tail_any (ops := [.ref s3.heap.objs.size, v]) ht hT hg (by with_unfolding_all rfl)

/-- the items of xs[lo:hi] -/
def cutV (xs : List V) (lo hi : Option Int) : List V := (xs.drop (HT.sIx xs.length 0 lo)).take (HT.sIx xs.length xs.length hi - HT.sIx xs.length 0 lo)
theorem cutV_length (xs : List V) (lo hi : Option Int) : (cutV xs lo hi).length ≤ xs.length := by
  unfold cutV
  rw [List.length_take, List.length_drop]
  omega
/-- t[lo:hi], not the whole of it (the whole would be t itself) -/
def rSlT (K : PySem.W.Frag) : V → Option Int → Option Int → Hp → VK → Prop := fun x lo hi H Q => ∃ a xs, x = .ref a ∧ SqT K H a xs ∧
  ¬ (HT.sIx xs.length 0 lo = 0 ∧ HT.sIx xs.length xs.length hi = xs.length) ∧ ∀ p, H p = none → Q (.ref p) (upd H p (.tup (cutV xs lo hi)))
theorem sl_tup : SlR X (rSlT X.K) := by
  intro pins s σ H x v vl vu lo hi sl Q I rx hs pl pu h
  obtain ⟨a, xs, rfl, hx, hw, q⟩ := h
  cases rx
  obtain ⟨its, r, ht, hz⟩ := I.tuple hx
  have hlen : its.toArray.size = xs.length := by rw [List.size_toArray]; exact r.length.symm
  refine ⟨"tuple", _, PyProof.Rows.slot_tuple_getitem.lookup, ht.typeIs, ?_⟩
  refine HT.getItem_tuple_cut ht hs pl pu (by rw [hlen]; exact hw) ?_ (by rw [hlen]; exact hz)
  rw [hlen]
  refine ⟨.ref s.heap.objs.size, _, I.laid (t' := s.toks) (o := .tup (cutV xs lo hi)) (fun b ob q => Heap.get?_push_of_some _ q) (Nat.le_refl _) ?_, rfl, q _ (I.hok.fresh (Nat.le_refl _))⟩
  exact ⟨Nat.le_trans (cutV_length xs lo hi) hz, _, (r.drop (HT.sIx xs.length 0 lo)).take (HT.sIx xs.length xs.length hi - HT.sIx xs.length 0 lo), TupN.new _ _⟩

/-! ### t < u, t + u -/
def rLtT (K : PySem.W.Frag) : R2 := fun x y H Q => ∃ a b ns ms, x = .ref a ∧ y = .ref b ∧ SqT K H a (ns.map V.int) ∧ SqT K H b (ms.map V.int) ∧ Q (.bl (HT.lexLt ns ms)) H
/-- t + u, t not empty: u empty gives t itself -/
def rCatT (K : PySem.W.Frag) : R2 := fun x y H Q => ∃ a b xs ys, x = .ref a ∧ y = .ref b ∧ SqT K H a xs ∧ SqT K H b ys ∧ xs ≠ [] ∧ xs.length + ys.length ≤ sizeLine ∧
  (ys = [] → Q (.ref a) H) ∧ (ys ≠ [] → ∀ p, H p = none → Q (.ref p) (upd H p (.tup (xs ++ ys))))
theorem Vals.nil_iff {xs : List V} {us : List Value} (r : Vals xs us) : us = [] ↔ xs = [] := by
  cases r with
  | nil => simp
  | cons _ _ => simp
theorem op_catT : OpR X (binaryOp .Add) (rCatT X.K) := by
  intro pins s σ H x y v u Q I rx ry h
  obtain ⟨a, b, xs, ys, rfl, rfl, ha, hb, hx, hz, q1, q2⟩ := h
  cases rx
  cases ry
  obtain ⟨its, r1, p1, _⟩ := I.tuple ha
  obtain ⟨its2, r2, p2, _⟩ := I.tuple hb
  refine HT.cat_tup p1 p2 (fun z => hx (r1.nil_iff.mp z)) (fun z => ⟨.ref a, H, I, rfl, q1 (r2.nil_iff.mp z)⟩) (fun z => ?_) (by rw [← r1.length, ← r2.length]; exact hz)
  refine ⟨.ref s.heap.objs.size, _, I.laid (t' := s.toks) (o := .tup (xs ++ ys)) (fun b ob q => Heap.get?_push_of_some _ q) (Nat.le_refl _) ?_, rfl, q2 (fun w => z (r2.nil_iff.mpr w)) _ (I.hok.fresh (Nat.le_refl _))⟩
  exact ⟨by rw [List.length_append]; exact hz, _, r1.append r2, TupN.new _ _⟩
end
end L2

namespace L2
open PySem PySem.Spec PyProof.Rows

/-! ### places -/
/-- the place that an index of any sign means -/
def ixN (n : Nat) (i : Int) : Option Nat := if 0 ≤ i then (if i < n then some i.toNat else none) else if -(n : Int) ≤ i then some (i + n).toNat else none
def atI {α : Type} (xs : List α) (i : Int) : Option α := (ixN xs.length i).bind fun j => xs[j]?
theorem ixN_seq {n : Nat} {i : Int} {j : Nat} (h : ixN n i = some j) : seqIndex? i n = some j ∧ j < n ∧ -(n : Int) ≤ i ∧ i < n := by
  unfold ixN at h
  by_cases h0 : 0 ≤ i
  · rw [if_pos h0] at h
    by_cases h1 : i < n
    · rw [if_pos h1] at h
      have e : i.toNat = j := Option.some.inj h
      exact ⟨by rw [seqIndex_of h0 h1, e], by omega, by omega, h1⟩
    · rw [if_neg h1] at h; cases h
  · rw [if_neg h0] at h
    by_cases h1 : -(n : Int) ≤ i
    · rw [if_pos h1] at h
      have e : (i + n).toNat = j := Option.some.inj h
      exact ⟨by rw [seqIndex_neg (by omega) h1, e], by omega, h1, by omega⟩
    · rw [if_neg h1] at h; cases h
theorem atI_get {α : Type} {xs : List α} {i : Int} {v : α} (h : atI xs i = some v) : ∃ j, seqIndex? i xs.length = some j ∧ xs[j]? = some v ∧ j < xs.length ∧ -(xs.length : Int) ≤ i ∧ i < xs.length := by
  unfold atI at h
  cases e : ixN xs.length i with
  | none => rw [e] at h; cases h
  | some j =>
    rw [e] at h
    obtain ⟨h1, h2, h3, h4⟩ := ixN_seq e
    exact ⟨j, h1, h, h2, h3, h4⟩
theorem atI_nat {α : Type} {xs : List α} {j : Nat} {v : α} (h : xs[j]? = some v) : atI xs (j : Int) = some v := by
  have hj : j < xs.length := (List.getElem?_eq_some_iff.mp h).1
  have e : ixN xs.length (j : Int) = some j := by
    unfold ixN
    rw [if_pos (by omega), if_pos (by omega)]; simp
  unfold atI; rw [e]; exact h
theorem atI_last {α : Type} (xs : List α) (v : α) : atI (xs ++ [v]) (-1) = some v := by
  have hl : (xs ++ [v]).length = xs.length + 1 := by simp
  have e : ixN (xs ++ [v]).length (-1) = some xs.length := by
    unfold ixN
    rw [hl, if_neg (by decide), if_pos (by omega)]
    congr 1
    omega
  unfold atI
  rw [e]
  show (xs ++ [v])[xs.length]? = some v
  simp

/-! ### what may be subscripted -/
/-- what stands as an index of a plain subscript -/
def PlainIx (b : Expr) : Prop := ∀ o i, subscripted b false o i = operate [o, i] (getItem o i)
/-- a subscript by values -/
def IxR (X : Cx) (r : R2) : Prop :=
  ∀ (value slice : Expr) (pins : List (Addr × Obj)) (s : Shared) (σ : St) (H : Hp) (x y : V) (v u : Value) (Q : VK), Inv X pins σ H s → RelV x v → RelV y u → r x y H Q →
    subscripted slice false v u = operate [v, u] (getItem v u) → wpAny (model X.prog X.w) X.A (subscriptTail value slice v u) (EP X pins σ Q) X.xe s
/-- a call of a builtin's method by values: the receiver, the arguments -/
def MtR (X : Cx) (id : String) (r : V → List V → Hp → VK → Prop) : Prop :=
  ∀ (pins : List (Addr × Obj)) (s : Shared) (σ : St) (H : Hp) (x : V) (xs : List V) (v : Value) (us : List Value) (Q : VK), Inv X pins σ H s → RelV x v → Vals xs us → r x xs H Q →
    wpAny (model X.prog X.w) X.A (call (.builtin id) (v :: us)) (EP X pins σ Q) X.xe s
section
variable {X : Cx} {a b : Expr} {ta tb : TE} {pos : Pos}
theorem IxR.or {r r' : R2} (h : IxR X r) (h' : IxR X r') : IxR X (fun x y H Q => r x y H Q ∨ r' x y H Q) := by
  intro value slice pins s σ H x y v u Q I rx ry q hs
  rcases q with q | q
  · exact h value slice pins s σ H x y v u Q I rx ry q hs
  · exact h' value slice pins s σ H x y v u Q I rx ry q hs
theorem MtR.or {id : String} {r r' : V → List V → Hp → VK → Prop} (h : MtR X id r) (h' : MtR X id r') : MtR X id (fun x xs H Q => r x xs H Q ∨ r' x xs H Q) := by
  intro pins s σ H x xs v us Q I rx rs q
  rcases q with q | q
  · exact h pins s σ H x xs v us Q I rx rs q
  · exact h' pins s σ H x xs v us Q I rx rs q
/-- a[b] -/
theorem pe_ix {r : R2} (hr : IxR X r) (ha : PE X a ta) (hb : PE X b tb) (hs : PlainIx b) : PE X (.Subscript a b pos) (tOp r ta tb) := by
  intro pins s σ H Q I h
  exact Subscript_ (binT ha hb I h fun v u s2 x y H2 I2 rx ry q => hr a b pins s2 σ H2 x y v u Q I2 rx ry q (hs _ _))

def rIxL (K : PySem.W.Frag) : R2 := fun x y H Q => ∃ p xs i v, x = .ref p ∧ y = .int i ∧ SqL K H p xs ∧ atI xs i = some v ∧ Q v H
def rIxT (K : PySem.W.Frag) : R2 := fun x y H Q => ∃ p xs i v, x = .ref p ∧ y = .int i ∧ SqT K H p xs ∧ atI xs i = some v ∧ Q v H
def rIxS : R2 := fun x y H Q => ∃ z i c, x = .str z ∧ y = .int i ∧ z.length ≤ sizeLine ∧ atI z.cps.toList i = some c ∧ Q (.str ⟨#[c]⟩) H
theorem ix_list : IxR X (rIxL X.K) := by
  intro value slice pins s σ H x y v u Q I rx ry h hs
  obtain ⟨p, xs, i, z, rfl, rfl, hq, he, q⟩ := h
  cases rx
  obtain ⟨t, rfl⟩ := ry
  obtain ⟨its, r, pl, hz⟩ := I.list hq
  obtain ⟨j, h1, h2, h3, h4, h5⟩ := atI_get he
  obtain ⟨w, ew, rw'⟩ := r.get h2
  have hl := r.length
  have hn := line63
  have fin : EP X pins σ Q w s := ⟨z, H, I, rw', q⟩
  by_cases h0 : 0 ≤ i
  · have hj : i.toNat = j := by
      rw [seqIndex_of h0 h5] at h1
      exact Option.some.inj h1
    exact item_listR pl.isList h0 (by omega) (by rw [hj]; simpa using ew) fin hs
  · have hj : (i + (its.toArray.size : Int)).toNat = j := by
      rw [seqIndex_neg (by omega) h4] at h1
      rw [List.size_toArray, ← hl]
      exact Option.some.inj h1
    exact subscriptTail_builtinR (x := w) pl.isList.typeIs slot_list_getitem.lookup
      (wpAny_getItem_list_neg (Q := fun r s' => r = w ∧ EP X pins σ Q r s') pl.isList (by omega) (by rw [List.size_toArray] <;> omega) (by omega) (by rw [hj]; simpa using ew) ⟨rfl, fin⟩) hs
theorem ix_tup : IxR X (rIxT X.K) := by
  intro value slice pins s σ H x y v u Q I rx ry h hs
  obtain ⟨p, xs, i, z, rfl, rfl, hq, he, q⟩ := h
  cases rx
  obtain ⟨t, rfl⟩ := ry
  obtain ⟨its, r, pl, hz⟩ := I.tuple hq
  obtain ⟨j, h1, h2, h3, h4, h5⟩ := atI_get he
  obtain ⟨w, ew, rw'⟩ := r.get h2
  have hl := r.length
  have hn := line63
  have fin : EP X pins σ Q w s := ⟨z, H, I, rw', q⟩
  exact subscriptTail_builtinR (x := w) pl.typeIs slot_tuple_getitem.lookup
    (getItem_tuple (j := j) (Q := fun r s' => r = w ∧ EP X pins σ Q r s') pl (by omega) (by omega) (by rw [List.size_toArray, ← hl]; exact h1) (by simpa using ew) ⟨rfl, fin⟩) hs
theorem ix_str : IxR X rIxS := by
  intro value slice pins s σ H x y v u Q I rx ry h hs
  obtain ⟨z, i, c, rfl, rfl, hz, he, q⟩ := h
  obtain ⟨t, rfl⟩ := rx
  obtain ⟨t', rfl⟩ := ry
  obtain ⟨j, h1, h2, h3, h4, h5⟩ := atI_get he
  have hl : z.cps.toList.length = z.length := by simp [Str.length]
  rw [hl] at h1 h4 h5
  have hn := line63
  exact tail_any (typeIs_str s z t) slot_str_getitem.lookup (getItem_str (c := c) (by
    have e1 : decide (i < -(2 ^ 63 : Int)) = false := decide_eq_false (by omega)
    have e2 : decide (i ≥ 2 ^ 63) = false := decide_eq_false (by omega)
    rw [e1, e2, Bool.or_false]) (by rw [h1]; simpa using h2) ⟨.str ⟨#[c]⟩, H, I.tok _, ⟨_, rfl⟩, q⟩) hs
/-- list, tuple or str -/
def rIx (K : PySem.W.Frag) : R2 := fun x y H Q => rIxL K x y H Q ∨ rIxT K x y H Q ∨ rIxS x y H Q
/-! ### xs[i] = v, any sign -/
/-- the list's object behind a store -/
theorem mapSeq_set (its : List Value) (n j : Nat) (u : Value) : Obj.mapSeq (·.setIfInBounds j u) { cls := .type "list", data := .seq its.toArray n } = { cls := .type "list", data := .seq (its.set j u).toArray n } := by
  simp [Obj.mapSeq]
theorem Inv.lst {pins : List (Addr × Obj)} {σ : St} {H : Hp} {s : Shared} {p : Addr} {xs : List V} (I : Inv X pins σ H s) (h : H p = some (.lst xs)) :
    ∃ (its : List Value) (n : Nat), Vals xs its ∧ s.heap.get? p = some { cls := .type "list", data := .seq its.toArray n } ∧ xs.length ≤ sizeLine := by
  obtain ⟨z, its, n, r, e⟩ := I.hok p _ h
  exact ⟨its, n, r, e, z⟩
/-- the list at p is written by an update of its object -/
theorem Inv.lstUpd {pins : List (Addr × Obj)} {σ : St} {H : Hp} {s : Shared} {p : Addr} {xs ys : List V} {its its' : List Value} {n n' : Nat} {f : Obj → Obj} (I : Inv X pins σ H s) (h : H p = some (.lst xs))
    (ho : s.heap.get? p = some { cls := .type "list", data := .seq its.toArray n }) (hf : f { cls := .type "list", data := .seq its.toArray n } = { cls := .type "list", data := .seq its'.toArray n' }) (r : Vals ys its') (hz : ys.length ≤ sizeLine) (t : Nat) :
    Inv X pins σ (upd H p (.lst ys)) { s with heap := s.heap.update p f, toks := t } := by
  have e : (s.heap.update p f).get? p = some { cls := .type "list", data := .seq its'.toArray n' } := by
    rw [Heap.get?_update_self f ho (by rw [hf] <;> rfl), hf]
  refine I.write (x := p) (e := p) (by rw [h]; trivial) (.inl rfl) (fun b u hb q => (Heap.get?_update_other _ _ (Ne.symm hb)).trans q) ⟨_, e⟩ ?_
  exact ⟨hz, its', n', r, e⟩
def rSetL : V → V → V → Hp → (Hp → Prop) → Prop := fun o i v H Q => ∃ p xs k j, o = .ref p ∧ i = .int k ∧ H p = some (.lst xs) ∧ ixN xs.length k = some j ∧ Q (upd H p (.lst (xs.set j v)))
theorem set_list : PSet X rSetL := by
  intro pins s σ H o i v ov iv u Q I ro ri rv h
  obtain ⟨p, xs, k, j, rfl, rfl, hp, hj, q⟩ := h
  cases ro
  obtain ⟨t, rfl⟩ := ri
  obtain ⟨its, n, r, ho, hz⟩ := I.lst hp
  obtain ⟨h1, h2, h3, h4⟩ := ixN_seq hj
  have hl := r.length
  have hn := line63
  have I' : Inv X pins σ (upd H p (.lst (xs.set j v))) { s with heap := s.heap.update p (Obj.mapSeq (·.setIfInBounds j u)) } :=
    I.lstUpd hp ho (mapSeq_set its n j u) (r.set rv j) (by rw [List.length_set]; exact hz) s.toks
  by_cases h0 : 0 ≤ k
  · have hk : k.toNat = j := by
      rw [seqIndex_of h0 h4] at h1
      exact Option.some.inj h1
    exact PySem.W.ki_setAt ho h0 (by omega) (by rw [List.size_toArray, ← hl]; exact h4) (by rw [hk]; exact ⟨_, I', q⟩)
  · have hk : (k + (its.toArray.size : Int)).toNat = j := by
      rw [seqIndex_neg (by omega) h3] at h1
      rw [List.size_toArray, ← hl]
      exact Option.some.inj h1
    exact PySem.W.ki_setBack ho (by omega) (by rw [List.size_toArray, ← hl]; exact h3) (by omega) (by rw [hk]; exact ⟨_, I', q⟩)

/-! ### slices -/
theorem slice_bounds (lo hi : Option Int) (n : Nat) : (sliceBounds lo hi none n).1 = ((HT.sIx n 0 lo : Nat) : Int) ∧ (sliceBounds lo hi none n).2.1 = ((HT.sIx n n hi : Nat) : Int) ∧ (sliceBounds lo hi none n).2.2 = 1 := by
  refine ⟨?_, ?_, rfl⟩
  · cases lo with
    | none => simp [sliceBounds, HT.sIx]
    | some i =>
      simp only [sliceBounds, HT.sIx, Option.getD_none, show (1 : Int) > 0 by decide, if_true]
      by_cases h : i < 0
      · simp only [h, if_true] <;> omega
      · simp only [h, if_false] <;> omega
  · cases hi with
    | none => simp [sliceBounds, HT.sIx]
    | some i =>
      simp only [sliceBounds, HT.sIx, Option.getD_none, show (1 : Int) > 0 by decide, if_true]
      by_cases h : i < 0
      · simp only [h, if_true] <;> omega
      · simp only [h, if_false] <;> omega
theorem slicePick_cut (its : List Value) (lo hi : Option Int) : slicePick its.toArray lo hi none = ((its.drop (HT.sIx its.length 0 lo)).take (HT.sIx its.length its.length hi - HT.sIx its.length 0 lo)).toArray := by
  obtain ⟨h1, h2, h3⟩ := slice_bounds lo hi its.toArray.size
  unfold slicePick
  rw [h1, h2, h3]
  simp only [sliceRange_one, pick_run, List.size_toArray] <;> rfl
/-- xs[lo:hi] of a list: a new list -/
def rSlL (K : PySem.W.Frag) : V → Option Int → Option Int → Hp → VK → Prop := fun x lo hi H Q => ∃ a xs, x = .ref a ∧ SqL K H a xs ∧ ∀ p, H p = none → Q (.ref p) (upd H p (.lst (cutV xs lo hi)))
theorem sl_list : SlR X (rSlL X.K) := by
  intro pins s σ H x v vl vu lo hi sl Q I rx hs pl pu h
  obtain ⟨a, xs, rfl, hx, q⟩ := h
  cases rx
  obtain ⟨its, r, ht, hz⟩ := I.list hx
  have hlen := r.length
  refine ⟨"list", _, slot_list_getitem.lookup, ht.isList.typeIs, ?_⟩
  refine wpAny_getItem_list_slice ht.isList hs pl pu .none (by simp) ?_ (by rw [List.size_toArray] <;> omega)
  rw [slicePick_cut, ← hlen]
  refine ⟨.ref s.heap.objs.size, _, I.laid (t' := s.toks) (o := .lst (cutV xs lo hi)) (fun b ob q => Heap.get?_push_of_some _ q) (Nat.le_refl _) ?_, rfl, q _ (I.hok.fresh (Nat.le_refl _))⟩
  exact ⟨Nat.le_trans (cutV_length xs lo hi) hz, _, 0, (r.drop (HT.sIx xs.length 0 lo)).take (HT.sIx xs.length xs.length hi - HT.sIx xs.length 0 lo), Heap.get?_push_size _ rfl⟩

/-! ### in, not in: flat items -/
def flatV : V → Bool
  | .non => true
  | .bl _ => true
  | .int _ => true
  | .str _ => true
  | _ => false
/-- == of flat values -/
def eqV : V → V → Bool
  | .non, .non => true
  | .bl a, .bl b => a == b
  | .bl a, .int b => (if a then 1 else 0) == b
  | .int a, .bl b => a == (if b then 1 else 0)
  | .int a, .int b => a == b
  | .str a, .str b => a == b
  | _, _ => false
theorem eqAt_V {A : Around} {s : Shared} {y x : V} {u v : Value} (ry : RelV y u) (rx : RelV x v) (fy : flatV y = true) (fx : flatV x = true) : SeqAt.EqAt A s u v (eqV y x) := by
  cases y with
  | non =>
    cases ry
    cases x with
    | non => cases rx; exact SeqAt.EqAt.same _
    | bl b => cases rx; exact SeqAt.EqAt.none_bool b
    | int b => obtain ⟨t, rfl⟩ := rx; exact SeqAt.EqAt.none_int b t
    | str b => obtain ⟨t, rfl⟩ := rx; exact SeqAt.EqAt.none_str b t
    | _ => exact absurd (show false = true from fx) Bool.false_ne_true
  | bl a =>
    cases ry
    cases x with
    | non => cases rx; exact SeqAt.EqAt.bool_none a
    | bl b => cases rx; exact SeqAt.EqAt.bool_bool a b
    | int b => obtain ⟨t, rfl⟩ := rx; exact SeqAt.EqAt.bool_int a b t
    | str b => obtain ⟨t, rfl⟩ := rx; exact SeqAt.EqAt.bool_str a b t
    | _ => exact absurd (show false = true from fx) Bool.false_ne_true
  | int a =>
    obtain ⟨t', rfl⟩ := ry
    cases x with
    | non => cases rx; exact SeqAt.EqAt.int_none a t'
    | bl b => cases rx; exact SeqAt.EqAt.int_bool a t' b
    | int b => obtain ⟨t, rfl⟩ := rx; exact SeqAt.EqAt.int_int a t' b t
    | str b => obtain ⟨t, rfl⟩ := rx; exact SeqAt.EqAt.int_str a t' b t
    | _ => exact absurd (show false = true from fx) Bool.false_ne_true
  | str a =>
    obtain ⟨t', rfl⟩ := ry
    cases x with
    | non => cases rx; exact SeqAt.EqAt.str_none a t'
    | bl b => cases rx; exact SeqAt.EqAt.str_bool a t' b
    | int b => obtain ⟨t, rfl⟩ := rx; exact SeqAt.EqAt.str_int a t' b t
    | str b => obtain ⟨t, rfl⟩ := rx; exact SeqAt.EqAt.str_str a t' b t
    | _ => exact absurd (show false = true from fx) Bool.false_ne_true
  | _ => exact absurd (show false = true from fy) Bool.false_ne_true
/-- the items' answers, read off the values (a value's own answer does not lean on its token) -/
def eqU (x : V) (u : Value) : Bool := match u with
  | .none => eqV .non x
  | .bool b => eqV (.bl b) x
  | .int i _ => eqV (.int i) x
  | .str z _ => eqV (.str z) x
  | _ => false
theorem eqU_of {x y : V} {u : Value} (r : RelV y u) (f : flatV y = true) : eqU x u = eqV y x := by
  cases y with
  | non => cases r; rfl
  | bl b => cases r; rfl
  | int i => obtain ⟨t, rfl⟩ := r; rfl
  | str z => obtain ⟨t, rfl⟩ := r; rfl
  | _ => exact absurd (show false = true from f) Bool.false_ne_true
theorem any_eqU {x : V} : ∀ {xs : List V} {us : List Value}, Vals xs us → xs.all flatV = true → us.any (eqU x) = xs.any fun y => eqV y x
  | _, _, .nil, _ => rfl
  | y :: xs, u :: us, .cons r t, f => by
    rw [List.all_cons, Bool.and_eq_true] at f
    rw [List.any_cons, List.any_cons, eqU_of r f.1, any_eqU t f.2]
theorem mem_eqAt {A : Around} {s : Shared} {x : V} {v : Value} (rx : RelV x v) (fx : flatV x = true) : ∀ {xs : List V} {us : List Value}, Vals xs us → xs.all flatV = true → ∀ u ∈ us, SeqAt.EqAt A s u v (eqU x u)
  | _, _, .nil, _ => fun u hu => by cases hu
  | y :: xs, u :: us, .cons r t, f => fun u' hu => by
    rw [List.all_cons, Bool.and_eq_true] at f
    rcases List.mem_cons.mp hu with rfl | hu
    · rw [eqU_of r f.1]; exact eqAt_V r rx f.1 fx
    · exact mem_eqAt rx fx t f.2 u' hu
def inV (x : V) (xs : List V) : Bool := xs.any fun y => eqV y x
/-- x in a list or tuple of flat items -/
def rIn (K : PySem.W.Frag) (neg : Bool) : R2 := fun x y H Q => ∃ p xs, y = .ref p ∧ (SqL K H p xs ∨ SqT K H p xs) ∧ flatV x = true ∧ xs.all flatV = true ∧ Q (.bl (if neg then !inV x xs else inV x xs)) H
theorem op_in_seq : OpR X (compareOp .In) (rIn X.K false) := by
  intro pins s σ H x y v u Q I rx ry h
  obtain ⟨p, xs, rfl, hq, fx, fs, q⟩ := h
  cases ry
  rcases hq with hq | hq
  · obtain ⟨its, r, pl, hz⟩ := I.list hq
    refine SeqAt.in_listAt (eqU x) pl.isList (fun w hw => mem_eqAt rx fx r fs w (by simpa using hw)) ⟨.bl _, H, I, rfl, ?_⟩
    rw [show its.toArray.any (eqU x) = its.any (eqU x) by simp, any_eqU r fs]
    exact q
  · obtain ⟨its, r, pl, hz⟩ := I.tuple hq
    refine SeqAt.in_tupleAt (eqU x) pl (fun w hw => mem_eqAt rx fx r fs w (by simpa using hw)) ⟨.bl _, H, I, rfl, ?_⟩
    rw [show its.toArray.any (eqU x) = its.any (eqU x) by simp, any_eqU r fs]
    exact q
theorem op_notIn_seq : OpR X (compareOp .NotIn) (rIn X.K true) := by
  intro pins s σ H x y v u Q I rx ry h
  obtain ⟨p, xs, rfl, hq, fx, fs, q⟩ := h
  cases ry
  rcases hq with hq | hq
  · obtain ⟨its, r, pl, hz⟩ := I.list hq
    refine SeqAt.notIn_listAt (eqU x) pl.isList (fun w hw => mem_eqAt rx fx r fs w (by simpa using hw)) ⟨.bl _, H, I, rfl, ?_⟩
    rw [show its.toArray.any (eqU x) = its.any (eqU x) by simp, any_eqU r fs]
    exact q
  · obtain ⟨its, r, pl, hz⟩ := I.tuple hq
    refine SeqAt.notIn_tupleAt (eqU x) pl (fun w hw => mem_eqAt rx fx r fs w (by simpa using hw)) ⟨.bl _, H, I, rfl, ?_⟩
    rw [show its.toArray.any (eqU x) = its.any (eqU x) by simp, any_eqU r fs]
    exact q
/-! ### len, list(x), tuple(x) of any list or tuple that is read -/
theorem call_len_seq : CallR X (.builtin "len") (fun xs H Q => ∃ p ys, xs = [.ref p] ∧ (SqL X.K H p ys ∨ SqT X.K H p ys) ∧ Q (.int ys.length) H) := by
  intro pins s σ H xs us Q I r h
  obtain ⟨p, ys, rfl, hq, q⟩ := h
  obtain ⟨u, rfl, rx⟩ := vals1 r
  cases rx
  have hn := line63
  rcases hq with hq | hq
  · obtain ⟨its, r', pl, hz⟩ := I.list hq
    have hlen := r'.length
    exact Calls.call_len_list pl.isList (by simp only [List.size_toArray] <;> omega) ⟨.int ys.length, H, I.tok _, ⟨s.toks + 1, by rw [List.size_toArray, hlen]⟩, q⟩
  · obtain ⟨its, r', pl, hz⟩ := I.tuple hq
    have hlen := r'.length
    exact len_tuple pl (by simp only [List.size_toArray] <;> omega) ⟨.int ys.length, H, I.tok _, ⟨s.toks + 1, by rw [List.size_toArray, hlen]⟩, q⟩
theorem call_len_str : CallR X (.builtin "len") (fun xs H Q => ∃ z, xs = [.str z] ∧ z.length ≤ sizeLine ∧ Q (.int z.length) H) := by
  intro pins s σ H xs us Q I r h
  obtain ⟨z, rfl, hz, q⟩ := h
  obtain ⟨u, rfl, t, rfl⟩ := vals1 r
  have hn := line63
  exact len_str (by omega) ⟨.int z.length, H, I.tok _, ⟨_, rfl⟩, q⟩
theorem CallR.or {f : Value} {r r' : List V → Hp → VK → Prop} (h : CallR X f r) (h' : CallR X f r') : CallR X f (fun xs H Q => r xs H Q ∨ r' xs H Q) := by
  intro pins s σ H xs us Q I rs q
  rcases q with q | q
  · exact h pins s σ H xs us Q I rs q
  · exact h' pins s σ H xs us Q I rs q
theorem call_list_of : CallR X (.type "list") (fun xs H Q => ∃ p ys, xs = [.ref p] ∧ (SqL X.K H p ys ∨ SqT X.K H p ys) ∧ ∀ l, H l = none → Q (.ref l) (upd H l (.lst ys))) := by
  intro pins s σ H xs us Q I r h
  obtain ⟨p, ys, rfl, hq, q⟩ := h
  obtain ⟨u, rfl, rx⟩ := vals1 r
  cases rx
  have fin : ∀ (its : List Value), Vals ys its → ys.length ≤ sizeLine → ∀ (h' : Heap) (c' : Nat), (∀ b o', s.heap.get? b = some o' → h'.get? b = some o') →
      h'.get? s.heap.objs.size = some { cls := .type "list", dict := none, data := .seq its.toArray c', slots := #[] } → EP X pins σ Q (.ref s.heap.objs.size) { s with heap := h' } := fun its r' hz h' c' kp e =>
    ⟨.ref s.heap.objs.size, _, I.laid (t' := s.toks) kp (Nat.le_refl _) (show ObjOk X.prog X.w _ h' _ (.lst ys) from ⟨hz, its, c', r', e⟩), rfl, q _ (I.hok.fresh (Nat.le_refl _))⟩
  rcases hq with hq | hq
  · obtain ⟨its, r', pl, hz⟩ := I.list hq
    have hlen := r'.length
    obtain ⟨o, ho, hc, n, hd⟩ := pl.isList
    exact call_list_seq p (.inl rfl) ho hc hd (fun h' c' kp e => fin its r' hz h' c' kp e) (by simp only [List.size_toArray] <;> omega)
  · obtain ⟨its, r', pl, hz⟩ := I.tuple hq
    have hlen := r'.length
    obtain ⟨o, ho, hc, n, hd⟩ := pl
    exact call_list_seq p (.inr rfl) ho hc hd (fun h' c' kp e => fin its r' hz h' c' kp e) (by simp only [List.size_toArray] <;> omega)
theorem call_tuple_of : CallR X (.type "tuple") (fun xs H Q => ∃ p ys, xs = [.ref p] ∧ ((SqL X.K H p ys ∧ ∀ l, H l = none → Q (.ref l) (upd H l (.tup ys))) ∨ (SqT X.K H p ys ∧ Q (.ref p) H))) := by
  intro pins s σ H xs us Q I r h
  obtain ⟨p, ys, rfl, h⟩ := h
  obtain ⟨u, rfl, rx⟩ := vals1 r
  cases rx
  rcases h with ⟨hq, q⟩ | ⟨hq, q⟩
  · obtain ⟨its, r', pl, hz⟩ := I.list hq
    have hlen := r'.length
    refine call_tuple_list pl.isList (fun h' kp => ?_) (by simp only [List.size_toArray] <;> omega)
    have I1 : Inv X pins σ H { s with heap := h' } := I.kept (t' := s.toks) kp
    have I2 : Inv X pins σ (upd H h'.objs.size (.tup ys)) { s with heap := h'.push { cls := .type "tuple", data := .seq its.toArray } } :=
      I1.laid (t' := s.toks) (fun b o e => Heap.get?_push_of_some _ e) (Nat.le_refl _) (show ObjOk X.prog X.w _ _ _ (.tup ys) from ⟨hz, its, r', TupN.new _ _⟩)
    exact ⟨.ref h'.objs.size, _, I2, rfl, q _ (I1.hok.fresh (Nat.le_refl _))⟩
  · obtain ⟨its, r', pl, hz⟩ := I.tuple hq
    exact call_tuple_same pl ⟨.ref p, H, I, rfl, q⟩

/-! ### the call of a builtin's method: o.m(..) -/
/-- the value is of that builtin type -/
def tyV (K : PySem.W.Frag) (T : String) (x : V) (H : Hp) : Prop := match x with
  | .str _ => T = "str"
  | .int _ => T = "int"
  | .ref p => (T = "list" ∧ ∃ xs, SqL K H p xs) ∨ (T = "tuple" ∧ ∃ o, K.lookup p = some o ∧ o.cls = .type "tuple" ∧ o.dict = none) ∨
      (T = "dict" ∧ ((∃ kvs, H p = some (.dK kvs)) ∨ ∃ kvs, H p = some (.dT kvs))) ∨ (T = "set" ∧ ∃ S n, H p = some (.set S n)) ∨ (T = "tuple" ∧ ∃ xs, Rd H p (.tup xs))
  | _ => False
theorem tyV_is {pins : List (Addr × Obj)} {σ : St} {H : Hp} {s : Shared} {T : String} {x : V} {v : Value} (I : Inv X pins σ H s) (r : RelV x v) (ty : tyV X.K T x H) :
    s.TypeIs v T ∧ ∀ a, v = .ref a → ∃ ob, s.heap.get? a = some ob ∧ ob.dict = none := by
  cases x with
  | str z =>
    obtain ⟨t, rfl⟩ := r
    cases (show T = "str" from ty)
    exact ⟨typeIs_str s z t, fun _ e => nomatch e⟩
  | int i =>
    obtain ⟨t, rfl⟩ := r
    cases (show T = "int" from ty)
    exact ⟨typeIs_int s i t, fun _ e => nomatch e⟩
  | ref p =>
    cases r
    rcases ty with ⟨rfl, xs, hq⟩ | ⟨rfl, o, hk, hc, hd⟩ | ⟨rfl, hk⟩ | ⟨rfl, S, n, hk⟩ | ⟨rfl, xs, hq⟩
    · obtain ⟨its, _, pl, _⟩ := I.list hq
      refine ⟨pl.isList.typeIs, fun a e => ?_⟩
      cases e
      obtain ⟨o, n, e, c, hd, _⟩ := pl
      exact ⟨o, e, hd⟩
    · refine ⟨⟨o, I.kIn p o hk, hc⟩, fun a e => ?_⟩
      cases e
      exact ⟨o, I.kIn _ o hk, hd⟩
    · have z : ∃ o, s.heap.get? p = some o ∧ o.ExactDict := by
        rcases hk with ⟨kvs, hk⟩ | ⟨kvs, hk⟩
        · obtain ⟨_, _, _, _, o, _, _, e, ex, _⟩ := I.hok p _ hk
          exact ⟨o, e, ex⟩
        · obtain ⟨_, _, _, _, o, _, _, e, ex, _⟩ := I.hok p _ hk
          exact ⟨o, e, ex⟩
      obtain ⟨o, e, ex⟩ := z
      refine ⟨⟨o, e, ex.1⟩, fun a e2 => ?_⟩
      cases e2
      exact ⟨o, e, ex.2.1⟩
    · obtain ⟨o, _, _, _, e, ex, _⟩ := I.hok p _ hk
      refine ⟨⟨o, e, ex.1⟩, fun a e2 => ?_⟩
      cases e2
      exact ⟨o, e, ex.2.1⟩
    · obtain ⟨_, _, _, o, e, c, _, _, hd⟩ := hq.ok I.hok
      refine ⟨⟨o, e, c⟩, fun a e2 => ?_⟩
      cases e2
      exact ⟨o, e, hd⟩
  | _ => exact False.elim ty
def tBM0 (K : PySem.W.Frag) (T : String) (r : V → List V → Hp → VK → Prop) (to : TE) : TE := fun σ H Q => to σ H fun x H1 => tyV K T x H1 ∧ r x [] H1 Q
def tBM (K : PySem.W.Frag) (T : String) (r : V → List V → Hp → VK → Prop) (to : TE) (t : TA) : TE := fun σ H Q => to σ H fun x H1 => tyV K T x H1 ∧ t σ H1 fun xs H2 => r x xs H2 Q
variable {o e : Expr} {es : List Expr} {to : TE} {t : TA} {name : Str} {apos cpos : Pos} {T id : String} {r : V → List V → Hp → VK → Prop}
theorem pe_bm (pa : PlainAttrs T) (slot : Slot T name id) (hty : typeOf (.builtin id) = pure (.type "method_descriptor")) (hm : MtR X id r) (ho : PE X o to) (ha : PA X (e :: es) t)
    (hbase : attributeBase o name X.env (eval o X.env) = eval o X.env := by rfl)
    (hfew : ((backTo cpos (starEach (e :: es) X.env)).all (fun x => !x.1) && (backToKw cpos (keywordEach [] X.env)).all (fun x => x.1.isSome)
      && decide ((e :: es).length + ([] : List Keyword).length + (if ([] : List Keyword).isEmpty then 0 else 1) < 30)) = true := by rfl)
    (hline : (apos.endLine == cpos.line) = true := by rfl) (hs : starEach (e :: es) X.env = (false, eval e X.env) :: starEach es X.env := by rfl) (hplain : (backTo cpos (starEach es X.env)).any (·.1) = false := by rfl) :
    PE X (.Call (.Attribute o name apos) (e :: es) [] cpos) (tBM X.K T r to t) := by
  intro pins s σ H Q I h
  refine wpAny_Call_method_late hbase hfew hline rfl (thn (ho pins s σ H _ I h) fun v s1 ⟨x, H1, I1, r1, ty, q1⟩ => ?_)
  obtain ⟨h1, h2⟩ := tyV_is I1 r1 ty
  refine ⟨T, id, pa, slot, hty, h1, h2, ?_⟩
  have hA := ha cpos pins s1 σ H1 _ I1 q1
  rw [hs] at hA ⊢
  refine Calls.callWith_builtin (by show (false || (backTo cpos (starEach es X.env)).any (·.1)) = false; rw [hplain] <;> rfl) (Calls.evalArgs_plain ?_)
  exact thn hA fun us s2 ⟨vs, H2, I2, r2, q2⟩ => hm pins s2 σ H2 x vs v us Q I2 r1 r2 q2
/- xs.append(e), list.index on a module's tuple .. are MtR facts of 06m -/
end
end L2

namespace L2
open PySem PySem.Spec PyProof.Rows

def MtM (X : Cx) (id : String) (r : V → List V → Hp → VK → Prop) : Prop :=
  ∀ (pins : List (Addr × Obj)) (s : Shared) (σ : St) (H : Hp) (x : V) (xs : List V) (v : Value) (us : List Value) (Q : VK), Inv X pins σ H s → RelV x v → Vals xs us → r x xs H Q →
    wpAny (model X.prog X.w) X.A (call (.builtin id) (v :: us)) (EP X pins σ Q) X.xe s

/-! ### lists of values -/
theorem Vals.one : ∀ {x : V} {us : List Value}, Vals [x] us → ∃ u, us = [u] ∧ RelV x u
  | _, _, .cons r .nil => ⟨_, rfl, r⟩
theorem Vals.two : ∀ {x y : V} {us : List Value}, Vals [x, y] us → ∃ u v, us = [u, v] ∧ RelV x u ∧ RelV y v
  | _, _, _, .cons r (.cons q .nil) => ⟨_, _, rfl, r, q⟩
theorem Vals.zero : ∀ {us : List Value}, Vals [] us → us = []
  | _, .nil => rfl
theorem Vals.dropLast {xs : List V} {us : List Value} (h : Vals xs us) : Vals xs.dropLast us.dropLast := by
  induction h with
  | nil => exact .nil
  | cons r t ih =>
    cases t with
    | nil => exact .nil
    | cons q t' => exact .cons r ih
theorem Vals.eraseIdx : ∀ {xs : List V} {us : List Value} (i : Nat), Vals xs us → Vals (xs.eraseIdx i) (us.eraseIdx i)
  | _, _, _, .nil => .nil
  | _, _, 0, .cons _ t => t
  | _, _, i + 1, .cons r t => .cons r (Vals.eraseIdx i t)
theorem Vals.reverse {xs : List V} {us : List Value} (h : Vals xs us) : Vals xs.reverse us.reverse := by
  induction h with
  | nil => exact .nil
  | cons r t ih => rw [List.reverse_cons, List.reverse_cons]; exact Vals.append ih (.cons r .nil)
theorem len_erase {α : Type} : ∀ (l : List α) (i : Nat), (l.eraseIdx i).length ≤ l.length
  | [], _ => Nat.le_refl _
  | _ :: _, 0 => Nat.le_succ _
  | _ :: r, i + 1 => Nat.succ_le_succ (len_erase r i)
section
variable {X : Cx} {pins : List (Addr × Obj)} {σ : St} {H : Hp} {s : Shared} {l b : Addr} {xs ys zs : List V}

/-! ### the two steps: a tracked list is rewritten, a new list is laid -/
theorem Inv.lset {its its' : List Value} {n : Nat} {f : Array Value → Array Value} {t' : Nat} (I : Inv X pins σ H s) (hH : H l = some (.lst xs))
    (e : s.heap.get? l = some { cls := .type "list", data := .seq its.toArray n }) (hf : f its.toArray = its'.toArray) (hv : Vals ys its') (hz : ys.length ≤ sizeLine) :
    Inv X pins σ (upd H l (.lst ys)) { s with heap := s.heap.update l (Obj.mapSeq f), toks := t' } := by
  have q := PySem.IsL.update e f
  rw [hf] at q
  refine I.write (x := l) (e := l) (by rw [hH]; exact trivial) (.inl rfl) (fun b' u hb hu => (Heap.get?_update_other s.heap (Obj.mapSeq f) (Ne.symm hb)).trans hu) ⟨_, q⟩ ?_
  exact ⟨hz, its', _, hv, q⟩
theorem Inv.lnew {its : List Value} {t' : Nat} (I : Inv X pins σ H s) (hv : Vals ys its) (hz : ys.length ≤ sizeLine) :
    Inv X pins σ (upd H s.heap.objs.size (.lst ys)) { s with heap := s.heap.push { cls := .type "list", data := .seq its.toArray }, toks := t' } :=
  I.laid (fun _ _ q => Heap.get?_push_of_some _ q) (Nat.le_refl _) ⟨hz, its, 0, hv, Heap.get?_push_size _ rfl⟩
theorem Inv.fresh (I : Inv X pins σ H s) : H s.heap.objs.size = none := I.hok.fresh (Nat.le_refl _)
theorem Inv.lstM (I : Inv X pins σ H s) (hH : H l = some (.lst xs)) : xs.length ≤ sizeLine ∧ ∃ (its : List Value) (n : Nat), Vals xs its ∧ xs.length = its.length ∧ s.heap.get? l = some { cls := .type "list", data := .seq its.toArray n } := by
  obtain ⟨z, its, n, r, e⟩ := I.hok l _ hH
  exact ⟨z, its, n, r, r.length, e⟩

theorem notLongL {n : Nat} (h : n ≤ sizeLine) : Builtin.List.listTooLong n = false := by
  unfold Builtin.List.listTooLong
  exact decide_eq_false (by omega)
end

section
variable {X : Cx}

/-! ### methods -/
def rAppend : V → List V → Hp → VK → Prop := fun x vs H Q => ∃ l xs y, x = .ref l ∧ vs = [y] ∧ H l = some (.lst xs) ∧ xs.length < sizeLine ∧ Q .non (upd H l (.lst (xs ++ [y])))
theorem mt_append : MtM X "list.append" rAppend := by
  intro pins s σ H x vs v us Q I rx rv h
  obtain ⟨l, xs, y, rfl, rfl, hH, hz, q⟩ := h
  cases rx
  obtain ⟨u, rfl, ru⟩ := rv.one
  obtain ⟨z, its, n, r, hl, e⟩ := I.lstM hH
  refine call_meets F.slot_list_append ⟨_, e, rfl⟩ F.entry_list_append (F.args_list_append_2 _ _) (PySem.list_append l its.toArray n u (by rw [List.size_toArray]; omega)) ⟨e, ?_⟩
  refine ⟨.non, _, I.lset (its' := its ++ [u]) hH e (by simp) (r.append (.cons ru .nil)) ?_, rfl, q⟩
  rw [List.length_append, List.length_singleton]
  omega

def rExtend : V → List V → Hp → VK → Prop := fun x vs H Q => ∃ l b xs zs, x = .ref l ∧ vs = [.ref b] ∧ H l = some (.lst xs) ∧ H b = some (.lst zs) ∧ xs.length + zs.length ≤ sizeLine ∧ Q .non (upd H l (.lst (xs ++ zs)))
theorem mt_extend : MtM X "list.extend" rExtend := by
  intro pins s σ H x vs v us Q I rx rv h
  obtain ⟨l, b, xs, zs, rfl, rfl, hH, hB, hz, q⟩ := h
  cases rx
  obtain ⟨u, rfl, ru⟩ := rv.one
  cases ru
  obtain ⟨z, its, n, r, hl, e⟩ := I.lstM hH
  obtain ⟨z2, its2, n2, r2, hl2, e2⟩ := I.lstM hB
  have hsz : its.toArray.size + its2.toArray.size ≤ sizeLine := by rw [List.size_toArray, List.size_toArray]; omega
  have hlong : ¬ (!its.toArray.isEmpty && Builtin.List.listTooLong (its.toArray.size + its2.toArray.size)) = true := by
    rw [notLongL hsz, Bool.and_false]
    exact Bool.false_ne_true
  refine call_meets F.slot_list_extend ⟨_, e, rfl⟩ F.entry_list_extend (F.args_list_extend_2 _ _)
    (AutoSeq1.list_extend_list_list_0 l its.toArray n b its2.toArray n2 hlong (by rw [List.size_toArray]; omega) (by omega)) ⟨e, e2, ?_⟩
  refine ⟨.non, _, I.lset (its' := its ++ its2) hH e (by simp) (r.append r2) ?_, rfl, q⟩
  rw [List.length_append]
  omega

def rPop : V → List V → Hp → VK → Prop := fun x vs H Q => ∃ l xs y, x = .ref l ∧ vs = [] ∧ H l = some (.lst xs) ∧ xs[xs.length - 1]? = some y ∧ Q y (upd H l (.lst xs.dropLast))
def rPopAt : V → List V → Hp → VK → Prop := fun x vs H Q => ∃ l xs i k y, x = .ref l ∧ vs = [.int i] ∧ H l = some (.lst xs) ∧ -(2 ^ 63) ≤ i ∧ i < 2 ^ 63 ∧ seqIndex? i xs.length = some k ∧ xs[k]? = some y ∧ Q y (upd H l (.lst (xs.eraseIdx k)))
theorem mt_popAt : MtM X "list.pop" rPopAt := by
  intro pins s σ H x vs v us Q I rx rv h
  obtain ⟨l, xs, i, k, y, rfl, rfl, hH, h1, h2, hk, hy, q⟩ := h
  cases rx
  obtain ⟨u, rfl, ru⟩ := rv.one
  obtain ⟨t, rfl⟩ := ru
  obtain ⟨z, its, n, r, hl, e⟩ := I.lstM hH
  obtain ⟨w, hw, rw'⟩ := r.get hy
  refine call_meets F.slot_list_pop ⟨_, e, rfl⟩ F.entry_list_pop (F.args_list_pop_2 _ _)
    (MeetsSeq.list_pop_at l its.toArray n i t k w (fitsIndex_both h1 h2) (by rw [List.size_toArray, ← hl]; exact hk) (by rw [← Array.getElem?_toList]; exact hw) (by rw [List.size_toArray]; omega)) ⟨e, ?_⟩
  refine ⟨y, _, I.lset (its' := its.eraseIdx k) hH e ?_ (r.eraseIdx k) ?_, rw', q⟩
  · show its.toArray.eraseIdxIfInBounds k = (its.eraseIdx k).toArray
    rw [List.eraseIdxIfInBounds_toArray]
  · have := len_erase xs k
    omega

def rReverse : V → List V → Hp → VK → Prop := fun x vs H Q => ∃ l xs, x = .ref l ∧ vs = [] ∧ H l = some (.lst xs) ∧ Q .non (upd H l (.lst xs.reverse))
def rClear : V → List V → Hp → VK → Prop := fun x vs H Q => ∃ l xs, x = .ref l ∧ vs = [] ∧ H l = some (.lst xs) ∧ Q .non (upd H l (.lst []))
/-! ### list + list, list += list, list * int -/
def rCat : R2 := fun x y H Q => ∃ l b xs zs, x = .ref l ∧ y = .ref b ∧ H l = some (.lst xs) ∧ H b = some (.lst zs) ∧ xs.length + zs.length ≤ sizeLine ∧ ∀ p, H p = none → Q (.ref p) (upd H p (.lst (xs ++ zs)))
theorem op_cat : OpR X (binaryOp .Add) rCat := by
  intro pins s σ H x y v u Q I rx ry h
  obtain ⟨l, b, xs, zs, rfl, rfl, hH, hB, hz, q⟩ := h
  cases rx
  cases ry
  obtain ⟨z, its, n, r, hl, e⟩ := I.lstM hH
  obtain ⟨z2, its2, n2, r2, hl2, e2⟩ := I.lstM hB
  refine PySem.P.add_list e e2 ?_ (by rw [List.size_toArray, List.size_toArray]; omega)
  have ea : its.toArray ++ its2.toArray = (its ++ its2).toArray := by simp
  rw [ea]
  exact ⟨.ref _, _, I.lnew (t' := s.toks) (r.append r2) (by rw [List.length_append]; omega), rfl, q _ I.fresh⟩
/-- a list times an int (a negative one is nothing) -/
def rRep : R2 := fun x y H Q => ∃ l k xs, x = .ref l ∧ y = .int k ∧ H l = some (.lst xs) ∧ -(2 ^ 63) ≤ k ∧ k < 2 ^ 63 ∧ xs.length * k.toNat ≤ sizeLine ∧
  ∀ p, H p = none → Q (.ref p) (upd H p (.lst (List.replicate k.toNat xs).flatten))
/-! ### del xs[i] -/
end

/-! ### xs[a:b] = ys -/
section
variable {prog : Program} {w : World} {A : Around} {E : Value → Shared → Prop} {s : Shared}
set_option maxRecDepth 100000 in
end

section
variable {X : Cx}
end
end L2

namespace Att
open PySem PySem.W PySem.Calls PyProof.Rows

/-! ### the script -/
theorem ints_of_wellAll {P : Params} {h : Heap} : ∀ (ns : List Int) (vs : List Value), WellAll P h vs (ns.map WData.int) → IntsAre vs ns := by
  intro ns
  induction ns with
  | nil =>
    intro vs w
    rw [List.map_nil] at w
    cases w
    exact .nil
  | cons n ns ih =>
    intro vs w
    rw [List.map_cons] at w
    cases w with
    | cons a b =>
      cases a
      exact .cons _ _ (ih _ b)

theorem script_of {l : OpenLaw} {n : Nat} (hn : l.most = some n) {P : Params} {h : Heap} {args : List WData} {vals : List Value}
    (hpre : l.row.toRowW.claim.pre args = true) (hwl : WellAll P h vals args) :
    ∃ a vs ns, vals = [Value.ref a] ∧ args = [WData.list (ns.map WData.int)] ∧ h.get? a = some { cls := .type "list", data := .seq vs.toArray } ∧ IntsAre vs ns ∧ ns.length ≤ n := by
  have hsh : WShape.hasAll [] args [.list .int] = true := (pre_splitW hpre).1
  have hc : l.pre.holds [] { args := args } = true := (pre_splitW hpre).2
  obtain ⟨d, r, rfl, h1, h2⟩ := hasAllW_cons hsh
  obtain rfl := hasAllW_nil h2
  obtain ⟨xs, rfl, h3⟩ := hasW_list h1
  obtain ⟨ns, rfl⟩ := items_int h3
  have hlen : ns.length ≤ n := by
    unfold OpenLaw.pre at hc
    have h4 : (WTm.not (.lt (.lit (.int (n : Int))) (.len (.arg 0)))).holds [] { args := [.list (ns.map .int)] } = true := by
      have h4 := (holds_andW hc).1
      rw [hn] at h4
      exact h4
    have h5 := condW_of h4 (w_not (w_lt w_lit (w_len_list (w_arg rfl))))
    rw [List.length_map] at h5
    refine Nat.le_of_not_lt fun q => ?_
    have q' : (n : Int) < ((ns.length : Nat) : Int) := by omega
    first
      | (rw [decide_eq_true q'] at h5; exact absurd h5 (by decide))
      | (simp at h5; omega)
  cases hwl with
  | cons w1 w2 =>
    cases w2
    cases w1 with
    | list ho hall => exact ⟨_, _, ns, rfl, rfl, ho, ints_of_wellAll ns _ hall, hlen⟩

theorem post_true (l : OpenLaw) (args : List WData) : l.row.toRowW.claim.post args (.bool true) args = true :=
  postW_of (r := l.row.toRowW) (X := (true == true))
    (show WShape.has [] (.bool true) .bool = true by first | rfl | decide | simp [WShape.has, WShape.arms, WShape.armsAll])
    (show (WTm.eq .res (.lit (.bool true))).value [] { args := args, res := some (.bool true), after := args } = some (.bool (true == true)) from w_eq_bool (w_res rfl) w_lit) rfl

/-! ### the attachment: holds_open's last premise (the goal 'hc' behind k_head) from a wpAny of the law's body -/
/-- the same from a codeAny of the CALL (for a layer whose function contracts speak of calls) -/
theorem attach_call {l : OpenLaw} {n : Nat} {q : Program} {loose : List Str} {XP : (Str → Option Value) → Heap → Prop} {YP : World → Heap → Prop} {d : DefRec}
    (hn : l.most = some n) (hdf : d.params.defaults = [])
    (call : ∀ (w : World) (s₀ s₁ : Shared) (mg mb : Str → Option Value) (fa : Addr) (o : Obj) (pm cd doc : Value) (a : Addr) (vs : List Value) (ns : List Int),
      Ground q loose [] XP w s₀ mg mb s₁.heap → YP w s₁.heap →
      s₁.heap.get? fa = some o → o.data = .func (docDef d.name d.params d.body d.scope pm cd doc) → s₁.heap.CodeRec cd d.name → mg d.name = some (.ref fa) →
      s₁.heap.get? a = some { cls := .type "list", data := .seq vs.toArray } → IntsAre vs ns → ns.length ≤ n → s₁.gens = #[] →
      codeAny (model l.prog w) callerA (.call (.ref fa) ⟨[.ref a], []⟩) (fun r s' => r = .ok (.ret (.bool true)) ∧ OldK s₁.heap s'.heap ∧ s'.os = s₁.os ∧ AllBare s'.gens) s₁) :
    WalkO q loose XP YP l.row.toRowW d [] (fun f vs => PySem.call f vs) := by
  intro w s₀ s₁ mg mb G Y fa o pm cd doc dV kV ho hd hcd hD hmg hg args vals as hpre hlay hrd hwl hlo
  obtain rfl : dV = .none := Dflts.none hD hdf
  obtain rfl : kV = .none := Dflts.noKw hD
  obtain ⟨a, vs, ns, rfl, rfl, hobj, hints, hlen⟩ := script_of hn hpre hwl
  refine enter_call (codeAny_mono (call w s₀ s₁ mg mb fa o pm cd doc a vs ns G Y ho (fd_plain hd) hcd hmg hobj hints hlen hg) fun r s' hq => ?_)
  obtain ⟨rfl, h2, h3, h4⟩ := hq
  exact ⟨.inl ⟨.bool true, .bool true, [], rfl, fun _ => rfl, .bool true, post_true l _, fun _ => ⟨List.Pairwise.nil, fun _ hm => (nomatch hm)⟩⟩, h2, h3, h4⟩

/-! ### rules over ANY heap (no ledger) from facts about the written part K: the library's own take a ledger (News) for what they write -/
section
variable {prog : Program} {w : World} {A : Around} {E : Value → Shared → Prop} {s : Shared} {K : Frag}

/-! the whole heap as the ledger: makes every rule that writes through a ledger a rule over any heap -/
def noObjs (h : Heap) : Heap := { h with objs := #[] }
def ledger (h : Heap) (L d : Addr) : List (Addr × Obj) := (List.range h.objs.size).filterMap fun a => if a = L ∨ a = d then none else (h.get? a).map fun o => (a, o)
end
end Att

namespace L2
open PySem PySem.Spec PyProof.Rows

theorem vals_ints : ∀ {vs : List Value} {ns : List Int}, IntsAre vs ns → Vals (ns.map V.int) vs
  | _, _, .nil => .nil
  | _, _, .cons n t h => .cons ⟨t, rfl⟩ (vals_ints h)

/-- nothing is tracked but the script, known to the object (or it is an object of the module) -/
def Only (H : Hp) : Prop := ∀ b, H b = none ∨ ∃ o xs, H b = some (.frz o (.lst xs))

/-- THE HEAD: the law's promise, at the heap behind the top. F, the promise of the law's def, may use that base is part of the heap (so K.In base, base.Ns mainGlobals mg stand in Mod) -/
theorem law_call {P : Program} {w : World} {K : PySem.W.Frag} {mg mb : Str → Option Value} {CX : CXT} {k : Nat} {fa a : Addr} {fd : FuncData} {x : Str} {sp : Sp} {s₁ : Shared} {vs : List Value} {ns : List Int}
    (KX : K.In s₁.heap) (hns : s₁.heap.Ns mainGlobals mg) (hb : s₁.heap.Ns builtinsNs mb) (hbb : ∀ x : Str, x ≠ "__name__" → mb x = bootBuiltins x) (hlim : s₁.heap.NoLimit) (hg : s₁.gens = #[])
    (ha : s₁.heap.get? a = some { cls := .type "list", data := .seq vs.toArray }) (hi : IntsAre vs ns) (hl : ns.length ≤ sizeLine) (hr : Room k callerA)
    (F : ∀ base : Heap, K.In base → base.Ns mainGlobals mg → FnOk P w K mg base CX k fa fd [x] sp) (hbind : ∀ (s : Shared) (u : Value), BindsTo s fd ⟨[u], []⟩ [(x, u)])
    (hsp : ∀ H : Hp, Only H → SqL K H a (ns.map V.int) → sp [.ref a] H (fun v _ => v = .bl true) fun _ _ _ => False)
    (hCX : ∀ H e s', CX [] H s₁ (fun _ _ _ => False) e s' → False) :
    codeAny (model P w) callerA (.call (.ref fa) ⟨[.ref a], []⟩) (fun r s' => r = .ok (.ret (.bool true)) ∧ OldK s₁.heap s'.heap ∧ s'.os = s₁.os ∧ AllBare s'.gens) s₁ := by
  have rv := vals_ints hi
  have lenV := hi.length
  -- from an abstract heap in which nothing but the script may be tracked
  have core : ∀ H : Hp, Only H → SqL K H a (ns.map V.int) → HOk P w H s₁.heap → (∀ b, H b ≠ none → b = a) → (H a ≠ none → K.lookup a = none) →
      codeAny (model P w) callerA (.call (.ref fa) ⟨[.ref a], []⟩) (fun r s' => r = .ok (.ret (.bool true)) ∧ OldK s₁.heap s'.heap ∧ s'.os = s₁.os ∧ AllBare s'.gens) s₁ := by
    intro H hO hS hok hA hK
    have base_of : ∀ {b : Addr} {o : Obj}, s₁.heap.get? b = some o → H b = none → (hidT s₁.heap H).get? b = some o := fun e n => hidT_get e n
    have noA : ∀ {b : Addr} {o : Obj} {es : Array DictEntry} {ep : Nat}, s₁.heap.get? b = some o → o.data = .dict es ep → H b = none := fun {b o es ep} e d => by
      cases q : H b with
      | none => rfl
      | some u =>
        have e' : b = a := hA b (by rw [q]; simp)
        subst e'
        rw [ha] at e; cases e
        have d' : Data.seq vs.toArray _ = Data.dict es ep := d
        cases d'
    have nsK : ∀ {b : Addr} {m : Str → Option Value}, s₁.heap.Ns b m → (hidT s₁.heap H).Ns b m := fun {b m} ⟨o, es, ep, e, d, r⟩ => ⟨o, es, ep, base_of e (noA e d), d, r⟩
    have hKb : K.In (hidT s₁.heap H) := fun b o e => base_of (KX b o e) (by
      cases q : H b with
      | none => rfl
      | some u =>
        have e' : b = a := hA b (by rw [q]; simp)
        subst e'
        rw [hK (by rw [q]; simp)] at e; cases e)
    have hM : Mod K mg (hidT s₁.heap H) := ⟨hKb, nsK hns, ⟨mb, nsK hb, hbb⟩, let ⟨mc, h1, h2⟩ := hlim; ⟨mc, nsK h1, h2⟩⟩
    have e0 : Env0 P w K mg (hidT s₁.heap H) callerA [] s₁ H := ⟨rfl, hM, fun b o e => of_hidT e, Nat.le_of_eq (hidT_size _ _), trivial, fun b hb => absurd (show b ∈ ([] : List Addr) from hb) (by simp), hok, .of_eq hg⟩
    refine codeAny_mono ((F _ hKb (nsK hns)).run callerA [] s₁ H ⟨[.ref a], []⟩ [.ref a] [.ref a] _ _ hr e0 (hbind s₁ (.ref a)) (.cons rfl .nil) (hsp H hO hS)) fun r s' h => ?_
    cases r with
    | error e => exact (hCX H e s' h).elim
    | ok fl =>
      cases fl with
      | next => exact False.elim h
      | brk => exact False.elim h
      | cont => exact False.elim h
      | ret u =>
        obtain ⟨v, H', os, bare, un, hok', r', q⟩ := h
        have q' : v = .bl true := q
        subst q'
        obtain rfl : u = Value.bool true := r'
        refine ⟨rfl, OldK.of_keep fun b o e => ?_, os, bare⟩
        cases q : H b with
        | none => exact un.keep b o e q (by intro z; exact absurd (show b ∈ ([] : List Addr) from z) (by simp)) (by simp)
        | some u =>
          rcases hO b with z | ⟨ob, xs, z⟩
          · rw [q] at z; cases z
          · have z2 := un.frzs b ob _ z
            obtain ⟨e1, _⟩ := hok b _ z
            obtain ⟨e2, _⟩ := hok' b _ z2
            rw [e] at e1; cases e1
            exact e2
  cases hk : K.lookup a with
  | some o =>
    -- the script is one of the module's own objects
    have e := KX a o hk
    rw [ha] at e
    cases e
    refine core (fun _ => none) (fun _ => .inl rfl) (.inr ⟨_, vs.toArray, _, hk, rfl, rfl, rfl, by rw [List.size_toArray, lenV]; exact hl, by simpa using rv⟩) (fun b u z => by have z' : (none : Option HO) = some u := z; cases z') (fun b z => absurd rfl z) fun z => absurd rfl z
  | none =>
    refine core (fun b => if b = a then some (.frz { cls := .type "list", data := .seq vs.toArray } (.lst (ns.map V.int))) else none) (fun b => ?_) (.inl (.inr ⟨{ cls := .type "list", data := .seq vs.toArray }, if_pos rfl⟩)) (fun b u z => ?_) (fun b z => ?_) fun _ => hk
    · by_cases hb : b = a
      · exact .inr ⟨_, _, if_pos hb⟩
      · exact .inl (if_neg hb)
    · by_cases hb : b = a
      · have z' := (if_pos hb).symm.trans z
        cases z'
        subst hb
        exact ⟨ha, by rw [List.length_map]; exact hl, vs, _, rv, ha⟩
      · have z' := (if_neg hb).symm.trans z
        cases z'
    · by_cases hb : b = a
      · exact hb
      · exact absurd (if_neg hb) z
end L2

namespace L2
open PySem PySem.Spec PyProof.Rows

abbrev KOf {K : PySem.W.Frag} {h : Heap} (_ : K.In h) : PySem.W.Frag := K

/-- the goal that k_head leaves (case hc), from the law's promise. F gives the function object fd (K's own) once, then the promise over every base -/
theorem walk_of {l : PySem.W.OpenLaw} {n k : Nat} {q : Program} {loose : List Str} {XP : (Str → Option Value) → Heap → Prop} {YP : World → Heap → Prop} {d : DefRec} {K : Params → PySem.W.Frag} {CX : World → CXT} {sp : World → Sp} {x : Str}
    (hn : l.most = some n) (hn2 : n ≤ sizeLine) (hdf : d.params.defaults = []) (hr : Room k callerA)
    (hY : ∀ (w : World) (h : Heap), YP w h → (K w.params).In h)
    (F : ∀ (w : World) (mg : Str → Option Value) (fa : Addr) (h : Heap), (K w.params).In h → h.Ns mainGlobals mg → mg d.name = some (.ref fa) →
      ∃ fd : FuncData, (∀ (s : Shared) (u : Value), BindsTo s fd ⟨[u], []⟩ [(x, u)]) ∧
        ∀ base : Heap, (K w.params).In base → base.Ns mainGlobals mg → FnOk l.prog w (K w.params) mg base (CX w) k fa fd [x] (sp w))
    (hsp : ∀ (w : World) (H : Hp) (a : Addr) (ns : List Int), ns.length ≤ n → Only H → SqL (K w.params) H a (ns.map V.int) → sp w [.ref a] H (fun v _ => v = .bl true) fun _ _ _ => False)
    (hCX : ∀ (w : World) (H : Hp) (s : Shared) (e : Value) (s' : Shared), CX w [] H s (fun _ _ _ => False) e s' → False) :
    PySem.W.WalkO q loose XP YP l.row.toRowW d [] (fun f vs => PySem.call f vs) := by
  refine Att.attach_call hn hdf fun w s₀ s₁ mg mb fa o pm cd doc a vs ns G Y ho hd hcd hmg hobj hints hlen hg => ?_
  have KX := hY w _ Y
  obtain ⟨fd, hb, hF⟩ := F w mg fa _ KX G.T.g hmg
  exact law_call KX G.T.g G.T.b G.T.builtins G.T.nolimit hg hobj hints (Nat.le_trans hlen hn2) hr hF hb (fun H hO hS => hsp w H a ns hlen hO hS) fun H e s' => hCX w H s₁ e s'
end L2

/- THE LAST THEOREM (shape; LID, My.* are yours):
   My.Adr: a structure of the addresses that your layer names (classes, functions); My.Txt K t: a structure (Prop) of the equations over K;
   My.txt_mk : {K} {implicit addresses ..} (e1 : nsIn K mainGlobals "law" = some (some (.ref f))) (e2 : K.lookup f = some ⟨oc, od, .func (fnOf "law" "law" params body scope dV kV doc pm an cdv ct), sl⟩) (e3 : codeIn K cdv "law" = true) .. : ∃ t, My.Txt K t

set_option maxRecDepth 100000 in
set_option maxHeartbeats 0 in
theorem PySem.Challenge.cw_LID_holds : PySem.Challenge.rw_LID.Holds := by
  w_on; o_law; k_head; (case hw => w_witness2)
  k_fill
  refine L2.walk_of (l := PySem.Challenge.rw_LID) (n := 63) (k := 40) (x := "script") (CX := fun w => ..) (sp := fun _ => My.sp_law) rfl (by decide) rfl ⟨rfl, by decide, by decide⟩ (fun w h Y => PySem.W.kIn_of Y) ?F ?S ?C
  case F =>
    intro w mg fa h KX G hmg
    have T : ∃ t, My.Txt (L2.KOf KX) t := by
      dsimp only [L2.KOf]                          -- K must stand as «<heap const> w.params» for k_is
      refine' My.txt_mk ?e1 ?e2 ?e3 ..
      (case e1 => PySem.W.k_is)                    -- in the order: a name -> its address -> its object -> its parts
      (case e2 => PySem.W.k_is)
      ..
    obtain ⟨t, T⟩ := T
    have e0 := hmg.symm.trans (PySem.W.mg_of KX G T.law)
    cases e0                                       -- fa is the law's own address
    exact ⟨_, fun s u => .of_eq rfl, fun base kb nb => My.law_fn T kb nb⟩     -- if «.of_eq rfl» comes too early: refine' ⟨_, ?b, fun base kb nb => My.law_fn T kb nb⟩; exact fun s u => .of_eq rfl
  case S => exact fun w H a ns hl hO hS => ..
  case C => exact ..
(the tactic k_is has no namespace: write k_is) -/

/-! SHORT WORDS over the layer: a def of the text, its body, what a loop and a test want. -/
namespace L2
open PySem PySem.Spec PyProof.Rows

/-! ### the text by places -/
/-- the j-th statement of a class's body -/
def inClass (s : Stmt) (j : Nat) : Stmt := match s with
  | .ClassDef _ _ _ body _ _ _ _ _ _ _ => body.getD j (.Pass ⟨0, 0, 0, 0⟩)
  | _ => .Pass ⟨0, 0, 0, 0⟩
def defArgs (s : Stmt) : Arguments := match s with
  | .FunctionDef _ a _ _ _ _ _ _ _ _ => a
  | _ => { posonlyargs := [], args := [], vararg := none, kwonlyargs := [], kw_defaults := [], kwarg := none, defaults := [] }
def defBody (s : Stmt) : List Stmt := match s with
  | .FunctionDef _ _ b _ _ _ _ _ _ _ => b
  | _ => []
def defScope (s : Stmt) : Scope := match s with
  | .FunctionDef _ _ _ _ _ _ sc _ _ _ => sc
  | _ => { kind := .function, names := [], isGenerator := false, isCoroutine := false }

/-! ### no exception leaves a def -/
abbrev CX0 : CXT := fun _ _ _ _ _ _ => False
abbrev E0 : XK := fun _ _ _ => False
theorem pass0 {X : Cx} : Passes CX0 X E0 := fun _ _ _ _ _ _ _ h => h.elim

/-! ### a def (or method) of the text as it stands behind the top -/
structure Fun (K : PySem.W.Frag) (x qual : Str) (st : Stmt) (f : Addr) (fd : FuncData) : Prop where
  ex : ∃ (oc : Value) (od : Option Addr) (kV doc pm : Value) (an : Option Addr) (cdv ct : Value) (osl : Array (Option Value)),
    fd = PySem.W.fnOf x qual (defArgs st) (defBody st) (defScope st) .none kV doc pm an cdv ct ∧ K.lookup f = some ⟨oc, od, .func fd, osl⟩ ∧ PySem.W.codeIn K cdv qual = true
  kp : PySem.W.keepIn K (.ref f) = true
section
variable {P : Program} {w : World} {K : PySem.W.Frag} {mg : Str → Option Value} {base : Heap}
/-- THE RULE for a def: its body as a term of rules, and the reading of that term -/
theorem Fun.ok {x qual : Str} {st : Stmt} {f : Addr} {fd : FuncData} {N ps : List Str} {k : Nat} {sp : Sp} (F : Fun K x qual st f fd) (S : FnScope N ps (defScope st)) (len : ∀ vs H Q E, sp vs H Q E → vs.length = ps.length)
    (hbody : ∀ (cdv : Value) (A : Around) (outer : List Env) (s : Shared) (H : Hp) (vs : List V) (Q : VK) (E : XK), Room k (A.deeper (envOfC qual (defScope st) s.heap.objs.size f cdv)) → sp vs H Q E →
      ∃ t, PSs (cxOf CX0 P w K mg base N qual (defScope st) f cdv A outer s H E).nox (defBody st) t ∧ t { nx := fun _ H' => Q .non H', rt := Q } (start N vs) H) : FnOk P w K mg base CX0 (k + 1) f fd ps sp := by
  obtain ⟨oc, od, kV, doc, pm, an, cdv, ct, osl, rfl, lk, hcd⟩ := F.ex
  refine fn_of lk hcd S len fun A outer s H vs Q E hr hsp => ?_
  obtain ⟨t, h, q⟩ := hbody cdv A outer s H vs Q E hr hsp
  exact ⟨t, h.nox, q⟩
/-- how its arguments bind (no defaults): h is «fun _ _ _ _ _ _ us hl => match us, hl with | [_, _], _ => rfl», one _ a parameter -/
theorem Fun.binds {x qual : Str} {st : Stmt} {f : Addr} {fd : FuncData} {ps : List Str} (F : Fun K x qual st f fd)
    (h : ∀ (kV doc pm : Value) (an : Option Addr) (cdv ct : Value) (us : List Value), us.length = ps.length → bindArgs (PySem.W.fnOf x qual (defArgs st) (defBody st) (defScope st) .none kV doc pm an cdv ct) ⟨us, []⟩ = pure (ps.zip us)) : Binds K fd ps [] := by
  obtain ⟨oc, od, kV, doc, pm, an, cdv, ct, osl, rfl, lk, hcd⟩ := F.ex
  exact .all (h kV doc pm an cdv ct)
theorem fun_mk {x qual : Str} {st : Stmt} {f : Addr} {oc : Value} {od an : Option Addr} {osl : Array (Option Value)} {kV doc pm cdv ct : Value} (l : K.lookup f = some ⟨oc, od, .func (PySem.W.fnOf x qual (defArgs st) (defBody st) (defScope st) .none kV doc pm an cdv ct), osl⟩)
    (c : PySem.W.codeIn K cdv qual = true) (k : PySem.W.keepIn K (.ref f) = true) : Fun K x qual st f (PySem.W.fnOf x qual (defArgs st) (defBody st) (defScope st) .none kV doc pm an cdv ct) := ⟨⟨oc, od, kV, doc, pm, an, cdv, ct, osl, rfl, l, c⟩, k⟩
end
/-! ### expressions in short: the name that stands in the i-th slot -/
section
variable {X : Cx}
theorem pv (i : Nat) {x : Str} {pos : Pos} (hN : X.N[i]? = some x := by rfl) (hv : Vis X.env.scope x := by first | exact Or.inl rfl | exact Or.inr (Or.inl rfl) | exact Or.inr (Or.inr rfl)) (hd : (x == ("__debug__" : Str)) = false := by decide)
    (hcd : (x == ("__classdict__" : Str)) = false := by decide) : PE X (.Name x pos) (tVar i) := pe_var hN hv hd hcd
end

/-! ### tests -/
theorem ite2 {c A B : Prop} [Decidable c] (h1 : c → A) (h2 : ¬ c → B) : if c then A else B := by
  by_cases h : c
  · rw [if_pos h]
    exact h1 h
  · rw [if_neg h]
    exact h2 h
/-! ### heaps -/
/-- all that was tracked is as it was -/
def Same (H H' : Hp) : Prop := ∀ b o, H b = some o → H' b = some o
theorem Same.refl (H : Hp) : Same H H := fun _ _ h => h
theorem Same.trans {H H1 H2 : Hp} (a : Same H H1) (b : Same H1 H2) : Same H H2 := fun c o h => b c o (a c o h)
theorem Same.free {H H' : Hp} (e : Same H H') {l : Addr} (h : H' l = Option.none) : H l = Option.none := by
  cases q : H l with
  | none => rfl
  | some o =>
    rw [e l o q] at h
    cases h
theorem Same.seq {K : PySem.W.Frag} {H H' : Hp} {a : Addr} {xs : List V} (e : Same H H') (h : SqL K H a xs) : SqL K H' a xs := by
  rcases h with (h | ⟨o, h⟩) | h
  · exact .inl (.inl (e _ _ h))
  · exact .inl (.inr ⟨o, e _ _ h⟩)
  · exact .inr h

end L2
namespace L2
open PySem PySem.Spec PyProof.Rows

/-! ### the closure of a block -/
def closL (cells : List (Str × Addr)) : List (Str × NameKind) → List (Str × Addr) → List (Str × Addr)
  | [], acc => acc
  | (n, k) :: r, acc => if k == .free then closL cells r ((n, (cells.lookup n).getD 0) :: acc) else closL cells r acc
theorem closureFor_eq {env : Env} {scope : Scope} (h : ∀ n, (n, NameKind.free) ∈ scope.names → ∃ c, env.cells.lookup n = some c) :
    closureFor scope env = pure (closL env.cells scope.names []) := by
  have key : ∀ (names : List (Str × NameKind)) (acc : List (Str × Addr)), (∀ n, (n, NameKind.free) ∈ names → ∃ c, env.cells.lookup n = some c) →
      (forIn (m := Sem) names acc fun x r => match x with | (name, kind) => if (kind == NameKind.free) = true then (do let a ← cellOf env name; pure (ForInStep.yield ((name, a) :: r))) else pure (ForInStep.yield r)) = pure (closL env.cells names acc) := by
    intro names
    induction names with
    | nil => intro acc _; rfl
    | cons x r ih =>
      intro acc hx
      obtain ⟨n, k⟩ := x
      rw [List.forIn_cons]
      unfold closL
      by_cases hk : k = .free
      · subst hk
        obtain ⟨c, hc⟩ := hx n List.mem_cons_self
        simp only [beq_self_eq_true, if_true]
        have e : cellOf env n = pure c := by unfold cellOf; rw [hc]
        rw [e, hc]
        exact ih _ fun m hm => hx m (List.mem_cons_of_mem _ hm)
      · have hb : (k == NameKind.free) = false := by simpa using hk
        simp only [hb, Bool.false_eq_true, if_false]
        exact ih _ fun m hm => hx m (List.mem_cons_of_mem _ hm)
  unfold closureFor
  have := key scope.names [] h
  show ((forIn (m := Sem) scope.names [] fun x r => match x with | (name, kind) => if (kind == NameKind.free) = true then (do let a ← cellOf env name; pure (ForInStep.yield ((name, a) :: r))) else pure (ForInStep.yield r)) >>= fun cs => pure cs) = _
  rw [this]
  rfl
theorem cellsFrom_app : ∀ (names : List (Str × NameKind)) (n : Nat) (acc : List (Str × Addr)), cellsFrom n names acc = cellsFrom n names [] ++ acc
  | [], _, _ => rfl
  | (name, kind) :: r, n, acc => by
    unfold cellsFrom
    split
    · rw [cellsFrom_app r (n + 1) ((name, n) :: acc), cellsFrom_app r (n + 1) [(name, n)], List.append_assoc]; rfl
    · exact cellsFrom_app r n acc
/-- what the closure holds -/
theorem closL_lookup {cells : List (Str × Addr)} : ∀ (names : List (Str × NameKind)) (acc : List (Str × Addr)) (x : Str) (c : Addr), (closL cells names acc).lookup x = some c →
    (acc.lookup x = some c) ∨ ((x, NameKind.free) ∈ names ∧ c = (cells.lookup x).getD 0)
  | [], acc, x, c, h => .inl h
  | (n, k) :: r, acc, x, c, h => by
    unfold closL at h
    split at h
    · rename_i hk
      have hk' : k = .free := by simpa using hk
      subst hk'
      rcases closL_lookup r _ x c h with z | ⟨z, e⟩
      · rw [List.lookup_cons] at z
        cases hb : x == n with
        | true => rw [hb] at z; cases z; rw [beq_iff_eq.mp hb]; exact .inr ⟨List.mem_cons_self, rfl⟩
        | false => rw [hb] at z; exact .inl z
      · exact .inr ⟨List.mem_cons_of_mem _ z, e⟩
    · rcases closL_lookup r _ x c h with z | ⟨z, e⟩
      · exact .inl z
      · exact .inr ⟨List.mem_cons_of_mem _ z, e⟩
theorem closL_acc {cells : List (Str × Addr)} : ∀ (names : List (Str × NameKind)) (acc : List (Str × Addr)) (x : Str), (∃ c, acc.lookup x = some c) → ∃ c, (closL cells names acc).lookup x = some c
  | [], acc, x, h => h
  | (n, k) :: r, acc, x, h => by
    unfold closL
    split
    · refine closL_acc r _ x ?_
      obtain ⟨c, h⟩ := h
      rw [List.lookup_cons]
      cases hb : x == n with
      | true => exact ⟨_, rfl⟩
      | false => exact ⟨c, h⟩
    · exact closL_acc r _ x h
theorem closL_has {cells : List (Str × Addr)} : ∀ (names : List (Str × NameKind)) (acc : List (Str × Addr)) (x : Str), (x, NameKind.free) ∈ names → ∃ c, (closL cells names acc).lookup x = some c
  | [], acc, x, h => by simp at h
  | (n, k) :: r, acc, x, h => by
    unfold closL
    rcases List.mem_cons.mp h with e | h
    · cases e
      simp only [beq_self_eq_true, if_true]
      exact closL_acc r _ _ ⟨(cells.lookup n).getD 0, by rw [List.lookup_cons]; simp⟩
    · split
      · exact closL_has r _ x h
      · exact closL_has r _ x h
theorem cellsFrom_mem : ∀ (names : List (Str × NameKind)) (n : Nat) (acc : List (Str × Addr)) (x : Str) (c : Addr), (x, c) ∈ cellsFrom n names acc → (x, c) ∈ acc ∨ (x, NameKind.cell) ∈ names
  | [], _, _, _, _, h => .inl h
  | (name, kind) :: r, n, acc, x, c, h => by
    unfold cellsFrom at h
    split at h
    · rename_i hk
      have hk' : kind = .cell := by simpa using hk
      subst hk'
      rcases cellsFrom_mem r _ _ x c h with z | z
      · rcases List.mem_cons.mp z with e | z
        · cases e; exact .inr List.mem_cons_self
        · exact .inl z
      · exact .inr (List.mem_cons_of_mem _ z)
    · rcases cellsFrom_mem r _ _ x c h with z | z
      · exact .inl z
      · exact .inr (List.mem_cons_of_mem _ z)

/-! ### the env of a comprehension's block -/
/-- N, sc0: the names and the scope around; N', ixs: the block's names, each its own (none) or one of those around; sc: the block's scope -/
structure CompScope (N : List Str) (sc0 : Scope) (N' : List Str) (ixs : List (Option Nat)) (sc : Scope) : Prop where
  kind : sc.kind = .function
  keys : (sc.names.map (·.1)).Nodup
  nd : N'.Nodup
  len : ixs.length = N'.length
  fv : ∀ (j i : Nat), ixs[j]? = some (some i) → ∃ x, N[i]? = some x ∧ N'[j]? = some x ∧ sc.names.lookup x = some .free
  free : ∀ p ∈ sc.names, p.2 = .free → sc0.names.lookup p.1 = some .cell ∨ sc0.names.lookup p.1 = some .free

theorem lookup_of_mem {α : Type} : ∀ {l : List (Str × α)}, (l.map (·.1)).Nodup → ∀ {x : Str} {k : α}, (x, k) ∈ l → l.lookup x = some k
  | (n, v) :: r, hn, x, k, h => by
    obtain ⟨h1, h2⟩ := List.nodup_cons.mp hn
    rw [List.lookup_cons]
    rcases List.mem_cons.mp h with e | hm
    · cases e; simp
    · have : (x == n) = false := by
        rw [beq_eq_false_iff_ne]
        intro e
        exact h1 (List.mem_map.mpr ⟨_, hm, e⟩)
      rw [this]
      exact lookup_of_mem h2 hm

def compEnv2 (scope : Scope) (L : Addr) (env : Env) : Env :=
  { scope := relabel scope env, locals := L, globals := env.globals, cells := cellsFrom (L + 1) scope.names (closL env.cells scope.names []), qual := env.qual, func := none, code := env.code, frame := env.frame, builtins := env.builtins }

theorem newEnv_comp {M : Model} {A : Around} {E : Value → Shared → Prop} {s : Shared} {scope : Scope} {globals : Addr} {cl : List (Str × Addr)} {qual : Str} {env : Env} {Q : Env → Shared → Prop}
    (hQ : ∀ h', h'.Ns s.heap.objs.size (fun _ => none) → (∀ b o, s.heap.get? b = some o → h'.get? b = some o) → (∀ x c, (x, c) ∈ cellsFrom (s.heap.objs.size + 1) scope.names [] → h'.IsCell c none ∧ s.heap.objs.size < c) →
      ((cellsFrom (s.heap.objs.size + 1) scope.names []).Pairwise fun x y => x.2 ≠ y.2) →
      Q { scope := scope, locals := s.heap.objs.size, globals := globals, cells := cellsFrom (s.heap.objs.size + 1) scope.names cl, qual := qual, func := none, code := env.code, frame := env.frame, builtins := env.builtins } { s with heap := h' }) :
    wpAny M A (newFunctionEnv scope globals cl [] qual none .none (some env)) Q E s := by
  simp only [newFunctionEnv, Option.isSome_some, if_true]
  refine wpAny_bind (wpAny_alloc ?_)
  refine wpAny_bind (wpAny_layCells _ (fun name kind cells => by cases hkc : kind == NameKind.cell <;> simp [hkc]) _ _ _ _ ?_)
  have ok := cellsFrom_ok scope.names (s.heap.push { cls := .type "dict", data := .dict #[] }) (s.heap.objs.size + 1) [] ⟨fun _ _ hm => (nomatch hm), List.Pairwise.nil⟩ (by rw [Heap.size_push]; exact Nat.le_refl _)
  rw [Heap.size_push] at ok
  rw [show ({ s with heap := s.heap.push { cls := .type "dict", data := .dict #[] } } : Shared).heap.objs.size = s.heap.objs.size + 1 from Heap.size_push ..]
  rw [List.forIn_nil]
  refine wpAny_bind (wpAny_pure (wpAny_pure ?_))
  exact hQ _ ((Heap.Ns.new s.heap (.type "dict")).keeps (pushCells_keeps _ _)) (fun b o e => pushCells_keeps _ _ b o (Heap.get?_push_of_some _ e)) (fun x c hm => ⟨(ok.empty x c hm).1, (ok.empty x c hm).2⟩) ok.apart

/-- the context of a comprehension's block, at its entry: s2, H2 just ahead of its env -/
def cxComp (X : Cx) (N' : List Str) (scope : Scope) (s2 : Shared) (H2 : Hp) (fp : List Addr) : Cx :=
  { X with N := N', s₀ := s2, H₀ := H2, env := compEnv2 scope s2.heap.objs.size X.env, outer := X.stack, stack := X.stack, ex := fp, fn := fun x => scope.names.lookup x == some .cell, pn := [], xe := fun _ _ => False }
theorem lookup_relabel {env : Env} : ∀ {names : List (Str × NameKind)} {x : Str} {k : NameKind},
    (names.map fun (n, k) => if (k == NameKind.free && env.scope.kind == .function && env.kindOf n == some .cell) then (n, NameKind.cell) else (n, k)).lookup x = some k →
    ∃ k0, names.lookup x = some k0 ∧ (k = k0 ∨ (k0 = .free ∧ k = .cell))
  | [], _, _, h => by simp at h
  | (n, k0) :: r, x, k, h => by
    have ih := @lookup_relabel env r x k
    have h' : List.lookup x ((if (k0 == NameKind.free && env.scope.kind == .function && env.kindOf n == some .cell) = true then (n, NameKind.cell) else (n, k0)) :: _) = some k := h
    rw [List.lookup_cons]
    by_cases hc : (k0 == NameKind.free && env.scope.kind == .function && env.kindOf n == some .cell) = true
    · rw [if_pos hc, List.lookup_cons] at h'
      cases hx : x == n with
      | true =>
        rw [hx] at h'; cases h'
        have : k0 = .free := by
          have z := hc
          rw [Bool.and_eq_true, Bool.and_eq_true] at z
          simpa using z.1.1
        exact ⟨k0, rfl, .inr ⟨this, rfl⟩⟩
      | false => rw [hx] at h'; exact ih h'
    · rw [if_neg hc, List.lookup_cons] at h'
      cases hx : x == n with
      | true => rw [hx] at h'; cases h'; exact ⟨k0, rfl, .inl rfl⟩
      | false => rw [hx] at h'; exact ih h'
theorem lookup_relabel_of {env : Env} : ∀ {names : List (Str × NameKind)} {x : Str}, names.lookup x = some .free →
    (names.map fun (n, k) => if (k == NameKind.free && env.scope.kind == .function && env.kindOf n == some .cell) then (n, NameKind.cell) else (n, k)).lookup x = some .cell ∨
    (names.map fun (n, k) => if (k == NameKind.free && env.scope.kind == .function && env.kindOf n == some .cell) then (n, NameKind.cell) else (n, k)).lookup x = some .free
  | [], _, h => by simp at h
  | (n, k0) :: r, x, h => by
    have ih := @lookup_relabel_of env r x
    show List.lookup x ((if (k0 == NameKind.free && env.scope.kind == .function && env.kindOf n == some .cell) = true then (n, NameKind.cell) else (n, k0)) :: _) = _ ∨ List.lookup x ((if (k0 == NameKind.free && env.scope.kind == .function && env.kindOf n == some .cell) = true then (n, NameKind.cell) else (n, k0)) :: _) = _
    rw [List.lookup_cons] at h
    cases hx : x == n with
    | true =>
      rw [hx] at h; cases h
      by_cases hc : (NameKind.free == NameKind.free && env.scope.kind == .function && env.kindOf n == some .cell) = true
      · rw [if_pos hc, List.lookup_cons, hx]; exact .inl rfl
      · rw [if_neg hc, List.lookup_cons, hx]; exact .inr rfl
    | false =>
      rw [hx] at h
      by_cases hc : (k0 == NameKind.free && env.scope.kind == .function && env.kindOf n == some .cell) = true
      · rw [if_pos hc, List.lookup_cons, hx]; exact ih h
      · rw [if_neg hc, List.lookup_cons, hx]; exact ih h
def pick (ixs : List (Option Nat)) (σ : St) : St := ixs.map fun o => o.bind fun i => (σ[i]?).join
section
variable {X : Cx} {pins : List (Addr × Obj)} {σ : St} {H : Hp} {s2 : Shared} {N' : List Str} {ixs : List (Option Nat)} {scope : Scope} {fp : List Addr} {h' : Heap}
theorem comp_free (I : Inv X pins σ H s2) (S : CompScope X.N X.env.scope N' ixs scope) {x : Str} (hx : (x, NameKind.free) ∈ scope.names) : ∃ c, X.env.cells.lookup x = some c :=
  I.ok.has x (S.free _ hx rfl)
theorem comp_cells (I : Inv X pins σ H s2) (S : CompScope X.N X.env.scope N' ixs scope) {n : Nat} {x : Str} {c : Addr} (h : (cellsFrom n scope.names (closL X.env.cells scope.names [])).lookup x = some c) :
    ((x, c) ∈ cellsFrom n scope.names [] ∧ (x, NameKind.cell) ∈ scope.names) ∨ ((x, NameKind.free) ∈ scope.names ∧ X.env.cells.lookup x = some c) := by
  rw [cellsFrom_app, List.lookup_append] at h
  cases e : (cellsFrom n scope.names []).lookup x with
  | some d =>
    rw [e] at h
    have z : d = c := by simpa using h
    subst z
    have m := PySem.mem_of_lookup e
    rcases cellsFrom_mem _ _ _ _ _ m with z | z
    · simp at z
    · exact .inl ⟨m, z⟩
  | none =>
    rw [e] at h
    have h' : (closL X.env.cells scope.names []).lookup x = some c := by simpa using h
    rcases closL_lookup _ _ _ _ h' with z | ⟨z, e2⟩
    · simp at z
    · obtain ⟨c0, h0⟩ := comp_free I S z
      rw [h0] at e2
      exact .inr ⟨z, by rw [h0, e2]; rfl⟩
theorem inv_comp (I : Inv X pins σ H s2) (S : CompScope X.N X.env.scope N' ixs scope) (hfp : ∀ b ∈ fp, FpOk X pins H b) (hfo : ∀ b ∈ fp, ∃ o, s2.heap.get? b = some o)
    (hn : h'.Ns s2.heap.objs.size (fun _ => none)) (hk : ∀ b o, s2.heap.get? b = some o → h'.get? b = some o)
    (hc : ∀ x c, (x, c) ∈ cellsFrom (s2.heap.objs.size + 1) scope.names [] → h'.IsCell c none ∧ s2.heap.objs.size < c) (hp : (cellsFrom (s2.heap.objs.size + 1) scope.names []).Pairwise fun x y => x.2 ≠ y.2) :
    Inv (cxComp X N' scope s2 H fp) [] (pick ixs σ) H { s2 with heap := h' } := by
  have old : ∀ {x : Str} {c : Addr}, X.env.cells.lookup x = some c → c < s2.heap.objs.size := fun {x c} e => let ⟨_, q⟩ := I.cell x c e; q.lt
  have cc : ∀ {x : Str} {c : Addr}, (cxComp X N' scope s2 H fp).env.cells.lookup x = some c → ((x, c) ∈ cellsFrom (s2.heap.objs.size + 1) scope.names [] ∧ (x, NameKind.cell) ∈ scope.names) ∨ ((x, NameKind.free) ∈ scope.names ∧ X.env.cells.lookup x = some c) :=
    fun {x c} e => comp_cells I S e
  have isc : ∀ {x : Str} {c : Addr}, (cxComp X N' scope s2 H fp).env.cells.lookup x = some c → ∃ v, h'.IsCell c v := fun {x c} e => by
    rcases cc e with ⟨m, _⟩ | ⟨_, e0⟩
    · exact ⟨_, (hc x c m).1⟩
    · obtain ⟨v, q⟩ := I.cell x c e0
      exact ⟨v, q.keeps hk⟩
  have flt : ∀ b ∈ fp, b < s2.heap.objs.size := fun b hb => let ⟨_, e⟩ := hfo b hb; Heap.lt_size e
  refine ⟨⟨I.ok.mod, S.kind, I.ok.glob, I.ok.blt, Nat.le_refl _, fun x y c e1 e2 => ?_, fun x hx => ?_, fun x c hx e => ?_, I.ok.hd, I.ok.frames, .inl rfl, fun b hb => ⟨Nat.ne_of_lt (flt b hb), fun x c e z => ?_⟩, I.bs, ?_, fun b o e hb => ?_, fun b hb hb2 => ?_, I.stack, I.stkFree⟩,
    rfl, I.bare, Un.kept hk, ⟨_, hn, fun j x v e1 e2 e3 => ?_⟩, fun x c e => isc e, I.hok.fresh (Nat.le_refl _), fun x c e => ?_, fun p hp => absurd (show p ∈ ([] : List (Addr × Obj)) from hp) (by simp), I.hok.kept hk, ?_⟩
  · rcases cc e1 with ⟨m1, _⟩ | ⟨_, o1⟩ <;> rcases cc e2 with ⟨m2, _⟩ | ⟨_, o2⟩
    · exact name_of_addr hp m1 m2
    · exact absurd (Nat.lt_trans (hc _ _ m1).2 (old o2)) (Nat.lt_irrefl _)
    · exact absurd (Nat.lt_trans (hc _ _ m2).2 (old o1)) (Nat.lt_irrefl _)
    · exact I.ok.inj x y c o1 o2
  · have hk0 : ∃ k0, scope.names.lookup x = some k0 ∧ (k0 = .cell ∨ k0 = .free) := by
      rcases hx with hx | hx
      · obtain ⟨k0, e, z⟩ := lookup_relabel (env := X.env) hx
        refine ⟨k0, e, ?_⟩
        rcases z with z | z
        · exact .inl z.symm
        · exact .inr z.1
      · obtain ⟨k0, e, z⟩ := lookup_relabel (env := X.env) hx
        refine ⟨k0, e, ?_⟩
        rcases z with z | z
        · exact .inr z.symm
        · exact .inr z.1
    obtain ⟨k0, e, z⟩ := hk0
    show ∃ c, (cellsFrom (s2.heap.objs.size + 1) scope.names (closL X.env.cells scope.names [])).lookup x = some c
    rw [cellsFrom_app, List.lookup_append]
    rcases z with rfl | rfl
    · obtain ⟨c, hc'⟩ := cell_has (n := s2.heap.objs.size + 1) e
      exact ⟨c, by rw [hc']; rfl⟩
    · cases q : (cellsFrom (s2.heap.objs.size + 1) scope.names []).lookup x with
      | some d => exact ⟨d, rfl⟩
      | none =>
        obtain ⟨c, hc'⟩ := closL_has (cells := X.env.cells) scope.names [] x (PySem.mem_of_lookup e)
        exact ⟨c, by rw [hc']; rfl⟩
  · have hx' : scope.names.lookup x = some .cell := by simpa [cxComp] using hx
    rcases cc e with ⟨m, _⟩ | ⟨m, _⟩
    · exact Nat.le_of_lt (hc _ _ m).2
    · rw [lookup_of_mem S.keys m] at hx'; cases hx'
  · rcases cc e with ⟨m, _⟩ | ⟨_, o1⟩
    · have := flt b hb
      rw [← z] at this
      exact absurd (Nat.lt_trans (hc _ _ m).2 this) (Nat.lt_irrefl _)
    · exact (hfp b hb).2.2.2.2.1 x c o1 z
  · exact Nat.le_trans I.ok.bsz I.sz
  · rcases (hfp b hb).2.2.2.1 with z | z
    · exact I.ok.noex b o e z
    · exact absurd (Nat.lt_of_lt_of_le (Heap.lt_size (I.ok.bs b o e).1) z) (Nat.lt_irrefl _)
  · have := I.stkSub b hb2
    rcases List.mem_cons.mp this with z | z
    · exact (hfp b hb).2.1 z
    · exact (hfp b hb).2.2.1 z
  · -- the names around
    have e2' : (ixs[j]?).bind (fun o => some (o.bind fun i => (σ[i]?).join)) = some (some v) := by
      have e2a : (ixs.map fun o => o.bind fun i => (σ[i]?).join)[j]? = some (some v) := e2
      rw [List.getElem?_map] at e2a
      cases q : ixs[j]? with
      | none => rw [q] at e2a; cases e2a
      | some o => rw [q] at e2a; exact e2a
    cases q : ixs[j]? with
    | none => rw [q] at e2'; cases e2'
    | some o =>
      rw [q] at e2'
      cases o with
      | none => simp at e2'
      | some i =>
        have e3' : (σ[i]?).join = some v := by simpa using e2'
        have e4 : σ[i]? = some (some v) := by
          cases q2 : σ[i]? with
          | none => rw [q2] at e3'; cases e3'
          | some z => rw [q2] at e3'; rw [show z = some v from e3']
        obtain ⟨y, hy1, hy2, hy3⟩ := S.fv j i q
        have exy : x = y := by
          have e1' : N'[j]? = some x := e1
          rw [hy2] at e1'; exact (Option.some.inj e1').symm
        subst exy
        obtain ⟨m, hm, hl⟩ := I.loc
        have hf := S.free _ (PySem.mem_of_lookup hy3) rfl
        obtain ⟨u, r, lk⟩ := hl i x v hy1 e4 (by rcases hf with z | z; exact .inr (.inl z); exact .inr (.inr z))
        refine ⟨u, r, .inr ⟨lookup_relabel_of hy3, ?_⟩⟩
        rcases lk with ⟨k, _⟩ | ⟨_, c, ec, ic⟩
        · have k' : X.env.scope.names.lookup x = some .local := k
          rcases hf with z | z <;> (rw [z] at k'; cases k')
        · refine ⟨c, ?_, ic.keeps hk⟩
          show (cellsFrom (s2.heap.objs.size + 1) scope.names (closL X.env.cells scope.names [])).lookup x = some c
          rw [cellsFrom_app, List.lookup_append]
          cases q3 : (cellsFrom (s2.heap.objs.size + 1) scope.names []).lookup x with
          | some d =>
            rcases cellsFrom_mem _ _ _ _ _ (PySem.mem_of_lookup q3) with z | z
            · simp at z
            · rw [lookup_of_mem S.keys z] at hy3; cases hy3
          | none =>
            obtain ⟨c', hc'⟩ := closL_has (cells := X.env.cells) scope.names [] x (PySem.mem_of_lookup hy3)
            rcases closL_lookup _ _ _ _ hc' with z | ⟨_, e5⟩
            · simp at z
            · rw [ec] at e5
              rw [hc', e5]; rfl
  · rcases cc e with ⟨m, _⟩ | ⟨_, o1⟩
    · exact I.hok.fresh (Nat.le_of_lt (hc _ _ m).2)
    · exact I.freeC x c o1
  · show (ixs.map _).length = N'.length
    rw [List.length_map, S.len]
end
end L2
namespace L2
open PySem PySem.Spec PyProof.Rows

/-! ### the tests of a comprehension -/
def PIfs (X : Cx) (ifs : List Expr) (t : TT) : Prop :=
  ∀ (pins : List (Addr × Obj)) (s : Shared) (σ : St) (H : Hp) (Q : Bool → Hp → Prop), Inv X pins σ H s → t σ H Q →
    wpAny (model X.prog X.w) X.A (forIn ifs true fun c r => if r = true then do let ok ← isTrue c X.env (eval c X.env); pure (ForInStep.yield ok) else pure (ForInStep.yield r)) (TP X pins σ Q) X.xe s
def tTrue : TT := fun _ H Q => Q true H
section
variable {X : Cx}
theorem pifs_nil : PIfs X [] tTrue := fun _ _ _ H _ I h => wpAny_tests_nil ⟨H, I, h⟩
theorem pifs_one {c : Expr} {t : TT} (h : PT X c t) : PIfs X [c] t := fun pins s σ H Q I hw => wpAny_tests_one (h pins s σ H Q I hw)
end

/-! ### a turn of a comprehension of a list -/
theorem codeAny_compLoop2 {prog : Program} {w : World} {A : Around} {R : Result → Shared → Prop} {s : Shared} {elt target iter : Expr} {ifs : List Expr} {scope : Scope} {pos : Pos} {it acc : Value} {env : Env} (I : Nat → Shared → Prop)
    (turn : ∀ n s, I n s → wpAny (model prog w) A (pyNext it) (fun r s1 => match r with
      | none => R (.ok .next) s1
      | some v => wpAny (model prog w) A (letOwnedTupleGo target it v) (fun _ s2 => wpAny (model prog w) A (assign target env v) (fun _ s3 =>
          wpAny (model prog w) A (forIn ifs true fun c r => if r = true then do let ok ← isTrue c env (eval c env); pure (ForInStep.yield ok) else pure (ForInStep.yield r)) (fun ok s4 =>
            if ok = true then wpAny (model prog w) A (eval elt env) (fun x s5 =>
              wpAny (model prog w) A (call (.builtin "list.append") [acc, x]) (fun _ s6 => ∃ m, m < n ∧ I m s6) (fun _ _ => False) s5) (fun _ _ => False) s4
            else ∃ m, m < n ∧ I m s4) (fun _ _ => False) s3) (fun _ _ => False) s2) (fun _ _ => False) s1) (fun _ _ => False) s)
    (n : Nat) (h : I n s) :
    codeAny (model prog w) A (.compLoop (.ListComp elt [⟨target, iter, ifs, 0⟩] scope pos) 0 it acc env) R s := by
  refine codeAny_loop rfl I (fun n s hI => ?_) n h
  show wpAny _ A ((compTurn (.ListComp elt [⟨target, iter, ifs, 0⟩] scope pos) 0 it acc env).onRaise (fun x => do noteFrame x env; theTreesLotGoes x)) _ _ s
  refine wpAny_noted (wpAny_noRaise ?_)
  rw [compTurn_list]
  refine wpAny_bind (wpAny_standAt (wpAny_bind (thn (turn n s hI) fun r s1 h1 => ?_)))
  cases r with
  | none => exact wpAny_pure h1
  | some v =>
    refine wpAny_bind (thn h1 fun _ s2 h2 => wpAny_bind (thn h2 fun _ s3 h3 => wpAny_bind (thn h3 fun ok s4 h4 => ?_)))
    cases ok with
    | false => exact wpAny_pure ⟨rfl, h4⟩
    | true => exact wpAny_bind (wpAny_bind (thn h4 fun x s5 h5 => wpAny_bind (thn h5 fun _ s6 h6 => wpAny_pure (wpAny_pure ⟨rfl, h6⟩))))

/-- the reading of a comprehension's block, its iterator J at hand, the list it fills at p -/
def CompW (J : It) (g : TG) (ti : TT) (te : TE) (τ0 : St) (Q : VK) (p : Addr) (H1 : Hp) : Prop :=
  ∃ W : Nat → Nat → List V → St → Hp → Prop, (∃ m, W 0 m [] τ0 (upd H1 p (.lst []))) ∧ ∀ i m ys τ H2, W i m ys τ H2 → H2 p = some (.lst ys) ∧
    ((J.stop i H2 ∧ Q (.ref p) H2) ∨ (J.go i H2 ∧ ∀ x H3, J.yld i H2 x H3 → g x τ H3 fun τ4 H4 => ti τ4 H4 fun b H5 =>
      if b = true then te τ4 H5 fun y H6 => H6 p = some (.lst ys) ∧ ys.length < sizeLine ∧ ∃ m', m' < m ∧ W (i + 1) m' (ys ++ [y]) τ4 (upd H6 p (.lst (ys ++ [y])))
      else ∃ m', m' < m ∧ W (i + 1) m' ys τ4 H5))
def tComp (wi : TI) (ixs : List (Option Nat)) (g : TG) (ti : TT) (te : TE) : TE := fun σ H Q => wi σ H fun J H1 => ∀ p, H1 p = none → CompW J g ti te (pick ixs σ) Q p H1

section
variable {X : Cx} {pins : List (Addr × Obj)} {σ : St} {H2 : Hp} {s2 : Shared} {N' : List Str} {ixs : List (Option Nat)} {scope : Scope} {tg elt iter : Expr} {ifs : List Expr} {pos : Pos}
/-- behind the block: the state is the outer one's, the block's own dict at C is nobody's -/
def CompEnd (X : Cx) (pins : List (Addr × Obj)) (σ : St) (Q : VK) (acc : Value) (C : Addr) (s' : Shared) : Prop :=
  ∃ (p : Addr) (H' : Hp), acc = .ref p ∧ Inv X pins σ H' s' ∧ FpOk X pins H' C ∧ (∃ m, s'.heap.Ns C m) ∧ Q (.ref p) H'
theorem comp_core {J : It} {fp : List Addr} {it : Addr} {tn : Nat → Heap → Prop} {g : TG} {ti : TT} {te : TE} {Q : VK} {E : Value → Shared → Prop} {RR : Value → Addr → Result → Shared → Prop} (hc : X.calm = true) (S : CompScope X.N X.env.scope N' ixs scope)
    (I2 : Inv X pins σ H2 s2) (T : Turn X.prog X.w X.K tg J fp it tn) (st : tn 0 s2.heap) (hf : ∀ b ∈ fp, FpOk X pins H2 b)
    (hb : ∀ s H fp, PG (cxComp X N' scope s H fp) tg g ∧ PIfs (cxComp X N' scope s H fp) ifs ti ∧ PE (cxComp X N' scope s H fp) elt te)
    (hw : ∀ p, H2 p = none → CompW J g ti te (pick ixs σ) Q p H2) (hR : ∀ acc C s', CompEnd X pins σ Q acc C s' → RR acc C (.ok .next) s') :
    wpAny (model X.prog X.w) X.A (newList []) (fun acc s3 => wpAny (model X.prog X.w) X.A (newFunctionEnv scope X.env.globals (closL X.env.cells scope.names []) [] X.env.qual none .none (some X.env)) (fun cenv s4 =>
      codeAny (model X.prog X.w) X.A (.compStart (.ListComp elt [⟨tg, iter, ifs, 0⟩] scope pos) 0 (.ref it) acc { cenv with scope := relabel scope X.env }) (RR acc cenv.locals) s4) E s3) E s2 := by
  refine wpAny_newObj_type ?_
  have I3 : Inv X pins σ (upd H2 s2.heap.objs.size (.lst [])) { s2 with heap := s2.heap.push { cls := .type "list", data := .seq ([] : List Value).toArray } } :=
    I2.lnew (its := []) (t' := s2.toks) .nil (Nat.zero_le _)
  have hp := hw s2.heap.objs.size I2.fresh
  generalize e3 : ({ s2 with heap := s2.heap.push { cls := .type "list", data := .seq ([] : List Value).toArray } } : Shared) = s3 at I3 ⊢
  generalize eH : upd H2 s2.heap.objs.size (.lst []) = H3 at I3 hp
  have flt : ∀ b ∈ fp, b < s2.heap.objs.size := fun b hb => let ⟨_, e, _⟩ := T.obj _ _ st b hb; Heap.lt_size e
  have get3 : ∀ b o, s2.heap.get? b = some o → s3.heap.get? b = some o := fun b o e => by rw [← e3]; exact Heap.get?_push_of_some _ e
  have st3 : tn 0 s3.heap := T.keep _ _ _ st fun b _ o e => get3 b o e
  have hf3 : ∀ b ∈ fp, FpOk X pins H3 b := fun b hb => ⟨by rw [← eH, upd_ne (Nat.ne_of_lt (flt b hb))]; exact (hf b hb).1, (hf b hb).2⟩
  have ho3 : ∀ b ∈ fp, ∃ o, s3.heap.get? b = some o := fun b hb => let ⟨o, e, _⟩ := T.obj _ _ st3 b hb; ⟨o, e⟩
  refine newEnv_comp fun h4 hn hk hcl hpw => ?_
  have I4 : Inv (cxComp X N' scope s3 H3 fp) [] (pick ixs σ) H3 { s3 with heap := h4 } := inv_comp I3 S hf3 ho3 hn hk hcl hpw
  have st4 : tn 0 ({ s3 with heap := h4 } : Shared).heap := T.keep _ _ _ st3 fun b _ o e => hk b o e
  obtain ⟨hG, hI, hE⟩ := hb s3 H3 fp
  obtain ⟨W, ⟨m0, w0⟩, turn⟩ := hp
  rw [eH] at w0
  have stat : ∀ {H' : Hp}, (∀ b ∈ fp, H' b = none) → ∀ b ∈ fp, FpOk (cxComp X N' scope s3 H3 fp) [] H' b := fun hn b hb =>
    ⟨hn b hb, (I4.ok.exf b hb).1, I4.ok.exfs b hb, .inl hb, fun x c e => (I4.ok.exf b hb).2 x c e, fun p hp => absurd (show p ∈ ([] : List (Addr × Obj)) from hp) (by simp)⟩
  have loop : codeAny (model X.prog X.w) X.A (.compLoop (.ListComp elt [⟨tg, iter, ifs, 0⟩] scope pos) 0 (.ref it) (.ref s2.heap.objs.size) (compEnv2 scope s3.heap.objs.size X.env))
      (RR (.ref s2.heap.objs.size) s3.heap.objs.size) { s3 with heap := h4 } := by
    refine codeAny_compLoop2 (fun n s' => ∃ i ys τ H', Inv (cxComp X N' scope s3 H3 fp) [] τ H' s' ∧ tn i s'.heap ∧ (∀ b ∈ fp, H' b = none) ∧ W i n ys τ H') ?_ m0 ⟨0, [], _, H3, I4, st4, fun b hb => (hf3 b hb).1, w0⟩
    rintro n s5 ⟨i, ys, τ, H5, I5, st5, fr5, w5⟩
    obtain ⟨hp5, w5⟩ := turn i n ys τ H5 w5
    rcases w5 with ⟨stop, qn⟩ | ⟨go, step⟩
    · refine thn (T.done (cxComp X N' scope s3 H3 fp) rfl rfl rfl hc i [] s5 τ H5 _ I5 (stat fr5) st5 stop) fun r s6 ⟨hr, I6⟩ => ?_
      subst hr
      refine hR _ _ _ ⟨_, H5, rfl, ?_, ?_, ?_, qn⟩
      · exact I3.call' (s' := s6) (ch := fp) I6.os I6.base I6.hok I6.bare fun b hb => ⟨(hf3 b hb).2.2.2.1, (hf3 b hb).2.1, (hf3 b hb).2.2.2.2.1, (hf3 b hb).2.2.2.2.2⟩
      · exact I3.fpOk (Nat.le_refl _) I6.free
      · obtain ⟨m, hm, _⟩ := I6.loc
        exact ⟨m, hm⟩
    · refine thn (T.item (cxComp X N' scope s3 H3 fp) rfl rfl rfl hc i [] s5 τ H5 _ I5 (stat fr5) st5 go) fun r s6 ⟨u, hr, h6⟩ => ?_
      subst hr
      refine thn h6 fun _ s7 ⟨x, H7, I7, r7, y7, st7, fr7⟩ => ?_
      have I7' := I7.pinned (stat fr7) (T.obj _ _ st7)
      refine thn (hG _ s7 τ H7 x u _ I7' r7 (step x H7 y7)) fun _ s8 ⟨τ8, H8, I8, q8⟩ => ?_
      refine thn (hI _ s8 τ8 H8 _ I8 q8) fun b s9 ⟨H9, I9, q9⟩ => ?_
      have again : ∀ {τ' : St} {H' : Hp} {s' : Shared} {ys' : List V} {m' : Nat}, Inv (cxComp X N' scope s3 H3 fp) ([] ++ pinsAt fp s7.heap) τ' H' s' → m' < n → W (i + 1) m' ys' τ' H' →
          ∃ m, m < n ∧ ∃ i ys τ H', Inv (cxComp X N' scope s3 H3 fp) [] τ H' s' ∧ tn i s'.heap ∧ (∀ b ∈ fp, H' b = none) ∧ W i m ys τ H' := fun {τ' H' s' ys' m'} I' hm w' => by
        refine ⟨m', hm, i + 1, ys', τ', H', I'.unpinned, T.keep _ _ _ st7 fun b hb o e => (I'.pin (b, o) (List.mem_append_right _ (List.mem_append_right _ (mem_pinsAt hb e)))).1, fun b hb => ?_, w'⟩
        obtain ⟨o, e, d⟩ := T.obj _ _ st7 b hb
        exact (I'.pin (b, o) (List.mem_append_right _ (List.mem_append_right _ (mem_pinsAt hb e)))).2.1
      cases b with
      | false =>
        obtain ⟨m', hm, w'⟩ := q9
        exact again I9 hm w'
      | true =>
        refine thn (hE _ s9 τ8 H9 _ I9 q9) fun y s10 ⟨z, H10, I10, r10, hp10, hz10, m', hm, w'⟩ => ?_
        refine thn (mt_append _ s10 τ8 H10 (.ref s2.heap.objs.size) [z] (.ref s2.heap.objs.size) [y] (fun _ H' => H' = upd H10 s2.heap.objs.size (.lst (ys ++ [z]))) I10 rfl (.cons r10 .nil) ⟨_, _, _, rfl, rfl, hp10, hz10, rfl⟩) fun _ s11 ⟨_, H11, I11, _, e11⟩ => ?_
        subst e11
        exact again I11 hm w'
  exact codeAny_compStart_list loop (T.self X.A 0 _ _ _ st4 loop)

/-- [elt for tg in iter if ..] -/
theorem pe_comp {wi : TI} {g : TG} {ti : TT} {te : TE} (hc : X.calm = true) (S : CompScope X.N X.env.scope N' ixs scope) (hi : PI X tg iter wi)
    (hb : ∀ s H fp, PG (cxComp X N' scope s H fp) tg g ∧ PIfs (cxComp X N' scope s H fp) ifs ti ∧ PE (cxComp X N' scope s H fp) elt te)
    (hs : ∀ x, foldedSetIterable iter X.env x = pure x := by intro _; rfl) : PE X (.ListComp elt [⟨tg, iter, ifs, 0⟩] scope pos) (tComp wi ixs g ti te) := by
  intro pins s σ H Q I h
  rw [eval_ListComp]
  refine wpAny_comprehension_free (use := none) rfl hs (closureFor_eq fun n hn => comp_free I S hn) S.kind (fun x hx hl => lookup_of_mem S.keys (by rw [← hl]; exact hx)) ?_
  refine thn (hi pins s σ H _ I h) fun v s1 h1 => thn h1 fun itv s2 h2 => ?_
  obtain ⟨it, fp, tn, J, H2, e, I2, T, st2, f2, hw⟩ := h2
  subst e
  refine comp_core (RR := fun acc C => compPost (model X.prog X.w) X.A X.xe none (EP X pins σ Q) acc C) hc S I2 T st2 f2 hb hw ?_
  rintro acc C s' ⟨p, H', rfl, I', fC, ⟨m, hm⟩, q⟩
  refine ⟨m, hm, fun h' hs' => ⟨.ref p, H', ?_, rfl, q⟩⟩
  exact I'.turned (it := C) (t' := s'.toks) (fun b o hb e => (hs'.2 b hb).trans e) fC.1 fC.2.1 fC.2.2.2.1 fC.2.2.2.2.1 fC.2.2.2.2.2

/-- x = [elt for tg in iter if ..], x a plain local -/
theorem ps_setComp {wi : TI} {g : TG} {ti : TT} {te : TE} {i : Nat} {x : Str} {pos' spos : Pos} (hc : X.calm = true) (S : CompScope X.N X.env.scope N' ixs scope) (hN : X.N.Nodup) (hx : X.N[i]? = some x) (hl : X.env.scope.names.lookup x = some .local) (hi : PI X tg iter wi)
    (hb : ∀ s H fp, PG (cxComp X N' scope s H fp) tg g ∧ PIfs (cxComp X N' scope s H fp) ifs ti ∧ PE (cxComp X N' scope s H fp) elt te)
    (hsw : swapsWith (.ListComp elt [⟨tg, iter, ifs, 0⟩] scope pos) (some (.Name x pos')) spos.line X.env = pure true := by rfl)
    (hs : ∀ x, foldedSetIterable iter X.env x = pure x := by intro _; rfl) : PS X (.Assign [.Name x pos'] (.ListComp elt [⟨tg, iter, ifs, 0⟩] scope pos) spos) (tAsg (tComp wi ixs g ti te) (gName i)) := by
  intro pins s σ H D I h
  rw [exec_Assign_Name_used _ _ _ _ hsw]
  refine wpAny_bind (wpAny_standAt (wpAny_bind ?_))
  show wpAny _ X.A (do let _ ← comprehension (.ListComp elt [⟨tg, iter, ifs, 0⟩] scope pos) scope X.env _ (newList []) false (eval iter X.env) (some (assign (.Name x pos') X.env))) _ _ s
  refine wpAny_bind (thn (wpAny_comprehension_free (use := some (assign (.Name x pos') X.env)) (Q := fun _ s' => SP X pins D .next s') rfl hs (closureFor_eq fun n hn => comp_free I S hn) S.kind (fun x hx hl => lookup_of_mem S.keys (by rw [← hl]; exact hx)) ?_) fun _ s' hq => wpAny_pure (wpAny_pure hq))
  refine thn (hi pins s σ H _ I h) fun v s1 h1 => thn h1 fun itv s2 h2 => ?_
  obtain ⟨it, fp, tn, J, H2, e, I2, T, st2, f2, hw⟩ := h2
  subst e
  refine comp_core (Q := fun v H' => D.nx (σ.set i (some v)) H') (RR := fun acc C => compPost (model X.prog X.w) X.A X.xe (some (assign (.Name x pos') X.env)) (fun _ s' => SP X pins D .next s') acc C) hc S I2 T st2 f2 hb hw ?_
  rintro acc C s' ⟨p, H', rfl, I', fC, ⟨m, hm⟩, q⟩
  show wpAny (model X.prog X.w) X.A (assign (.Name x pos') X.env (.ref p)) _ _ s'
  refine wpAny_assign_Name (store_ok2 (v := .ref p) I' hN hx (.inl hl) rfl (fun s'' I'' ⟨a, hsb, ha⟩ => ?_) (.inr hl))
  have hCa : C ≠ a := by
    rcases ha with ha | ha
    · rw [ha]; exact fC.2.1
    · exact fun z => fC.2.2.2.2.1 _ _ ha z.symm
  refine ⟨m, hm.sameBut hsb hCa, fun h' hs' => ⟨_, H', ?_, q⟩⟩
  exact I''.turned (it := C) (t' := s''.toks) (fun b o hb e => (hs'.2 b hb).trans e) fC.1 fC.2.1 fC.2.2.2.1 fC.2.2.2.2.1 fC.2.2.2.2.2
end
end L2
namespace L2
open PySem PySem.Spec PyProof.Rows PySem.W PySem.Builtin.ObjectAttr

/-! ### an own error class with an __init__ of its own, under own classes: it is made, then its __init__ runs -/
/-- the heap with the new error and its tuple of arguments -/
def excNew (h : Heap) (C : Addr) (us : List Value) : Heap := (h.push { cls := .type "tuple", data := .seq us.toArray }).push { cls := .ref C, data := .fields #[.ref h.objs.size, .none, .none, .none, .bool false, .none] }
section
variable {P : Program} {w : World} {A : Around} {E : Value → Shared → Prop} {h : Heap} {gs : Array GenState} {dr : Drawn} {tk : Nat} {os : OsState}
variable {cn qn : Str} {C N : Addr} {bases up upB : List Value} {hasD : Bool} {sl : List Str} {subs : List Value} {abst : Bool} {coll : Option Bool} {od : Option Addr} {e0 e1 e2 e3 e5 : Option Value} {B nid iid : String}
variable {mN : Str → Option Value} {us : List Value} {fI : Addr} {oI : Obj}
end

/-! ### what the fragment says of such a class -/
abbrev bmV : List Value := [.type "ValueError", .type "Exception", .type "BaseException", .type "object"]
/-- C is such a class; i: its own __init__, or none -/
def excInI (K : Frag) (C : Addr) (i : Option Value) : Bool :=
  match K.lookup C with
  | some ⟨.type "type", _, .cls cls, slots⟩ =>
    (match cls.mro, slots.toList with
     | .ref C' :: up, [_, _, _, _, some (.builtin n), _] => C' == C && (n == "ValueError.__new__" && (!cls.hasDel && (tailIn K bmV up && (nsOkIn K cls.ns && nsIn K cls.ns "__init__" == some i))))
     | _, _ => false)
  | _ => false
structure ExcAt (h : Heap) (C : Addr) (i : Option Value) : Prop where
  ex : ∃ bm N nm q bs hdct sn sub ab col dd k0 k1 k2 k3 k5 mN, h.get? C = some (excClassObj nm q C N bs bm hdct sn sub ab col dd k0 k1 k2 k3 k5 "ValueError.__new__") ∧ h.Ns N mN ∧ mN "__init__" = i ∧ OwnTail h bmV bm
/-! ### an attribute of such an object is stored, read -/
def overE : List Value → Bool
  | .ref _ :: r => overE r
  | l => l == bmV
/-- an own error class, as the fragment has it -/
structure XCls (K : Frag) (C : Addr) : Prop where
  ga : findIn K (.ref C) "__getattribute__" = some (some (.builtin "BaseException.__getattribute__"))
  gh : findIn K (.ref C) "__getattr__" = some none
  sa : findIn K (.ref C) "__setattr__" = some (some (.builtin "object.__setattr__"))
  hd : hasDictIn K C = true
  ov : ((clsIn K C).any fun cd => overE cd.mro) = true
  be : mroIn K C (.type "BaseException") = some true
  ve : mroIn K C (.type "ValueError") = some true
  ob : mroIn K C (.type "object") = some true
  ka : findIn K (.ref C) "__class__" = some (some (.builtin "object.__class__"))
  kn : specialIn K (.builtin "object.__class__") "__get__" = some (some (.builtin "getset_descriptor.__get__"))
  kt : takesIn K (.builtin "object.__class__") = some true
section
variable {prog : Program} {w : World} {A : Around} {E : Value → Shared → Prop} {s : Shared} {K : Frag} {x C : Addr} {ox : Obj} {od : Option Obj} {name : Str}
/-- the road to BaseException.__getattribute__ -/
theorem exc_getBy {tk : Tok} {fill expr : Bool} {Q : Value → Shared → Prop} (X : K.In s.heap) (I : InstAt s.heap x ox C od) (c : XCls K C)
    (h : wpAny (model prog w) A.in1 (Builtin.«object.__getattribute__» ⟨[.ref x, .str name tk], []⟩) (fun fin s' => match fin with | .done (.ret v) => wpAny (model prog w) A (handedOut v) Q E s' | _ => False) (fun _ _ => False) s) :
    wpAny (model prog w) A (getAttrBy (.ref x) (.str name tk) fill expr) Q E s := by
  have L0 := I.type (M := model prog w)
  have L1 := looks_findIn (M := model prog w) X c.ga
  have L2 := looks_findIn (M := model prog w) X c.gh
  have sub : Looks (model prog w) s.heap (isInstance (.ref x) (.type "BaseException")) true := I.type.andThen (looks_mroIn X c.be)
  have hx2 : (Value.builtin "BaseException.__getattribute__" == Value.builtin "object.__getattribute__") = false := by decide +kernel
  have hx1 : (onTheHeap (Value.ref C) && Value.builtin "BaseException.__getattribute__" == Value.builtin "object.__getattribute__") = false := by rw [hx2]; rfl
  have hk : builtinKind "BaseException.__getattribute__" = some .slot := by decide +kernel
  have hsplit : splitId "BaseException.__getattribute__" = some ("BaseException", "__getattribute__") := by decide +kernel
  unfold getAttrBy
  refine wpAny_holding (wpAny_bind (L0.here (wpAny_bind (L1.here ?_))))
  dsimp only
  rw [hx1]
  show wpAny _ _ (getAttrByItsOwn _ _ _ _ _ _) _ _ _
  unfold getAttrByItsOwn hookBefore
  refine wpAny_bind ?_
  rw [if_pos (show onTheHeap (Value.ref C) = true from rfl)]
  refine L2.here (wpAny_bind (wpAny_attempt (wpAny_holding ?_)))
  unfold callGetattribute
  rw [if_neg (show ¬ (expr && onTheHeap (Value.builtin "BaseException.__getattribute__")) = true by cases expr <;> decide)]
  unfold boundAndCalled
  rw [PySem.F.attrBase_ValueError.ga.bind]
  refine wpAny_bind (wpAny_pure (wpAny_call (codeAny_call_builtin PySem.F.attrBase_ValueError.ga.plain PySem.F.entry_bexc_ga (@check_slot (model prog w) _ _ s "BaseException.__getattribute__" "BaseException" "__getattribute__" (.ref x) [.str name tk] [] _ hk hsplit sub (PySem.F.args_bexc_ga _ _) ?_))))
  refine wpAny_mono h (fun fin s' z => ?_) fun _ _ z => z.elim
  rcases fin with (_ | _ | _ | _) | _ <;> first | exact z | exact z.elim
theorem exc_class {Q : Option Value → Shared → Prop} (X : K.In s.heap) (I : InstAt s.heap x ox C od) (c : XCls K C) (h : Q (some (.ref C)) { s with toks := s.toks + 1 }) : wpAny (model prog w) A (getAttr? (.ref x) "__class__") Q E s := by
  have hf : findObj K C od "__class__" = some (.bind (.builtin "getset_descriptor.__get__") (.builtin "object.__class__")) := by
    obtain ⟨cd, hc, _⟩ := any_some c.hd
    unfold findObj
    rw [hc, Option.bind_some, c.ka, Option.bind_some]
    dsimp only
    rw [c.kn, Option.bind_some]
    dsimp only
    rw [c.kt, Option.bind_some]
  unfold getAttr? getAttrBy?
  refine wpAny_bind (wpAny_mkText (wpAny_bind (wpAny_attempt ?_)))
  have L0 := I.type (M := model prog w)
  have L1 := looks_find (M := model prog w) X I hf
  refine exc_getBy (s := { s with toks := s.toks + 1 }) X I c ?_
  refine wpAny_bind (wpAny_pure (wpAny_bind (wpAny_pure (wpAny_bind (Looks.here (s := { s with toks := s.toks + 1 }) L0 (wpAny_bind (Looks.here (s := { s with toks := s.toks + 1 }) L1 ?_)))))))
  show wpAny _ _ (holding [.builtin "object.__class__"] (call (.builtin "getset_descriptor.__get__") [.builtin "object.__class__", .ref x, .ref C]) >>= ret) _ _ _
  refine wpAny_bind (wpAny_holding (wpAny_call (class_get (s := { s with toks := s.toks + 1 }) (ox := ox) (od := od) X I c.ob ?_)))
  exact wpAny_pure (handed_on rfl (wpAny_pure h))
theorem cls_isType {M : Model} {h : Heap} (X : K.In h) (c : XCls K C) : Looks M h (isType (.ref C)) true := by
  obtain ⟨cls, ic, _⟩ := any_some c.hd
  unfold clsIn at ic
  split at ic
  next at_ =>
    intro A' Q' E' s' k q
    exact wpAny_bind (wpAny_loadPart (part := some headPart) (k _ _ (X _ _ at_)) (wpAny_pure q))
  next => cases ic
theorem kitx_exc (c : XCls K C) : KitX K (.ref x) (.ref C) (fun h => InstAt h x ox C od) where
  ty := fun _ _ _ I => I.type
  it := fun _ _ X _ => cls_isType X c
  ne := fun h tp _ _ _ _ X tup => by
    obtain ⟨cls, ic, _⟩ := any_some c.hd
    cases q : (Value.ref C == .ref tp) with
    | false => rfl
    | true =>
      have e : C = tp := Value.ref.inj (beq_iff_eq.mp q)
      unfold clsIn at ic
      split at ic
      next at_ =>
        have two := (X _ _ at_).symm
        rw [e, tup] at two
        cases two
      next => cases ic
  ca := fun X I k => exc_class X I c k
end
end L2
namespace L2
open PySem PySem.Spec PyProof.Rows PySem.W PySem.Builtin.ObjectAttr

/-! ### a new object at any free place -/
theorem ObjOk.there {P : Program} {w : World} {H : Hp} {h : Heap} {a : Addr} {o : HO} (x : ObjOk P w H h a o) : ∃ ob, h.get? a = some ob := by
  cases o with
  | lst xs => obtain ⟨_, _, _, _, e⟩ := x; exact ⟨_, e⟩
  | tup xs => obtain ⟨_, _, _, ob, e, _⟩ := x; exact ⟨_, e⟩
  | dK kvs => obtain ⟨_, _, _, _, o, _, _, e, _⟩ := x; exact ⟨_, e⟩
  | dT kvs => obtain ⟨_, _, _, _, o, _, _, e, _⟩ := x; exact ⟨_, e⟩
  | set S n => obtain ⟨o, _, _, _, e, _⟩ := x; exact ⟨_, e⟩
  | ins C dx fs => obtain ⟨_, _, _, e, _⟩ := x; exact ⟨_, e⟩
  | own y => exact x
  | xd fs => obtain ⟨_, ⟨_, _, _, e, _⟩, _⟩ := x; exact ⟨_, e⟩
  | rng lo hi => obtain ⟨_, _, _, e⟩ := x; exact ⟨_, e⟩
  | frz ob u => obtain ⟨e, _⟩ := x; exact ⟨_, e⟩
  | tbl ps => exact ⟨_, x⟩
  | met f y => exact ⟨_, x⟩
  | ext φ => exact x.2.1
section
variable {X : Cx} {pins : List (Addr × Obj)} {σ : St} {H : Hp} {s : Shared} {h' : Heap} {a : Addr} {o : HO}
theorem Inv.noneAt (I : Inv X pins σ H s) (e : s.heap.get? a = none) : H a = none := by
  cases q : H a with
  | none => rfl
  | some u =>
    obtain ⟨ob, z⟩ := (I.hok a u q).there
    rw [e] at z; cases z
theorem Inv.put (I : Inv X pins σ H s) (k : ∀ b u, s.heap.get? b = some u → h'.get? b = some u) (e : s.heap.get? a = none) (new : ObjOk X.prog X.w (upd H a o) h' a o) : Inv X pins σ (upd H a o) { s with heap := h' } := by
  have hn := I.noneAt e
  have ne : ∀ b u, s.heap.get? b = some u → b ≠ a := fun b u q z => by rw [z, e] at q; cases q
  refine I.un (t' := s.toks) ⟨fun b u q n _ _ => k b u q, fun b u q n _ _ => ⟨u.slots, k b u q⟩, fun b u q n _ => by rw [upd_ne (ne b u q)]; exact n, fun b u q _ => ⟨u, k b u q⟩, fun b xs q => by rw [upd_ne (ne_of_none q hn)]; exact q,
    fun b u v q => by rw [upd_ne (ne_of_none q hn)]; exact q, fun b ps q => ⟨#[], by rw [upd_ne (ne_of_none q hn), q]; simp⟩⟩ fun b u q => ?_
  by_cases hb : b = a
  · subst hb; rw [upd_same] at q; cases q; exact new
  · rw [upd_ne hb] at q
    exact (I.hok b u q).stay (fun c v _ z => k c v z) (fun c z => by rw [upd_ne (ne_of_none z hn)]; exact z) fun c xs z => by rw [upd_ne (ne_of_none z hn)]; exact z
end

/-! ### an error, tracked: its class, its dict -/
def ExcO (C : Addr) (dx : Option Addr) (a : Addr) : HO := .ext fun h => ∃ t, h.get? a = some { cls := .ref C, dict := dx, data := .fields #[.ref t, .none, .none, .none, .bool false, .none] }
def ExcD (d : Addr) (fs : List (Str × V)) : HO := .ext fun h => fs.length ≤ 100 ∧ ∃ mA, h.Ns1 d mA ∧ (∀ f, RelO (fs.lookup f) (mA f)) ∧ PySem.Within mA (fs.map (·.1))
section
variable {P : Program} {w : World} {H : Hp} {h : Heap} {a d C : Addr} {dx : Option Addr} {fs : List (Str × V)}
end
section
variable {X : Cx} {pins : List (Addr × Obj)} {σ : St} {H : Hp} {s : Shared} {A : Around} {E : Value → Shared → Prop} {a d C : Addr} {dx : Option Addr} {fs : List (Str × V)} {f : Str}
theorem Inv.excAt (I : Inv X pins σ H s) (e : H a = some (ExcO C dx a)) : ∃ t, s.heap.get? a = some { cls := .ref C, dict := dx, data := .fields #[.ref t, .none, .none, .none, .bool false, .none] } := (I.hok a _ e).1
theorem Inv.excDict (I : Inv X pins σ H s) (e : H d = some (ExcD d fs)) : fs.length ≤ 100 ∧ ∃ mA, s.heap.Ns1 d mA ∧ (∀ f, RelO (fs.lookup f) (mA f)) ∧ PySem.Within mA (fs.map (·.1)) := (I.hok d _ e).1

end
end L2
namespace L2
open PySem PySem.Spec PyProof.Rows PySem.W

/-! ### data -/
mutual
inductive Rep (H : Hp) : V → PyData → Prop where
  | non : Rep H .non .none
  | bl (b : Bool) : Rep H (.bl b) (.bool b)
  | int (i : Int) : Rep H (.int i) (.int i)
  | str (x : Str) : Rep H (.str x) (.str x)
  | lst {a : Addr} {xs : List V} {ds : List PyData} : H a = some (.lst xs) → RepAll H xs ds → Rep H (.ref a) (.list ds)
  | tup {a : Addr} {xs : List V} {ds : List PyData} : H a = some (.tup xs) → RepAll H xs ds → Rep H (.ref a) (.tuple ds)
inductive RepAll (H : Hp) : List V → List PyData → Prop where
  | nil : RepAll H [] []
  | cons {x : V} {d : PyData} {xs : List V} {ds : List PyData} : Rep H x d → RepAll H xs ds → RepAll H (x :: xs) (d :: ds)
end
section
variable {X : Cx} {pins : List (Addr × Obj)} {σ : St} {H H' : Hp} {s : Shared}
mutual
theorem Rep.reads (I : Inv X pins σ H s) : ∀ {v : V} {d : PyData} {u : Value}, Rep H v d → RelV v u → ∃ as, Reads s.heap u d as
  | _, _, _, .non, r => by cases r; exact ⟨_, .none⟩
  | _, _, _, .bl b, r => by cases r; exact ⟨_, .bool b⟩
  | _, _, _, .int i, r => by obtain ⟨t, rfl⟩ := r; exact ⟨_, .int i t⟩
  | _, _, _, .str x, r => by obtain ⟨t, rfl⟩ := r; exact ⟨_, .str x t⟩
  | _, _, _, .lst (a := a) (xs := xs) e rs, r => by
    cases r
    obtain ⟨_, its, n, rv, at_⟩ := (show ObjOk X.prog X.w H s.heap a (.lst xs) from I.hok a _ e)
    obtain ⟨as, ra⟩ := RepAll.reads I rs rv
    exact ⟨_, .list at_ rfl rfl ra⟩
  | _, _, _, .tup (a := a) (xs := xs) e rs, r => by
    cases r
    obtain ⟨_, its, rv, ob, at_, hc, n, hd, _⟩ := (show ObjOk X.prog X.w H s.heap a (.tup xs) from I.hok a _ e)
    obtain ⟨as, ra⟩ := RepAll.reads I rs rv
    exact ⟨_, .tuple at_ hc hd ra⟩
theorem RepAll.reads (I : Inv X pins σ H s) : ∀ {vs : List V} {ds : List PyData} {us : List Value}, RepAll H vs ds → Vals vs us → ∃ as, ReadsAll s.heap us ds as
  | _, _, _, .nil, r => by cases r; exact ⟨_, .nil⟩
  | _, _, _, .cons r rs, rv => by
    cases rv with
    | cons q qs =>
      obtain ⟨as, h1⟩ := Rep.reads I r q
      obtain ⟨bs, h2⟩ := RepAll.reads I rs qs
      exact ⟨_, .cons h1 h2⟩
end
mutual
theorem Rep.same : ∀ {v : V} {d : PyData}, Rep H v d → Same H H' → Rep H' v d
  | _, _, .non, _ => .non
  | _, _, .bl b, _ => .bl b
  | _, _, .int i, _ => .int i
  | _, _, .str x, _ => .str x
  | _, _, .lst e rs, k => .lst (k _ _ e) (RepAll.same rs k)
  | _, _, .tup e rs, k => .tup (k _ _ e) (RepAll.same rs k)
theorem RepAll.same : ∀ {vs : List V} {ds : List PyData}, RepAll H vs ds → Same H H' → RepAll H' vs ds
  | _, _, .nil, _ => .nil
  | _, _, .cons r rs, k => .cons (Rep.same r k) (RepAll.same rs k)
end
end
section
variable {X : Cx}
/-- == and != of data -/
def rEqD : R2 := fun x y H Q => ∃ da db, Rep H x da ∧ Rep H y db ∧ da.canLay0 = true ∧ db.canLay0 = true ∧ da.depth ≤ 60 ∧ Q (.bl (PyData.eqv da db)) H
def rNeD : R2 := fun x y H Q => ∃ da db, Rep H x da ∧ Rep H y db ∧ da.canLay0 = true ∧ db.canLay0 = true ∧ da.depth ≤ 60 ∧ Q (.bl (!PyData.eqv da db)) H
theorem op_eqD (hu : X.A.units + 64 < cLine) : OpR X (compareOp .Eq) rEqD := by
  intro pins s σ H x y v u Q I rx ry h
  obtain ⟨da, db, r1, r2, l1, l2, dp, q⟩ := h
  obtain ⟨as, h1⟩ := r1.reads I rx
  obtain ⟨bs, h2⟩ := r2.reads I ry
  exact SeqAt.compareEq_reads h1 h2 l1 l2 (by omega) ⟨.bl _, H, I, rfl, q⟩
theorem op_neD (hu : X.A.units + 64 < cLine) : OpR X (compareOp .NotEq) rNeD := by
  intro pins s σ H x y v u Q I rx ry h
  obtain ⟨da, db, r1, r2, l1, l2, dp, q⟩ := h
  obtain ⟨as, h1⟩ := r1.reads I rx
  obtain ⟨bs, h2⟩ := r2.reads I ry
  exact SeqAt.compareNe_reads h1 h2 l1 l2 (by omega) ⟨.bl _, H, I, rfl, q⟩
/-- in, not in, of data -/
def rInD (neg : Bool) : R2 := fun x y H Q => ∃ d ds, Rep H x d ∧ (Rep H y (.list ds) ∨ Rep H y (.tuple ds)) ∧ d.canLay0 = true ∧ PyData.canLayAll0 ds = true ∧ d.depth ≤ 60 ∧
  Q (.bl (if neg then !(ds.any fun y => PyData.eqv y d) else ds.any fun y => PyData.eqv y d)) H
/-! ### f-strings: a text comes, of so many signs at most -/
def FmtOk (H : Hp) (x : V) : Prop := (∃ z : Str, x = .str z ∧ z.length ≤ 100000) ∨ x = .non ∨ ∃ a d, x = .ref a ∧ Rep H x d ∧ d.showable = true ∧ d.hasDict = false ∧ d.depth ≤ 50 ∧ d.shown.length ≤ 100000
def tFmt (te : TE) : TE := fun σ H Q => te σ H fun x H1 => FmtOk H1 x ∧ ∀ y : Str, y.length ≤ 100000 → Q (.str y) H1
/-- the parts of an f-string, from the left; only that they are texts is kept -/
def PJ (X : Cx) (vs : List Expr) (n : Nat) (t : St → Hp → (Hp → Prop) → Prop) : Prop :=
  ∀ (pins : List (Addr × Obj)) (s : Shared) (σ : St) (H : Hp) (acc : Str) (Q : Hp → Prop), acc.length + n * 100000 ≤ 2000000 → Inv X pins σ H s → t σ H Q →
    Joins (model X.prog X.w) X.A X.xe (evalEach vs X.env) acc (fun out s1 => out.length ≤ 2000000 ∧ ∃ H1, Inv X pins σ H1 s1 ∧ Q H1) s
def tPart1 (te : TE) (tr : St → Hp → (Hp → Prop) → Prop) : St → Hp → (Hp → Prop) → Prop := fun σ H Q => te σ H fun x H1 => (∃ y : Str, x = .str y ∧ y.length ≤ 100000) ∧ tr σ H1 Q
def tPart0 : St → Hp → (Hp → Prop) → Prop := fun _ H Q => Q H
def tFstr (tr : St → Hp → (Hp → Prop) → Prop) : TE := fun σ H Q => tr σ H fun H1 => ∀ y : Str, y.length ≤ 2000000 → Q (.str y) H1
end
end L2
namespace L2
open PySem PySem.Spec PyProof.Rows PySem.W

/-! ### errors are made -/
section
variable {X : Cx} {pins : List (Addr × Obj)} {σ : St} {H : Hp} {s : Shared} {C fI : Addr} {us : List Value} {vs : List V} {Q : VK} {CX : CXT} {k : Nat} {fd : FuncData} {ps : List Str} {sp : Sp} {E : XK} {x : Str} {p pos : Pos} {e : Expr} {es : List Expr} {t : TA}
def tExc0 (C : Addr) (t : TA) : TE := fun σ H Q => t σ H fun vs H1 => vs.length ≤ 100 ∧ ∀ e, H1 e = none → Q (.ref e) (upd H1 e (ExcO C none e))
def tExcI (C : Addr) (sp : Sp) (E : XK) (t : TA) : TE := fun σ H Q => t σ H fun vs H1 => vs.length ≤ 100 ∧ ∀ e, H1 e = none → sp (.ref e :: vs) (upd H1 e (ExcO C none e)) (fun v H2 => v = .non ∧ Q (.ref e) H2) E
/-! ### Base.__init__(self, text) -/
structure BaseIn (K : Frag) (B : Addr) : Prop where
  rd : readsIn K B (.type "type") = true
  ga : specialIn K (.ref B) "__getattribute__" = some (some (.builtin "type.__getattribute__"))
  fi : findCls K (.ref B) (.type "type") "__init__" = some (.val (.builtin "ValueError.__init__"))
def tBaseInit (X : Cx) (t : TA) : TE := fun σ H Q => t σ H fun vs H1 => ∃ a C dx y i, vs = [.ref a, y] ∧ H1 a = some (ExcO C dx a) ∧ XCls X.K C ∧ excInI X.K C i = true ∧ Q .non H1
end

/-! ### self.f = value, e.f, of an error -/
section
variable {X : Cx} {o value e : Expr} {f : Str} {pos pos' : Pos} {ta tv : TE}
def sXnew (X : Cx) (ta tv : TE) (f : Str) : TS := fun D σ H => tv σ H fun y H1 => ta σ H1 fun x H2 => ∃ a C, x = .ref a ∧ H2 a = some (ExcO C none a) ∧ XCls X.K C ∧ findIn X.K (.ref C) f = some none ∧
  ∀ d, H2 d = none → d ≠ a → D.nx σ (upd (upd H2 d (ExcD d [(f, y)])) a (ExcO C (some d) a))
def sXmore (X : Cx) (ta tv : TE) (f : Str) : TS := fun D σ H => tv σ H fun y H1 => ta σ H1 fun x H2 => ∃ a C d fs, x = .ref a ∧ H2 a = some (ExcO C (some d) a) ∧ H2 d = some (ExcD d fs) ∧ XCls X.K C ∧ findIn X.K (.ref C) f = some none ∧ fs.length < 100 ∧
  D.nx σ (upd H2 d (ExcD d (putF f y fs)))
def tXget (X : Cx) (ta : TE) (f : Str) : TE := fun σ H Q => ta σ H fun x H1 => ∃ a C d fs v, x = .ref a ∧ H1 a = some (ExcO C (some d) a) ∧ H1 d = some (ExcD d fs) ∧ XCls X.K C ∧ findIn X.K (.ref C) f = some none ∧ fs.lookup f = some v ∧ Q v H1
/-! ### isinstance(x, C) -/
def rIsi (K : Frag) : List V → Hp → VK → Prop := fun xs H Q => ∃ x c t cv b, xs = [x, c] ∧ RelV c cv ∧ (TyOf K H x t ∨ ∃ a C dx, x = .ref a ∧ t = .ref C ∧ H a = some (ExcO C dx a) ∧ XCls K C ∧ (∀ d, dx = some d → ∃ fs, H d = some (ExcD d fs))) ∧ kitOne K t cv = some b ∧ Q (.bl b) H
theorem call_isi : CallR X (.builtin "isinstance") (fun xs H Q => (∃ x, (∃ C, xs = [x, .ref C]) ∨ (∃ T, xs = [x, .ty T])) ∧ rIsi X.K xs H Q) := by
  intro pins s σ H xs us Q I r h
  obtain ⟨hx, x, c, t, cv, b, rfl, rc, ty, e, q⟩ := h
  obtain ⟨u, w', rfl, ru, rw'⟩ := r.two
  have ecv : w' = cv := by
    obtain ⟨x', ⟨C, z⟩ | ⟨T, z⟩⟩ := hx
    · cases z; cases rc; cases rw'; rfl
    · cases z; cases rc; cases rw'; rfl
  subst ecv
  rcases ty with ty | ⟨a, C, dx, rfl, rfl, ea, c, hd⟩
  · exact isinst_ok I ru ty e fun tk => ⟨.bl b, H, I.tok _, rfl, q⟩
  · cases ru
    obtain ⟨t, at_⟩ := I.excAt ea
    cases dx with
    | none =>
      have J : InstAt s.heap a _ C none := ⟨at_, rfl, rfl, True.intro⟩
      exact kia_one (kitx_exc c) I.kIn J e (fun z => nomatch z) fun tk => ⟨.bl b, H, I.tok _, rfl, q⟩
    | some d =>
      obtain ⟨fs, ed⟩ := hd d rfl
      obtain ⟨_, mA, n, _⟩ := I.excDict ed
      obtain ⟨od, hod, _⟩ := lookIn_ns n
      have J : InstAt s.heap a _ C (some od) := ⟨at_, rfl, rfl, hod⟩
      exact kia_one (kitx_exc c) I.kIn J e (fun z => nomatch z) fun tk => ⟨.bl b, H, I.tok _, rfl, q⟩
end
end L2
namespace L2
open PySem PySem.Spec PyProof.Rows PySem.W

/-! ### enumerate over a list -/
def Ite (K : Frag) (l : Addr) : It :=
  ⟨fun i H => ∃ xs x, SqL K H l xs ∧ xs[i]? = some x, fun i H x H' => ∃ t v, H t = none ∧ x = .ref t ∧ (∀ xs, SqL K H l xs → xs[i]? = some v) ∧ H' = upd H t (.tup [.int i, v]), fun i H => ∃ xs, SqL K H l xs ∧ xs.length ≤ i⟩
theorem turn_enum {P : Program} {w : World} {K : Frag} {elts : List Expr} {n1 : Nat} {tp : Pos} (l e it : Addr) (hne : e ≠ it) :
    Turn P w K (.Tuple elts n1 tp) (Ite K l) [e, it] e (fun i h => (∃ old, IsEnum h e it i old) ∧ h.IsListIter it l i) where
  mem := by simp
  obj := fun i h st b hb => by
    obtain ⟨⟨old, h1⟩, h2⟩ := st
    rcases List.mem_cons.mp hb with z | z
    · subst z; exact ⟨_, h1, fun v q => by cases q⟩
    · have z' : b = it := by simpa using z
      subst z'
      obtain ⟨o, q, _, d⟩ := h2
      exact ⟨o, q, fun v z => by rw [d] at z; cases z⟩
  keep := fun i h h' st k => by
    obtain ⟨⟨old, h1⟩, h2⟩ := st
    exact ⟨⟨old, k e (by simp) _ h1⟩, h2.at fun o q => k it (by simp) o q⟩
  item := by
    intro X hP hw hK hc i pins s σ H E I hf st hg
    subst hP hw hK
    obtain ⟨xs, x, hq, hx⟩ := hg
    obtain ⟨its, rv, p, hz⟩ := I.list hq
    obtain ⟨u, hu, ru⟩ := rv.get hx
    obtain ⟨⟨old, h1⟩, h2⟩ := st
    have fe := hf e (by simp)
    have fi := hf it (by simp)
    refine wpAny_pyNext_enum_item h1 h2 p.isList (x := u) (by simpa using hu) hne fun h' e1 i1 t1 z1 k1 => ⟨_, rfl, ?_⟩
    refine wpAny_letOwnedTupleGo_enum (s := { s with heap := h', toks := s.toks + 1 }) e1 fun h'' e2 sb => ?_
    have eS : e ≠ s.heap.objs.size := Nat.ne_of_lt (Heap.lt_size h1)
    have k2 : ∀ b o, b ≠ e → b ≠ it → s.heap.get? b = some o → h''.get? b = some o := fun b o n1 n2 q => (sb.2 b n1).trans (k1 b o n1 n2 q)
    have t2 : h''.get? s.heap.objs.size = some { cls := .type "tuple", data := .seq #[.int i s.toks, u] } := (sb.2 _ (Ne.symm eS)).trans t1
    have hn : H s.heap.objs.size = none := I.hok.fresh (Nat.le_refl _)
    have lt : ∀ b o, s.heap.get? b = some o → b ≠ s.heap.objs.size := fun b o q => Nat.ne_of_lt (Heap.lt_size q)
    have trk : ∀ b o, H b = some o → b ≠ e ∧ b ≠ it := fun b o q => ⟨(fun z => by rw [z, fe.1] at q; cases q), (fun z => by rw [z, fi.1] at q; cases q)⟩
    have nch : ∀ b, b ∉ [e, it] → b ≠ e ∧ b ≠ it := fun b hb => ⟨fun z => hb (by simp [z]), fun z => hb (by simp [z])⟩
    have J : Inv X pins σ (upd H s.heap.objs.size (.tup [.int i, x])) { s with heap := h'', toks := s.toks + 1 } := by
      refine I.step (g' := s.gens) (d' := s.drawn) (t' := s.toks + 1) (ch := [e, it]) (fun b hb => ?_) (fun b o _ _ hc q _ => k2 b o (nch b hc).1 (nch b hc).2 q) (fun b o _ _ hc q _ => ⟨o.slots, k2 b o (nch b hc).1 (nch b hc).2 q⟩)
        (fun b o _ q n => by rw [upd_ne (lt b o q)]; exact n) (fun b o hc q => ⟨o, k2 b o (nch b hc).1 (nch b hc).2 q⟩) (fun b ys q => by rw [upd_ne (ne_of_none q hn)]; exact q) (fun b o v q => by rw [upd_ne (ne_of_none q hn)]; exact q)
        (fun b ps q => ⟨#[], by rw [upd_ne (ne_of_none q hn), q]; simp⟩) (fun m hm => ?_) (fun b o q => ?_) I.bare
      · rcases List.mem_cons.mp hb with z | z
        · subst z; exact ⟨fe.2.2.2.1, fe.2.1, fe.2.2.2.2.1, fe.2.2.2.2.2⟩
        · have z' : b = it := by simpa using z
          subst z'; exact ⟨fi.2.2.2.1, fi.2.1, fi.2.2.2.2.1, fi.2.2.2.2.2⟩
      · obtain ⟨o, es, ep, ho, r⟩ := hm
        exact ⟨o, es, ep, k2 _ o (Ne.symm fe.2.1) (Ne.symm fi.2.1) ho, r⟩
      · by_cases hb : b = s.heap.objs.size
        · subst hb
          rw [upd_same] at q; cases q
          exact ⟨by rw [sizeLine_eq]; show 2 ≤ _; decide, [.int i s.toks, u], .cons ⟨_, rfl⟩ (.cons ru .nil), _, t2, rfl, _, rfl, rfl⟩
        · rw [upd_ne hb] at q
          refine (I.hok b o q).stay (fun c v hc z => ?_) (fun c z => by rw [upd_ne (ne_of_none z hn)]; exact z) fun c ys z => by rw [upd_ne (ne_of_none z hn)]; exact z
          rcases hc with hc | hc
          · subst hc; exact k2 _ v (trk _ _ q).1 (trk _ _ q).2 z
          · exact k2 c v (trk _ _ hc).1 (trk _ _ hc).2 z
    refine ⟨.ref s.heap.objs.size, _, J, rfl, ⟨s.heap.objs.size, x, hn, rfl, fun ys hy => by rw [I.list_inj hy hq]; exact hx, rfl⟩, ⟨⟨u, e2⟩, ?_⟩, fun b hb => ?_⟩
    · exact i1.extBut sb.extBut (Ne.symm hne)
    · have : b ≠ s.heap.objs.size := by
        rcases List.mem_cons.mp hb with z | z
        · rw [z]; exact eS
        · have z' : b = it := by simpa using z
          obtain ⟨o, q, _⟩ := h2
          rw [z']; exact lt _ _ q
      rw [upd_ne this]; exact (hf b hb).1
  done := by
    intro X hP hw hK hc i pins s σ H E I hf st hg
    subst hP hw hK
    obtain ⟨xs, hq, hx⟩ := hg
    obtain ⟨its, rv, p, hz⟩ := I.list hq
    obtain ⟨⟨old, h1⟩, h2⟩ := st
    have fi := hf it (by simp)
    have hl := rv.length
    exact wpAny_pyNext_enum_end (I.ok.hd hc) h1 h2 p.isList (by simp; omega) fun h' eb => ⟨rfl, I.turned (t' := s.toks) (fun b o hb q => eb b o hb q) fi.1 fi.2.1 fi.2.2.2.1 fi.2.2.2.2.1 fi.2.2.2.2.2⟩
  self := fun _ _ _ _ _ st h => let ⟨⟨_, h1⟩, _⟩ := st; wpAny_pyIter_enum h1 h
section
variable {X : Cx}
def iEnum (K : Frag) (ta : TA) : TI := fun σ H R => ta σ H fun vs H1 => ∃ a, vs = [.ref a] ∧ (∃ xs, SqL K H1 a xs) ∧ R (Ite K a) H1
theorem pi_enum {a : Expr} {ta : TA} {p pos tp : Pos} {elts : List Expr} {n1 : Nat} (hg : Gl X "enumerate") (hm : X.mg "enumerate" = none) (ha : PA X [a] ta) (hs : starEach [a] X.env = [(false, eval a X.env)] := by rfl) :
    PI X (.Tuple elts n1 tp) (.Call (.Name "enumerate" p) [a] [] pos) (iEnum X.K ta) := by
  intro pins s σ H R I h
  refine Call_ (ld_blt I hg hm (show bootBuiltins "enumerate" = some (.type "enumerate") by decide +kernel) (PyProof.Rows.callWith_type1 (thn (ha pos pins s σ H _ I h) fun us s1 ⟨vs, H1, I1, r1, q1⟩ => ?_) hs rfl))
  obtain ⟨l, e, ⟨xs, hq⟩, q⟩ := q1
  subst e
  obtain ⟨u, rfl, ru⟩ := r1.one
  cases ru
  obtain ⟨its, rv, pl, hz⟩ := I1.list hq
  refine call_enumerate_list pl.isList fun h' e1 i1 z1 k1 => ?_
  have I2 : Inv X pins σ H1 { s1 with heap := h' } := I1.kept (t' := s1.toks) k1
  refine wpAny_pyIter_enum (s := { s1 with heap := h' }) e1 ?_
  refine ⟨s1.heap.objs.size + 1, [s1.heap.objs.size + 1, s1.heap.objs.size], _, _, H1, rfl, I2, turn_enum l (s1.heap.objs.size + 1) s1.heap.objs.size (Nat.succ_ne_self _), ⟨⟨.none, e1⟩, i1⟩, fun b hb => ?_, q⟩
  rcases List.mem_cons.mp hb with z | z
  · subst z; exact I1.fpOk (Nat.le_succ _) (I1.hok.fresh (Nat.le_succ _))
  · have z' : b = s1.heap.objs.size := by simpa using z
    subst z'; exact I1.fpOk (Nat.le_refl _) (I1.hok.fresh (Nat.le_refl _))

/-! ### texts: join, slices -/
theorem strsAre_of : ∀ {ys : List Str} {us : List Value}, Vals (ys.map V.str) us → StrsAre us ys := by
  intro ys
  induction ys with
  | nil => intro us r; cases r; exact .nil
  | cons y ys ih =>
    intro us r
    cases r with
    | cons q qs =>
      obtain ⟨t, rfl⟩ := q
      exact .cons _ _ (ih qs)
def rJoin (K : Frag) : V → List V → Hp → VK → Prop := fun x vs H Q => ∃ (z : Str) (p : Addr) (ys : List Str), x = .str z ∧ vs = [.ref p] ∧ (SqL K H p (ys.map V.str) ∨ SqT K H p (ys.map V.str)) ∧ (ys.map (·.length)).sum + ys.length * z.length ≤ 1000000 ∧ Q (.str (Txt.join z ys)) H
theorem mt_join : MtR X "str.join" (rJoin X.K) := by
  intro pins s σ H x xs v us Q I rx rv h
  obtain ⟨z, p, ys, rfl, rfl, hp, hz, q⟩ := h
  obtain ⟨t, rfl⟩ := rx
  obtain ⟨u, rfl, ru⟩ := rv.one
  cases ru
  rcases hp with hp | hp
  · obtain ⟨its, r, pl, _⟩ := I.list hp
    exact join_list pl.isList (by simpa using strsAre_of r) (by omega) fun t' k => ⟨.str _, H, I.tok _, ⟨_, rfl⟩, q⟩
  · obtain ⟨its, r, pl, _⟩ := I.tuple hp
    exact join_tuple pl (by simpa using strsAre_of r) (by omega) fun t' k => ⟨.str _, H, I.tok _, ⟨_, rfl⟩, q⟩
def rSlS : V → Option Int → Option Int → Hp → VK → Prop := fun x lo hi H Q => ∃ z : Str, x = .str z ∧ z.length ≤ 1000000 ∧ Q (.str (Txt.slice z lo hi)) H
theorem sl_str : SlR X rSlS := by
  intro pins s σ H x v vl vu lo hi sl Q I rx hs pl pu h
  obtain ⟨z, rfl, hz, q⟩ := h
  obtain ⟨t, rfl⟩ := rx
  have fz : (Txt.slice z lo hi).length ≤ sizeLine := Nat.le_trans (Txt.slice_le z _ _) (by rw [sizeLine_eq]; omega)
  refine ⟨"str", _, PySem.F.slot_str_getitem.lookup, typeIs_str _ _ _, ?_⟩
  cases pl with
  | none =>
    cases pu with
    | none => exact wpAny_getItem_str_slice (l := none) (u := none) (st := none) hs rfl (post_val_or_str ⟨fz, fun t' k => ⟨.str _, H, I.tok _, ⟨_, rfl⟩, q⟩⟩)
    | int j tj => exact wpAny_getItem_str_slice (l := none) (u := some (j, tj)) (st := none) hs rfl (post_val_or_str ⟨fz, fun t' k => ⟨.str _, H, I.tok _, ⟨_, rfl⟩, q⟩⟩)
  | int i ti =>
    cases pu with
    | none => exact wpAny_getItem_str_slice (l := some (i, ti)) (u := none) (st := none) hs rfl (post_val_or_str ⟨fz, fun t' k => ⟨.str _, H, I.tok _, ⟨_, rfl⟩, q⟩⟩)
    | int j tj => exact wpAny_getItem_str_slice (l := some (i, ti)) (u := some (j, tj)) (st := none) hs rfl (post_val_or_str ⟨fz, fun t' k => ⟨.str _, H, I.tok _, ⟨_, rfl⟩, q⟩⟩)
end

/-! ### the forms one uses of a comprehension -/
def CW (Pv : Nat → List V → St → Hp → Prop) (n i m : Nat) (ys : List V) (τ : St) (H : Hp) : Prop := m = n - i ∧ i ≤ n ∧ Pv i ys τ H
theorem cw_next {Pv : Nat → List V → St → Hp → Prop} {n i : Nat} {ys : List V} {τ : St} {H : Hp} (h : i < n) (p : Pv (i + 1) ys τ H) : ∃ m', m' < n - i ∧ CW Pv n (i + 1) m' ys τ H := ⟨n - (i + 1), by omega, rfl, h, p⟩
/-- over a range -/
theorem comp_range {lo : Int} {n : Nat} {g : TG} {ti : TT} {te : TE} {τ0 : St} {Q : VK} {p : Addr} {H1 : Hp} (Pv : Nat → List V → St → Hp → Prop) (h0 : Pv 0 [] τ0 (upd H1 p (.lst []))) (hl : ∀ i ys τ H, Pv i ys τ H → H p = some (.lst ys))
    (hs : ∀ i ys τ H, i < n → Pv i ys τ H → g (.int (lo + i)) τ H fun τ4 H4 => ti τ4 H4 fun b H5 => if b = true then te τ4 H5 fun y H6 => H6 p = some (.lst ys) ∧ ys.length < sizeLine ∧ ∃ m', m' < n - i ∧ CW Pv n (i + 1) m' (ys ++ [y]) τ4 (upd H6 p (.lst (ys ++ [y]))) else ∃ m', m' < n - i ∧ CW Pv n (i + 1) m' ys τ4 H5)
    (hd : ∀ ys τ H, Pv n ys τ H → Q (.ref p) H) : CompW (Itr lo n) g ti te τ0 Q p H1 := by
  refine ⟨CW Pv n, ⟨n, by simp, Nat.zero_le _, h0⟩, ?_⟩
  rintro i m ys τ H ⟨rfl, hi, pv⟩
  refine ⟨hl i ys τ H pv, ?_⟩
  by_cases hlt : i < n
  · refine .inr ⟨hlt, fun x H3 y3 => ?_⟩
    obtain ⟨e3, ex⟩ := y3
    subst e3 ex
    exact hs i ys τ _ hlt pv
  · have e : i = n := by omega
    subst e
    exact .inl ⟨Nat.le_refl _, hd ys τ H pv⟩
/-- over a list, over a tuple, that the block leaves as it is -/
theorem comp_list {K : Frag} {a : Addr} {xs : List V} {g : TG} {ti : TT} {te : TE} {τ0 : St} {Q : VK} {p : Addr} {H1 : Hp} (Pv : Nat → List V → St → Hp → Prop) (h0 : Pv 0 [] τ0 (upd H1 p (.lst []))) (hl : ∀ i ys τ H, Pv i ys τ H → H p = some (.lst ys) ∧ SqL K H a xs)
    (hs : ∀ i x ys τ H, xs[i]? = some x → Pv i ys τ H → g x τ H fun τ4 H4 => ti τ4 H4 fun b H5 => if b = true then te τ4 H5 fun y H6 => H6 p = some (.lst ys) ∧ ys.length < sizeLine ∧ ∃ m', m' < xs.length - i ∧ CW Pv xs.length (i + 1) m' (ys ++ [y]) τ4 (upd H6 p (.lst (ys ++ [y]))) else ∃ m', m' < xs.length - i ∧ CW Pv xs.length (i + 1) m' ys τ4 H5)
    (hd : ∀ ys τ H, Pv xs.length ys τ H → Q (.ref p) H) : CompW (Itl K a) g ti te τ0 Q p H1 := by
  refine ⟨CW Pv xs.length, ⟨xs.length, by simp, Nat.zero_le _, h0⟩, ?_⟩
  rintro i m ys τ H ⟨rfl, hi, pv⟩
  obtain ⟨hp, hq⟩ := hl i ys τ H pv
  refine ⟨hp, ?_⟩
  by_cases hlt : i < xs.length
  · refine .inr ⟨⟨xs, xs[i], hq, by simp [hlt]⟩, fun x H3 y3 => ?_⟩
    obtain ⟨e3, ex⟩ := y3
    subst e3
    exact hs i x ys τ _ (ex xs hq) pv
  · have e : i = xs.length := by omega
    subst e
    exact .inl ⟨⟨xs, hq, Nat.le_refl _⟩, hd ys τ H pv⟩
theorem comp_tup {K : Frag} {a : Addr} {xs : List V} {g : TG} {ti : TT} {te : TE} {τ0 : St} {Q : VK} {p : Addr} {H1 : Hp} (Pv : Nat → List V → St → Hp → Prop) (h0 : Pv 0 [] τ0 (upd H1 p (.lst []))) (hl : ∀ i ys τ H, Pv i ys τ H → H p = some (.lst ys) ∧ SqT K H a xs)
    (hs : ∀ i x ys τ H, xs[i]? = some x → Pv i ys τ H → g x τ H fun τ4 H4 => ti τ4 H4 fun b H5 => if b = true then te τ4 H5 fun y H6 => H6 p = some (.lst ys) ∧ ys.length < sizeLine ∧ ∃ m', m' < xs.length - i ∧ CW Pv xs.length (i + 1) m' (ys ++ [y]) τ4 (upd H6 p (.lst (ys ++ [y]))) else ∃ m', m' < xs.length - i ∧ CW Pv xs.length (i + 1) m' ys τ4 H5)
    (hd : ∀ ys τ H, Pv xs.length ys τ H → Q (.ref p) H) : CompW (Itt K a) g ti te τ0 Q p H1 := by
  refine ⟨CW Pv xs.length, ⟨xs.length, by simp, Nat.zero_le _, h0⟩, ?_⟩
  rintro i m ys τ H ⟨rfl, hi, pv⟩
  obtain ⟨hp, hq⟩ := hl i ys τ H pv
  refine ⟨hp, ?_⟩
  by_cases hlt : i < xs.length
  · refine .inr ⟨⟨xs, xs[i], hq, by simp [hlt]⟩, fun x H3 y3 => ?_⟩
    obtain ⟨e3, ex⟩ := y3
    subst e3
    exact hs i x ys τ _ (ex xs hq) pv
  · have e : i = xs.length := by omega
    subst e
    exact .inl ⟨⟨xs, hq, Nat.le_refl _⟩, hd ys τ H pv⟩
/-- the free names of a block, checked -/
def fvOk (N N' : List Str) (ixs : List (Option Nat)) (sc : Scope) : Bool := (List.range ixs.length).all fun j => match ixs[j]? with
  | some (some i) => (match N[i]? with | some x => N'[j]? == some x && sc.names.lookup x == some .free | none => false)
  | _ => true
theorem fv_of {N N' : List Str} {ixs : List (Option Nat)} {sc : Scope} (h : fvOk N N' ixs sc = true) (j i : Nat) (e : ixs[j]? = some (some i)) : ∃ x, N[i]? = some x ∧ N'[j]? = some x ∧ sc.names.lookup x = some .free := by
  have hj : j < ixs.length := (List.getElem?_eq_some_iff.mp e).1
  have z := List.all_eq_true.mp h j (List.mem_range.mpr hj)
  rw [e] at z
  dsimp only at z
  split at z
  · rename_i x q
    obtain ⟨z1, z2⟩ := Bool.and_eq_true_iff.mp z
    exact ⟨x, q, beq_iff_eq.mp z1, beq_iff_eq.mp z2⟩
  · cases z

/-! ### names -/
structure Nm (x : Str) : Prop where
  lo : 1 ≤ x.length
  hi : x.length ≤ 8
  az : ∀ c ∈ x.cps.toList, 97 ≤ c ∧ c ≤ 122
def sign (c : Nat) : Str := ⟨#[c]⟩
theorem fold_signs : ∀ (cs : List Nat) (acc : Array Nat), (cs.map sign).foldl (fun acc p => acc ++ ("" : Str).cps ++ p.cps) acc = acc ++ cs.toArray
  | [], acc => by simp
  | c :: cs, acc => by
    rw [List.map_cons, List.foldl_cons, fold_signs cs]
    have e : ("" : Str).cps = #[] := rfl
    rw [e]
    apply Array.toList_inj.mp
    simp [sign]
theorem join_signs (cs : List Nat) : Txt.join ("" : Str) (cs.map sign) = ⟨cs.toArray⟩ := by
  unfold Txt.join Builtin.Str.glued
  cases cs with
  | nil => rfl
  | cons c cs =>
    rw [List.map_cons]
    show (⟨(cs.map sign).foldl _ (sign c).cps⟩ : Str) = _
    rw [fold_signs]
    apply congrArg Str.mk
    apply Array.toList_inj.mp
    simp [sign]
theorem slice6_mem {z : Str} {c : Nat} (h : c ∈ (Txt.slice z none (some 6)).cps.toList) : c ∈ z.cps.toList := by
  unfold Txt.slice at h
  split at h
  · exact h
  · simp only [List.mem_filterMap] at h
    obtain ⟨i, _, e⟩ := h
    obtain ⟨_, e2⟩ := Array.getElem?_eq_some_iff.mp e
    rw [← e2]; simp
theorem slice6_len (z : Str) : (Txt.slice z none (some 6)).length ≤ 6 := by
  have hi : (Builtin.Str.strSliceIndices none (some 6) 1 z.length).length ≤ 6 := by
    unfold Builtin.Str.strSliceIndices sliceRange
    simp only [show (1 : Int) > 0 by decide, if_true, List.length_map, List.length_range]
    split <;> (try split) <;> omega
  unfold Txt.slice
  split
  · rename_i h
    have e : (Builtin.Str.strSliceIndices none (some 6) 1 z.length).length = z.length := by simpa using h
    omega
  · show (List.filterMap _ _).toArray.size ≤ 6
    rw [List.size_toArray]
    exact Nat.le_trans (List.length_filterMap_le _ _) hi
theorem strApp (a b : Str) : (a ++ b).cps = a.cps ++ b.cps := rfl
theorem cand_nm {z : Str} {c : Nat} (hz : ∀ c ∈ z.cps.toList, 97 ≤ c ∧ c ≤ 122) (hc : 97 ≤ c ∧ c ≤ 122) : Nm (Txt.slice z none (some 6) ++ sign c ++ ("q" : Str)) := by
  have hq : ("q" : Str).cps = #[113] := by decide +kernel
  have hl := slice6_len z
  have e : (Txt.slice z none (some 6) ++ sign c ++ ("q" : Str)).length = (Txt.slice z none (some 6)).length + 2 := by
    show (_ : Array Nat).size = _
    rw [strApp, strApp, hq]
    show (_ ++ #[c] ++ #[113]).size = _
    rw [Array.size_append, Array.size_append]; rfl
  refine ⟨by omega, by omega, fun d hd => ?_⟩
  rw [strApp, strApp, hq] at hd
  have hd' : d ∈ (Txt.slice z none (some 6)).cps.toList ∨ d = c ∨ d = 113 := by
    have : d ∈ ((Txt.slice z none (some 6)).cps ++ #[c] ++ #[113]).toList := hd
    simp at this
    rcases this with h | h | h
    · exact .inl (by simpa using h)
    · exact .inr (.inl h)
    · exact .inr (.inr h)
  rcases hd' with h | h | h
  · exact hz d (slice6_mem h)
  · rw [h]; exact hc
  · rw [h]; omega
theorem cand_inj {p : Str} {c d : Nat} (h : p ++ sign c ++ ("q" : Str) = p ++ sign d ++ ("q" : Str)) : c = d := by
  have h1 := congrArg (fun s : Str => s.cps.toList) h
  simp only [strApp] at h1
  have h2 : p.cps.toList ++ ([c] ++ ("q" : Str).cps.toList) = p.cps.toList ++ ([d] ++ ("q" : Str).cps.toList) := by
    simpa [sign, Array.toList_append] using h1
  have h3 := List.append_cancel_left h2
  simpa using h3
theorem pigeon : ∀ {ys found : List Str}, ys.Nodup → found.length < ys.length → ∃ y ∈ ys, y ∉ found
  | [], found, _, h => by simp at h
  | y :: ys, found, nd, h => by
    obtain ⟨n1, n2⟩ := List.nodup_cons.mp nd
    by_cases hy : y ∈ found
    · have hl := List.length_erase_of_mem hy
      have hp := List.length_pos_of_mem hy
      obtain ⟨z, hz, hn⟩ := pigeon (found := found.erase y) n2 (by rw [hl]; rw [List.length_cons] at h; omega)
      refine ⟨z, List.mem_cons_of_mem _ hz, fun q => hn ?_⟩
      have ne : z ≠ y := fun e => n1 (by rw [← e]; exact hz)
      exact (List.mem_erase_of_ne ne).mpr q
    · exact ⟨y, List.mem_cons_self, hy⟩
end L2
namespace L2
open PySem PySem.Spec PyProof.Rows PySem.W
/-! ### the rules with the fragment named (within a comprehension's block) -/
section
variable {X : Cx}
theorem op_in_K (K : Frag) (h : X.K = K) : OpR X (compareOp .In) (rIn K false) := by subst h; exact op_in_seq
theorem op_notIn_K (K : Frag) (h : X.K = K) : OpR X (compareOp .NotIn) (rIn K true) := by subst h; exact op_notIn_seq
theorem ix_list_K (K : Frag) (h : X.K = K) : IxR X (rIxL K) := by subst h; exact ix_list
theorem ix_tup_K (K : Frag) (h : X.K = K) : IxR X (rIxT K) := by subst h; exact ix_tup
theorem pi_list_K {tg l : Expr} {tl : TE} (K : Frag) (h : X.K = K) (hl : PE X l tl) : PI X tg l (iList K tl) := by subst h; exact pi_list hl
theorem pi_tup_K {tg l : Expr} {tl : TE} (K : Frag) (h : X.K = K) (hl : PE X l tl) : PI X tg l (iTup K tl) := by subst h; exact pi_tup hl
theorem call_isi_K (K : Frag) (h : X.K = K) : CallR X (.builtin "isinstance") (fun xs H Q => (∃ x, (∃ C, xs = [x, .ref C]) ∨ (∃ T, xs = [x, .ty T])) ∧ rIsi K xs H Q) := by subst h; exact call_isi
end
theorem inV_strs (x : Str) (ys : List Str) : inV (.str x) (ys.map V.str) = decide (x ∈ ys) := by
  unfold inV
  rw [List.any_map]
  induction ys with
  | nil => simp
  | cons y ys ih =>
    rw [List.any_cons, ih]
    show ((y == x) || decide (x ∈ ys)) = decide (x ∈ y :: ys)
    by_cases h : y = x
    · subst h; simp
    · have h' : (y == x) = false := beq_eq_false_iff_ne.mpr h
      rw [h', Bool.false_or]
      have : x ∈ y :: ys ↔ x ∈ ys := by simp [Ne.symm h]
      simp [this]
theorem flat_strs (ys : List Str) : (ys.map V.str).all flatV = true := by
  rw [List.all_eq_true]
  intro v hv
  obtain ⟨y, _, rfl⟩ := List.mem_map.mp hv
  rfl
end L2
namespace L2
open PySem PySem.Spec PyProof.Rows PySem.W

/-! ### an own error that is raised, leaves its def, and is caught by the caller -/
/-- the error itself is let go out of what is tracked -/
def dropA (H : Hp) (a : Addr) : Hp := fun b => if b = a then none else H b
/-- how such an error flies: whatever comes next keeps what B has, and of the rest at least all but the slots -/
def CXR (P : Program) (w : World) : CXT := fun outer H s E e s' => ∃ (a : Addr) (cls a0 : Value) (H' : Hp) (B : Heap), e = .ref a ∧ s'.os = s.os ∧ AllBare s'.gens ∧ Heap.FlyingW B outer a cls a0 s'.heap ∧
  (∀ h', B.StaysIn h' → s'.heap.UpToSlots h' → Un (frs outer) [] H H' s.heap h' ∧ HOk P w H' h') ∧ E cls none H'

section
variable {X : Cx} {pins : List (Addr × Obj)} {σ : St} {H H1 : Hp} {s s1 : Shared} {a C : Addr} {dx : Option Addr}
end

section
variable {X : Cx} {pins : List (Addr × Obj)} {σ : St} {H H1 : Hp} {s s1 : Shared} {a C : Addr} {dx : Option Addr}
end

section
variable {P : Program} {w : World} {K : Frag} {mg : Str → Option Value} {base : Heap} {N : List Str} {qual : Str} {scope : Scope} {f : Addr} {cd : Value} {A : Around} {outer : List Env} {s : Shared} {H : Hp} {E : XK}
/-- raise in a def's own body -/
def sRaise (K : Frag) (H0 : Hp) (E : XK) (te : TE) : TS := fun _ σ H => te σ H fun v H1 => ∃ a C dx i, v = .ref a ∧ H1 a = some (ExcO C dx a) ∧ (∀ d, dx = some d → ∃ fs, H1 d = some (ExcD d fs)) ∧ XCls K C ∧ excInI K C i = true ∧ H0 a = none ∧ E (.ref C) none (dropA H1 a)
end

/-! ### try: x = f(..) except C: .. -/
/-- within the except suite -/
def Cx.caught (X : Cx) (a : Addr) : Cx := { X with A := X.A.mark (some (.ref a)), calm := false, xe := fun _ _ => False }
section
variable {X : Cx} {pins : List (Addr × Obj)} {σ : St} {H : Hp} {s : Shared} {a C : Addr}
theorem Inv.caught (I : Inv X pins σ H s) (a : Addr) : Inv (X.caught a) pins σ H s :=
  ⟨⟨I.ok.mod, I.ok.kind, I.ok.glob, I.ok.blt, I.ok.above, I.ok.inj, I.ok.has, I.ok.cab, (fun z => Bool.noConfusion (show false = true from z)), I.ok.frames, I.ok.stk, I.ok.exf, I.ok.bs, I.ok.bsz, I.ok.noex, I.ok.exfs, I.ok.funs, I.ok.frf⟩, I.os, I.bare, I.base, I.loc, I.cell, I.free, I.freeC, I.pin, I.hok, I.len⟩
end

section
variable {X : Cx} {k i : Nat} {f C : Addr} {fd : FuncData} {ps : List Str} {sp : Sp} {x fn cn : Str} {p1 p2 p3 p4 p5 p6 p7 : Pos} {e : Expr} {es : List Expr} {t : TA} {b0 : Stmt} {suite : List Stmt} {th : TS} {ci : Option Value}
def sTryCall (C : Addr) (sp : Sp) (i : Nat) (t : TA) (th : TS) : TS := fun D σ H => t σ H fun vs H1 => sp vs H1 (fun v H2 => D.nx (σ.set i (some v)) H2) fun cls _ H2 => cls = .ref C ∧ th D σ H2
end
end L2
namespace L2
open PySem PySem.Spec PyProof.Rows PySem.W

/-! ### any(rows): a list of tuples -/
section
variable {P : Program} {w : World} {A : Around} {R : Result → Shared → Prop}
theorem any_tups {it l : Addr} {its : Array Value} {g : Heap} (tr : Nat → Bool) (hh : A.in1.handled = none) (hne : l ≠ it) (hl : g.IsList l its)
    (ht : ∀ i v, its[i]? = some v → ∃ a ws, v = .ref a ∧ a ≠ it ∧ IsTup g a ws ∧ ws.size ≤ sizeLine ∧ tr i = !ws.isEmpty) : ∀ (k i : Nat) (s : Shared), its.size - i = k → i ≤ its.size → (∀ b o, b ≠ it → g.get? b = some o → s.heap.get? b = some o) → s.heap.IsListIter it l i →
    (∀ h' tk, (∀ b o, b ≠ it → g.get? b = some o → h'.get? b = some o) → R (.ok (.ret (.bool (((List.range its.size).drop i).any tr)))) { s with heap := h', toks := tk }) →
    codeAny (model P w) A (.builtin "any.loop" ⟨[.ref it], []⟩) R s := by
  intro k
  induction k with
  | zero =>
    intro i s hk hi kp hit hR
    obtain rfl : i = its.size := by omega
    refine codeAny_builtin F.entry_any_loop (?_ : wpAny _ _ _ _ _ _)
    rw [show A.under (.builtin "any.loop" ⟨[.ref it], []⟩) = A.in1 from Around.under_plainId F.plain_any_loop _]
    show wpAny _ _ (pyNext (.ref it) >>= _) _ _ s
    have hl' : s.heap.IsList l its := hl.at fun o e => kp l o hne e
    refine wpAny_bind (wpAny_pyNext_list_end hh hit hl' (by simp) fun h' ex => wpAny_bind (wpAny_rule (wpAny_pure ?_)))
    have := hR h' s.toks fun b o n e => ex b o n (kp b o n e)
    rw [List.drop_of_length_le (by simp)] at this
    exact this
  | succ k ih =>
    intro i s hk hi kp hit hR
    have hlt : i < its.size := by omega
    have hd : (List.range its.size).drop i = i :: (List.range its.size).drop (i + 1) := by rw [List.drop_eq_getElem_cons (by simpa using hlt), List.getElem_range]
    refine codeAny_builtin F.entry_any_loop (?_ : wpAny _ _ _ _ _ _)
    rw [show A.under (.builtin "any.loop" ⟨[.ref it], []⟩) = A.in1 from Around.under_plainId F.plain_any_loop _]
    show wpAny _ _ (pyNext (.ref it) >>= _) _ _ s
    have hl' : s.heap.IsList l its := hl.at fun o e => kp l o hne e
    have hx : its[i]? = some its[i] := by simp [hlt]
    obtain ⟨a, ws, ea, na, htup, hz, htr⟩ := ht i _ hx
    refine wpAny_bind (wpAny_pyNext_list_item hit hl' hx fun h' hit' sb => ?_)
    have kp' : ∀ b o, b ≠ it → g.get? b = some o → h'.get? b = some o := fun b o n e => sb.extBut b o n (kp b o n e)
    have htup' : IsTup h' a ws := by
      obtain ⟨o, ho, r⟩ := htup
      exact ⟨o, kp' a o na ho, r⟩
    rw [ea]
    refine wpAny_bind (wpAny_holding (truthy_tuple (s := { s with heap := h' }) htup' (by rw [sizeLine_eq] at hz; omega) (wpAny_bind (wpAny_letGo ?_))))
    rw [← htr]
    cases hb : tr i with
    | false =>
      refine wpAny_pure ⟨plainId_quiet F.plain_any_loop _, ih (i + 1) _ (by omega) hlt kp' hit' fun h2 tk2 k2 => ?_⟩
      have := hR h2 tk2 k2
      rw [hd, List.any_cons, hb, Bool.false_or] at this
      exact this
    | true =>
      refine wpAny_bind (wpAny_rule (wpAny_pure ?_))
      have := hR h' (s.toks + 1 + 1) kp'
      rw [hd, List.any_cons, hb, Bool.true_or] at this
      exact this
end
section
variable {X : Cx}
/-- any(list of tuples) -/
theorem call_anyT (hc : X.calm = true) : CallR X (.builtin "any") (fun xs H Q => ∃ (p : Addr) (ys : List V) (rs : List (List V)), xs = [.ref p] ∧ SqL X.K H p ys ∧ Paired (fun y r => ∃ a, y = V.ref a ∧ SqT X.K H a r) ys rs ∧ Q (.bl (rs.any fun r => !r.isEmpty)) H) := by
  intro pins s σ H xs us Q I r h
  obtain ⟨p, ys, rs, rfl, hq, pr, q⟩ := h
  obtain ⟨u, rfl, rx⟩ := vals1 r
  cases rx
  obtain ⟨its, rv, pl, hz⟩ := I.list hq
  have hlen := rv.length
  have all : ∀ i v, its[i]? = some v → ∃ a ws, v = .ref a ∧ IsTup s.heap a ws ∧ ws.size ≤ sizeLine ∧ (rs.map fun r => !r.isEmpty).getD i false = !ws.isEmpty := by
    intro i v e
    clear q hq pl hz r
    induction rv generalizing rs i with
    | nil => simp at e
    | cons r1 rt ih =>
      cases pr with
      | cons p1 pt =>
        cases i with
        | zero =>
          simp at e
          subst e
          obtain ⟨a, rfl, ha⟩ := p1
          cases r1
          obtain ⟨ws, r2, ht, hz2⟩ := I.tuple ha
          have hl2 := r2.length
          exact ⟨a, _, rfl, ht, by rw [List.size_toArray]; omega, by rw [isEmpty_of r2]; rfl⟩
        | succ i => exact ih _ pt (by simpa using hlen) i (by simpa using e)
  have hsz : its.toArray.size = rs.length := by rw [List.size_toArray, ← hlen]; exact Paired.length pr
  have fin : (List.range its.toArray.size).any (fun i => (rs.map fun r => !r.isEmpty).getD i false) = rs.any fun r => !r.isEmpty := by
    rw [hsz]
    apply Bool.eq_iff_iff.mpr
    simp only [List.any_eq_true, List.mem_range]
    constructor
    · rintro ⟨i, hi, e⟩
      refine ⟨rs[i], List.getElem_mem hi, ?_⟩
      simpa [List.getD, hi] using e
    · rintro ⟨r, hr, e⟩
      obtain ⟨i, hi, rfl⟩ := List.getElem_of_mem hr
      exact ⟨i, hi, by simpa [List.getD, hi] using e⟩
  refine call_function_tree F.kind_any F.plain_any F.entry_any (F.args_any1 (.ref p)) (?_ : wpAny _ _ _ _ _ _)
  unfold Builtin.«any»
  refine wpAny_bind (m := oneArg "any" _) (wpAny_pure (wpAny_bind (wpAny_pyIter_list pl.isList ?_)))
  have new : ∀ b o, s.heap.get? b = some o → b ≠ s.heap.objs.size := fun b o e => Nat.ne_of_lt (Heap.lt_size e)
  obtain ⟨ol, hol, _⟩ := id pl.isList
  refine wpAny_pure ⟨plainId_quiet F.plain_any_loop _, any_tups (g := s.heap) (fun i => (rs.map fun r => !r.isEmpty).getD i false) (I.ok.hd hc) (new p ol hol) pl.isList (fun i v e => ?_) _ 0 _ rfl (Nat.zero_le _) (fun b o n e => Heap.get?_push_of_some _ e) ⟨_, Heap.get?_push_size _ rfl, rfl, rfl⟩ fun h' tk kp => ?_⟩
  · obtain ⟨a, ws, ea, ht, hz2, e2⟩ := all i v (by simpa using e)
    obtain ⟨o, ho, _⟩ := id ht
    exact ⟨a, ws, ea, new a o ho, ht, hz2, e2⟩
  · rw [List.drop_zero, fin]
    exact ⟨.bl _, H, I.kept (t' := tk) fun b o e => kp b o (new b o e) e, rfl, q⟩
end

section
variable {X : Cx}
/-- all(list of bools) -/
theorem call_allB (hc : X.calm = true) : CallR X (.builtin "all") (fun xs H Q => ∃ (p : Addr) (bs : List Bool), xs = [.ref p] ∧ SqL X.K H p (bs.map V.bl) ∧ Q (.bl (bs.all id)) H) := by
  intro pins s σ H xs us Q I r h
  obtain ⟨p, bs, rfl, hq, q⟩ := h
  obtain ⟨u, rfl, rx⟩ := vals1 r
  cases rx
  obtain ⟨its, rv, pl, hz⟩ := I.list hq
  have hlen := rv.length
  have vals : its = bs.map Value.bool := by
    clear q hq pl hz r hlen
    induction bs generalizing its with
    | nil => cases rv; rfl
    | cons b bs ih =>
      cases rv with
      | cons r1 rt => cases r1; rw [ih _ rt]; rfl
  have new : ∀ b o, s.heap.get? b = some o → b ≠ s.heap.objs.size := fun b o e => Nat.ne_of_lt (Heap.lt_size e)
  obtain ⟨ol, hol, _⟩ := id pl.isList
  refine call_all_walk (wpAny_pyIter_list pl.isList ?_)
  refine ⟨s.heap.objs.size, _, _, _, _, _, fun i => bs.getD i true, rfl, Walks.list (A := X.A.in1) (I.ok.hd hc) s.heap.objs.size p (new p ol hol) its.toArray, ⟨⟨_, Heap.get?_push_size _ rfl, rfl, rfl⟩, pl.isList.at fun o e => Heap.get?_push_of_some _ e⟩, fun i v s2 Q2 E2 hv hq2 => ?_, fun h' tk kp => ?_⟩
  · rw [vals] at hv
    have : bs[i]?.map Value.bool = some v := by simpa using hv
    obtain ⟨b, hb, rfl⟩ := Option.map_eq_some_iff.mp this
    refine wpAny_truthy_bool ?_
    have e : bs.getD i true = b := by rw [List.getD_eq_getElem?_getD, hb]; rfl
    exact e ▸ hq2
  · have fin : (List.range its.toArray.size).all (fun i => bs.getD i true) = bs.all id := by
      have hs : its.toArray.size = bs.length := by rw [vals]; simp
      rw [hs]
      apply Bool.eq_iff_iff.mpr
      simp only [List.all_eq_true, List.mem_range]
      constructor
      · intro h b hb
        obtain ⟨i, hi, rfl⟩ := List.getElem_of_mem hb
        simpa [List.getD, hi] using h i hi
      · intro h i hi
        simpa [List.getD, hi] using h bs[i] (List.getElem_mem hi)
    rw [fin]
    exact ⟨.bl _, H, I.kept (t' := tk) fun b o e => kp b o (by simpa using new b o e) (Heap.get?_push_of_some _ e), rfl, q⟩
/-- xs.index(x), a list of texts -/
def rIndexL : V → List V → Hp → VK → Prop := fun x vs H Q => ∃ (l : Addr) (ys : List Str) (y : Str) (j : Nat), x = .ref l ∧ vs = [.str y] ∧ H l = some (.lst (ys.map V.str)) ∧ ys[j]? = some y ∧ (∀ m, m < j → ys[m]? ≠ some y) ∧ Q (.int j) H
end

section
variable {X : Cx} {e : Expr} {te : TE} {pos p2 p3 p4 : Pos} {k : Nat}
/-- xs[::-1], a list -/
def tRev (K : Frag) (te : TE) : TE := fun σ H Q => te σ H fun x H2 => ∃ (l : Addr) (xs : List V), x = .ref l ∧ SqL K H2 l xs ∧ ∀ p, H2 p = none → Q (.ref p) (upd H2 p (.lst xs.reverse))
end
end L2
namespace L2
open PySem PySem.Spec PyProof.Rows

/-! ### lists of pairs as tables -/
section
variable {κ : Type} [DecidableEq κ]
def valV (kvs : List (κ × V)) (k : κ) : Option V := (kvs.find? fun kv => decide (kv.1 = k)).map (·.2)
/-- in its place, or at the end -/
def putK (kvs : List (κ × V)) (k : κ) (v : V) : List (κ × V) :=
  if (kvs.any fun kv => decide (kv.1 = k)) = true then kvs.map (fun kv => if kv.1 = k then (kv.1, v) else kv) else kvs ++ [(k, v)]
def dropK (kvs : List (κ × V)) (k : κ) : List (κ × V) := kvs.filter fun kv => decide (kv.1 ≠ k)

theorem valV_pos {p : κ × V} {r : List (κ × V)} {k : κ} (e : p.1 = k) : valV (p :: r) k = some p.2 := by simp [valV, List.find?_cons, e]
theorem valV_neg {p : κ × V} {r : List (κ × V)} {k : κ} (e : ¬ p.1 = k) : valV (p :: r) k = valV r k := by simp [valV, List.find?_cons, e]
theorem valV_any (k : κ) : ∀ kvs : List (κ × V), (kvs.any fun kv => decide (kv.1 = k)) = (valV kvs k).isSome
  | [] => rfl
  | p :: r => by
    rw [List.any_cons]
    by_cases e : p.1 = k
    · simp only [valV_pos e, decide_eq_true e, Bool.true_or, Option.isSome_some]
    · rw [valV_neg e, decide_eq_false e, Bool.false_or]; exact valV_any k r
theorem valV_map (k j : κ) (y : V) : ∀ kvs : List (κ × V), valV (kvs.map fun kv => if kv.1 = k then (kv.1, y) else kv) j = (valV kvs j).map fun x => if j = k then y else x
  | [] => rfl
  | p :: r => by
    have ih := valV_map k j y r
    rw [List.map_cons]
    by_cases h : p.1 = k
    · rw [if_pos h]
      by_cases e : p.1 = j
      · rw [valV_pos (p := (p.1, y)) e, valV_pos e, Option.map_some, if_pos (e.symm.trans h)]
      · rw [valV_neg (p := (p.1, y)) e, valV_neg e, ih]
    · rw [if_neg h]
      by_cases e : p.1 = j
      · rw [valV_pos (p := p) e, valV_pos e, Option.map_some, if_neg (fun z => h (e.trans z))]
      · rw [valV_neg (p := p) e, valV_neg e, ih]
theorem valV_snoc (k j : κ) (y : V) : ∀ kvs : List (κ × V), valV kvs k = none → valV (kvs ++ [(k, y)]) j = if j = k then some y else valV kvs j
  | [], _ => by
    by_cases e : k = j
    · rw [if_pos e.symm]; exact valV_pos (p := (k, y)) e
    · rw [if_neg (fun z => e z.symm)]; exact valV_neg (p := (k, y)) e
  | p :: r, hn => by
    rw [List.cons_append]
    have hk : ¬ p.1 = k := fun z => by rw [valV_pos z] at hn; cases hn
    rw [valV_neg hk] at hn
    have ih := valV_snoc k j y r hn
    by_cases e : p.1 = j
    · rw [valV_pos e, valV_pos e, if_neg (fun z => hk (e.trans z))]
    · rw [valV_neg e, valV_neg e, ih]
theorem valV_put (kvs : List (κ × V)) (k j : κ) (y : V) : valV (putK kvs k y) j = if j = k then some y else valV kvs j := by
  unfold putK
  by_cases a : (kvs.any fun kv => decide (kv.1 = k)) = true
  · rw [if_pos a, valV_map]
    rw [valV_any] at a
    by_cases e : j = k
    · obtain ⟨x, hx⟩ := Option.isSome_iff_exists.mp a
      rw [if_pos e, e, hx, Option.map_some, if_pos rfl]
    · rw [if_neg e]
      cases valV kvs j with
      | none => rfl
      | some x => rw [Option.map_some, if_neg e]
  · rw [if_neg a]
    refine valV_snoc k j y kvs ?_
    rw [valV_any] at a
    cases q : valV kvs k with
    | none => rfl
    | some x => rw [q] at a; exact (a rfl).elim
theorem length_putK (kvs : List (κ × V)) (k : κ) (v : V) : (putK kvs k v).length ≤ kvs.length + 1 := by
  unfold putK
  split
  · rw [List.length_map]; omega
  · rw [List.length_append, List.length_cons, List.length_nil]; omega
theorem putK_new {kvs : List (κ × V)} {k : κ} (v : V) (h : valV kvs k = none) : putK kvs k v = kvs ++ [(k, v)] := by
  unfold putK
  rw [valV_any, h]
  exact if_neg (by decide)

theorem RelO.isSome_eq {o : Option V} {u : Option Value} (r : RelO o u) : o.isSome = u.isSome := by
  cases o with
  | none => cases u with
    | none => rfl
    | some _ => exact (show False from r).elim
  | some _ => cases u with
    | none => exact (show False from r).elim
    | some _ => rfl
theorem RelO.getD {o : Option V} {u : Option Value} {d : V} {d' : Value} (r : RelO o u) (rd : RelV d d') : RelV (o.getD d) (u.getD d') := by
  cases o with
  | none => cases u with
    | none => exact rd
    | some _ => exact (show False from r).elim
  | some _ => cases u with
    | none => exact (show False from r).elim
    | some _ => exact r

/-- raw tables of the same keys -/
theorem KV.val {kvs : List (κ × V)} {vs : List (κ × Value)} (r : KV kvs vs) (k : κ) : RelO (valV kvs k) (valueAt vs k) := by
  unfold KV at r
  induction r with
  | nil => exact True.intro
  | @cons p q ps qs h t ih =>
    obtain ⟨h1, h2⟩ := h
    by_cases e : p.1 = k
    · have e' : q.1 = k := h1.symm.trans e
      have b : valueAt (q :: qs) k = some q.2 := by simp [valueAt, List.find?_cons, e']
      rw [valV_pos e, b]; exact h2
    · have e' : ¬ q.1 = k := fun z => e (h1.trans z)
      have b : valueAt (q :: qs) k = valueAt qs k := by simp [valueAt, List.find?_cons, e']
      rw [valV_neg e, b]; exact ih
theorem KV.any {kvs : List (κ × V)} {vs : List (κ × Value)} (r : KV kvs vs) (k : κ) : (kvs.any fun kv => decide (kv.1 = k)) = vs.any fun kv => decide (kv.1 = k) := by
  unfold KV at r
  induction r with
  | nil => rfl
  | cons h t ih => rw [List.any_cons, List.any_cons, ih, h.1]
theorem KV.repl {kvs : List (κ × V)} {vs : List (κ × Value)} (r : KV kvs vs) (k : κ) {y : V} {u : Value} (ry : RelV y u) :
    KV (kvs.map fun kv => if kv.1 = k then (kv.1, y) else kv) (vs.map fun kv => if kv.1 = k then (kv.1, u) else kv) := by
  unfold KV at r ⊢
  induction r with
  | nil => exact .nil
  | @cons p q ps qs h t ih =>
    rw [List.map_cons, List.map_cons]
    refine .cons ?_ ih
    obtain ⟨h1, h2⟩ := h
    by_cases e : p.1 = k
    · rw [if_pos e, if_pos (h1.symm.trans e)]; exact ⟨h1, ry⟩
    · rw [if_neg e, if_neg (fun z => e (h1.trans z))]; exact ⟨h1, h2⟩
theorem KV.put {kvs : List (κ × V)} {vs : List (κ × Value)} (r : KV kvs vs) (k : κ) {y : V} {u : Value} (ry : RelV y u) : KV (putK kvs k y) (stored vs k u) := by
  unfold putK stored
  rw [r.any k]
  by_cases e : (vs.any fun kv => decide (kv.1 = k)) = true
  · rw [if_pos e, if_pos e]; exact r.repl k ry
  · rw [if_neg e, if_neg e]; exact Paired.snoc r ⟨rfl, ry⟩
theorem KV.drop {kvs : List (κ × V)} {vs : List (κ × Value)} (r : KV kvs vs) (k : κ) : KV (dropK kvs k) (without vs k) := by
  unfold KV at r ⊢
  unfold dropK without
  induction r with
  | nil => exact .nil
  | @cons p q ps qs h t ih =>
    obtain ⟨h1, h2⟩ := h
    rw [List.filter_cons, List.filter_cons]
    by_cases e : p.1 = k
    · have a : ¬ decide (p.1 ≠ k) = true := by simp [e]
      have b : ¬ decide (q.1 ≠ k) = true := by simp [h1.symm.trans e]
      rw [if_neg a, if_neg b]; exact ih
    · have e' : ¬ q.1 = k := fun z => e (h1.trans z)
      have a : decide (p.1 ≠ k) = true := by simp [e]
      have b : decide (q.1 ≠ k) = true := by simp [e']
      rw [if_pos a, if_pos b]; exact .cons ⟨h1, h2⟩ ih
theorem KV.keys {kvs : List (κ × V)} {vs : List (κ × Value)} (r : KV kvs vs) : kvs.map (·.1) = vs.map (·.1) := by
  unfold KV at r
  induction r with
  | nil => rfl
  | cons h t ih => rw [List.map_cons, List.map_cons, ih, h.1]
theorem KV.length {kvs : List (κ × V)} {vs : List (κ × Value)} (r : KV kvs vs) : kvs.length = vs.length := Paired.length r
end


/-! ### a tracked dict, its keys ints and texts or tuples of these -/
theorem kV_is {P : Program} {w : World} {k : Key} {u : Value} (r : RelV (kV k) u) : (mixKind P w).is k u = true := by
  cases k with
  | inl i => obtain ⟨t, e⟩ := (show ∃ t, u = Value.int i t from r); subst e; exact mixKind_int P w i t
  | inr x => obtain ⟨t, e⟩ := (show ∃ t, u = Value.str x t from r); subst e; exact mixKind_str P w x t
theorem items_are {P : Program} {w : World} : ∀ {ks : List Key} {us : List Value}, Vals (ks.map kV) us → ItemsAre (mixKind P w) ks us
  | [], _, r => by rw [List.map_nil] at r; cases r; exact .nil
  | k :: ks, _, r => by
    rw [List.map_cons] at r
    cases r with
    | cons h t => exact .cons (kV_is h) (items_are t)

/-- raw entries of a dict with tuple keys -/
abbrev KT (H : Hp) : List (List Key × V) → List (List Key × Addr × Value) → Prop := Paired fun p q => p.1 = q.1 ∧ H q.2.1 = some (.tup (p.1.map kV)) ∧ RelV p.2 q.2.2
theorem KT.val {H : Hp} {kvs : List (List Key × V)} {xs : List (List Key × Addr × Value)} (r : KT H kvs xs) (k : List Key) : RelO (valV kvs k) ((atKey xs k).map (·.2)) := by
  induction r with
  | nil => exact True.intro
  | @cons p q ps qs h t ih =>
    obtain ⟨h1, _, h2⟩ := h
    by_cases e : p.1 = k
    · have e' : q.1 = k := h1.symm.trans e
      have b : atKey (q :: qs) k = some q.2 := by simp [atKey, List.find?_cons, e']
      rw [valV_pos e, b]; exact h2
    · have e' : ¬ q.1 = k := fun z => e (h1.trans z)
      have b : atKey (q :: qs) k = atKey qs k := by simp [atKey, List.find?_cons, e']
      rw [valV_neg e, b]; exact ih
theorem KT.repl {H : Hp} {kvs : List (List Key × V)} {xs : List (List Key × Addr × Value)} (r : KT H kvs xs) (k : List Key) {y : V} {u : Value} (ry : RelV y u) :
    KT H (kvs.map fun kv => if kv.1 = k then (kv.1, y) else kv) (xs.map (putAt k u)) := by
  induction r with
  | nil => exact .nil
  | @cons p q ps qs h t ih =>
    rw [List.map_cons, List.map_cons]
    refine .cons ?_ ih
    obtain ⟨h1, h2, h3⟩ := h
    unfold putAt
    by_cases e : p.1 = k
    · rw [if_pos e, if_pos (h1.symm.trans e)]; exact ⟨h1, h2, ry⟩
    · rw [if_neg e, if_neg (fun z => e (h1.trans z))]; exact ⟨h1, h2, h3⟩
theorem KT.put {H : Hp} {kvs : List (List Key × V)} {xs : List (List Key × Addr × Value)} (r : KT H kvs xs) (k : List Key) {b : Addr} {y : V} {u : Value} (hb : H b = some (.tup (k.map kV))) (ry : RelV y u) :
    KT H (putK kvs k y) (storedH xs k b u) := by
  have e : (kvs.any fun kv => decide (kv.1 = k)) = (atKey xs k).isSome := by
    rw [valV_any, (r.val k).isSome_eq, Option.isSome_map]
  unfold putK storedH
  rw [e]
  by_cases q : (atKey xs k).isSome = true
  · rw [if_pos q, if_pos q]; exact r.repl k ry
  · rw [if_neg q, if_neg q]; exact Paired.snoc r ⟨rfl, hb, ry⟩
theorem KT.keeps {H H' : Hp} {kvs : List (List Key × V)} {xs : List (List Key × Addr × Value)} (r : KT H kvs xs) (ht : ∀ b ys, H b = some (.tup ys) → H' b = some (.tup ys)) : KT H' kvs xs :=
  Paired.mapP r fun _ _ z => ⟨z.1, ht _ _ z.2.1, z.2.2⟩

section
variable {P : Program} {w : World} {H : Hp} {h : Heap} {a : Addr}
theorem rd_of {u : HO} (ok : HOk P w H h) (e : Rd H a u) : ObjOk P w H h a u := e.ok ok
theorem dk_rd {kvs : List (Key × V)} (ok : HOk P w H h) (e : Rd H a (.dK kvs)) : kvs.length ≤ sizeLine ∧ (a == sysModules) = false ∧ ∃ vs, KV kvs vs ∧ h.DictOf (mixKind P w) a vs :=
  show ObjOk P w H h a (.dK kvs) from rd_of ok e
theorem dk_of {kvs : List (Key × V)} (ok : HOk P w H h) (e : H a = some (.dK kvs)) : kvs.length ≤ sizeLine ∧ (a == sysModules) = false ∧ ∃ vs, KV kvs vs ∧ h.DictOf (mixKind P w) a vs := dk_rd ok (.inl e)
/-- a tracked tuple of ints and texts is a key -/
theorem key_of {ks : List Key} (ok : HOk P w H h) (e : H a = some (.tup (ks.map kV))) : (tupleKind (mixKind P w)).is h ks a := by
  obtain ⟨_, its, r, o, h1, h2, n, h3, _⟩ := (show ObjOk P w H h a (.tup (ks.map kV)) from ok a _ e)
  exact ⟨o, its.toArray, n, h1, h2, h3, by simpa using items_are r⟩
theorem dt_rd {kvs : List (List Key × V)} (ok : HOk P w H h) (e : Rd H a (.dT kvs)) : kvs.length ≤ sizeLine ∧ (a == sysModules) = false ∧
    ∃ xs, KT H kvs xs ∧ h.DictOfH (tupleKind (mixKind P w)) a xs := by
  obtain ⟨z, y, xs, r, o, es, ep, h1, h2, h3, h4, h5⟩ := (show ObjOk P w H h a (.dT kvs) from rd_of ok e)
  refine ⟨z, y, xs, r, o, es, ep, h1, h2, h3, h4, fun x hx => ?_, h5⟩
  have all : ∀ {l : List (List Key × V)} {m : List (List Key × Addr × Value)}, KT H l m → ∀ x ∈ m, (tupleKind (mixKind P w)).is h x.1 x.2.1 := by
    intro l m q
    induction q with
    | nil => intro x hx; exact nomatch hx
    | @cons p q ps qs hq t ih =>
      intro x hx
      rcases List.mem_cons.mp hx with e | hx
      · subst e
        exact key_of ok (by rw [← hq.1]; exact hq.2.1)
      · exact ih x hx
  exact all r x hx
theorem dt_of {kvs : List (List Key × V)} (ok : HOk P w H h) (e : H a = some (.dT kvs)) : kvs.length ≤ sizeLine ∧ (a == sysModules) = false ∧
    ∃ xs, KT H kvs xs ∧ h.DictOfH (tupleKind (mixKind P w)) a xs := dt_rd ok (.inl e)
end

/-- what the dict at a holds at the key y -/
def DGet (H : Hp) (a : Addr) (y : V) (r : Option V) : Prop :=
  (∃ kvs k, Rd H a (.dK kvs) ∧ y = kV k ∧ r = valV kvs k) ∨ ∃ kvs k b, Rd H a (.dT kvs) ∧ y = .ref b ∧ H b = some (.tup (k.map kV)) ∧ r = valV kvs k
/-- the heap behind a[y] = v -/
def DPut (H : Hp) (a : Addr) (y v : V) (H' : Hp) : Prop :=
  (∃ kvs k, H a = some (.dK kvs) ∧ y = kV k ∧ kvs.length < sizeLine ∧ H' = upd H a (.dK (putK kvs k v))) ∨
  ∃ kvs k b, H a = some (.dT kvs) ∧ y = .ref b ∧ H b = some (.tup (k.map kV)) ∧ kvs.length < sizeLine ∧ H' = upd H a (.dT (putK kvs k v))
theorem DGet.k {H : Hp} {a : Addr} {kvs : List (Key × V)} {k : Key} (e : H a = some (.dK kvs)) : DGet H a (kV k) (valV kvs k) := .inl ⟨kvs, k, .inl e, rfl, rfl⟩
theorem DGet.t {H : Hp} {a b : Addr} {kvs : List (List Key × V)} {k : List Key} (e : H a = some (.dT kvs)) (eb : H b = some (.tup (k.map kV))) : DGet H a (.ref b) (valV kvs k) := .inr ⟨kvs, k, b, .inl e, rfl, eb, rfl⟩
theorem DPut.k {H : Hp} {a : Addr} {kvs : List (Key × V)} {k : Key} {v : V} (e : H a = some (.dK kvs)) (hl : kvs.length < sizeLine) : DPut H a (kV k) v (upd H a (.dK (putK kvs k v))) := .inl ⟨kvs, k, e, rfl, hl, rfl⟩
theorem DPut.t {H : Hp} {a b : Addr} {kvs : List (List Key × V)} {k : List Key} {v : V} (e : H a = some (.dT kvs)) (eb : H b = some (.tup (k.map kV))) (hl : kvs.length < sizeLine) :
    DPut H a (.ref b) v (upd H a (.dT (putK kvs k v))) := .inr ⟨kvs, k, b, e, rfl, eb, hl, rfl⟩


section
variable {X : Cx} {pins : List (Addr × Obj)} {σ : St} {H : Hp} {s : Shared} {a : Addr} {y v : V} {u r : Value} {o : Option V} {A : Around} {E : Value → Shared → Prop}

theorem Inv.big (I : Inv X pins σ H s) : sysModules < s.heap.objs.size := by
  have h : mainGlobals < s.heap.objs.size := (I.mod.glob.keeps I.bk).lt
  exact Nat.lt_trans (by decide) h

/-- d[y], there -/
theorem d_getItem {Q : Value → Shared → Prop} (hu : A.units + 1 < cLine) (I : Inv X pins σ H s) (g : DGet H a y (some v)) (ry : RelV y u) (h : ∀ w' s', Inv X pins σ H s' → RelV v w' → Q w' s') :
    wpAny (model X.prog X.w) A (getItem (.ref a) u) Q E s := by
  rcases g with ⟨kvs, k, e, ey, l⟩ | ⟨kvs, k, b, e, ey, eb, l⟩
  · subst ey
    obtain ⟨z, hd, vs, rel, dd⟩ := dk_rd I.hok e
    obtain ⟨w', hw, rw'⟩ := RelO.some_of (v := v) (o := valueAt vs k) (by rw [l]; exact rel.val k)
    exact wpAny_getItem_of (kV_is ry) dd.mapOf hw (h w' _ (I.tok _) rw')
  · subst ey
    cases (show u = Value.ref b from ry)
    obtain ⟨z, hd, xs, rel, dd⟩ := dt_rd I.hok e
    obtain ⟨w', hw, rw'⟩ := RelO.some_of (v := v) (o := (atKey xs k).map (·.2)) (by rw [l]; exact rel.val k)
    obtain ⟨p, hp, hp2⟩ := Option.map_eq_some_iff.mp hw
    refine wpAny_getItem_heap (tupleKind_room_in1 hu) (key_of I.hok eb) dd hp ?_
    rw [hp2]
    exact h w' _ (I.tok _) rw'
/-- y in d -/
theorem d_in {Q : Value → Shared → Prop} (hu : A.units + 1 < cLine) (I : Inv X pins σ H s) (g : DGet H a y o) (ry : RelV y u) (h : ∀ s', Inv X pins σ H s' → Q (.bool o.isSome) s') :
    wpAny (model X.prog X.w) A (compareOp .In u (.ref a)) Q E s := by
  rcases g with ⟨kvs, k, e, ey, l⟩ | ⟨kvs, k, b, e, ey, eb, l⟩
  · subst ey
    obtain ⟨z, hd, vs, rel, dd⟩ := dk_rd I.hok e
    refine wpAny_in_of (kV_is ry) hd dd.mapOf ?_
    rw [← (rel.val k).isSome_eq, ← l]
    exact h _ (I.tok _)
  · subst ey
    cases (show u = Value.ref b from ry)
    obtain ⟨z, hd, xs, rel, dd⟩ := dt_rd I.hok e
    refine wpAny_in_heap (tupleKind_room_in1 hu) (key_of I.hok eb) hd dd ?_
    have q := (rel.val k).isSome_eq
    rw [Option.isSome_map] at q
    rw [← q, ← l]
    exact h _ (I.tok _)
theorem d_notIn {Q : Value → Shared → Prop} (hu : A.units + 1 < cLine) (I : Inv X pins σ H s) (g : DGet H a y o) (ry : RelV y u) (h : ∀ s', Inv X pins σ H s' → Q (.bool (!o.isSome)) s') :
    wpAny (model X.prog X.w) A (compareOp .NotIn u (.ref a)) Q E s := by
  rcases g with ⟨kvs, k, e, ey, l⟩ | ⟨kvs, k, b, e, ey, eb, l⟩
  · subst ey
    obtain ⟨z, hd, vs, rel, dd⟩ := dk_rd I.hok e
    refine wpAny_notIn_of (kV_is ry) hd dd.mapOf ?_
    rw [← (rel.val k).isSome_eq, ← l]
    exact h _ (I.tok _)
  · subst ey
    cases (show u = Value.ref b from ry)
    obtain ⟨z, hd, xs, rel, dd⟩ := dt_rd I.hok e
    refine wpAny_notIn_heap (tupleKind_room_in1 hu) (key_of I.hok eb) hd dd ?_
    have q := (rel.val k).isSome_eq
    rw [Option.isSome_map] at q
    rw [← q, ← l]
    exact h _ (I.tok _)
/-- a dict's object is replaced -/
theorem d_write {h' : Heap} {t' : Nat} {ob : HO} (I : Inv X pins σ H s) (mu : Mut (H a)) (hs : Heap.SameBut a s.heap h') (he : ∃ q, h'.get? a = some q) (new : ObjOk X.prog X.w (upd H a ob) h' a ob) :
    Inv X pins σ (upd H a ob) { s with heap := h', toks := t' } :=
  I.write (x := a) (e := a) mu (.inl rfl) (fun b q hb z => (hs.2 b hb).trans z) he new
theorem dk_new {P : Program} {w : World} {H' : Hp} {h' : Heap} {kvs : List (Key × V)} {vs : List (Key × Value)} (z : kvs.length ≤ sizeLine) (hd : (a == sysModules) = false) (rel : KV kvs vs) (dd : h'.DictOf (mixKind P w) a vs) :
    ObjOk P w H' h' a (.dK kvs) := ⟨z, hd, vs, rel, dd⟩
/-- d[y] = v -/
theorem d_setItem {H' : Hp} {Q : Unit → Shared → Prop} (hu : A.units + 1 < cLine) (I : Inv X pins σ H s) (g : DPut H a y v H') (ry : RelV y u) (rv : RelV v r) (h : ∀ s', Inv X pins σ H' s' → Q () s') :
    wpAny (model X.prog X.w) A (setItem (.ref a) u r) Q E s := by
  rcases g with ⟨kvs, k, e, ey, l, eH⟩ | ⟨kvs, k, b, e, ey, eb, l, eH⟩
  · subst ey eH
    obtain ⟨z, hd, vs, rel, dd⟩ := dk_of I.hok e
    have hz : vs.length ≤ sizeLine := by rw [← rel.length]; exact z
    have hl : (putK kvs k v).length ≤ sizeLine := by have := length_putK kvs k v; omega
    refine wpAny_setItem_pairs (hsz := hz) (kV_is ry) dd fun h' dd' hs => h _ ?_
    have he : ∃ q, h'.get? a = some q := let ⟨q, _, _, hq, _⟩ := dd'; ⟨q, hq⟩
    exact d_write I (by rw [e]; exact True.intro) hs he (dk_new hl hd (rel.put k rv) dd')
  · subst ey eH
    cases (show u = Value.ref b from ry)
    obtain ⟨z, hd, xs, rel, dd⟩ := dt_of I.hok e
    have hz : xs.length ≤ sizeLine := by rw [← Paired.length rel]; exact z
    have hl : (putK kvs k v).length ≤ sizeLine := by have := length_putK kvs k v; omega
    refine wpAny_setItem_heap (hsz := hz) (tupleKind_room_in1 hu) (key_of I.hok eb) dd fun h' dd' hs => h _ ?_
    obtain ⟨q, es, ep, hq, h2, h3, h4, _, h5⟩ := dd'
    refine d_write I (by rw [e]; exact True.intro) hs ⟨q, hq⟩ ⟨hl, hd, _, (rel.put k eb rv).keeps fun c ys ec => ?_, q, es, ep, hq, h2, h3, h4, h5⟩
    rw [upd_ne (ne_of ec e (fun z => nomatch z))]
    exact ec
end

section
variable {X : Cx} {pins : List (Addr × Obj)} {σ : St} {H : Hp} {s : Shared} {a : Addr} {kvs : List (Key × V)} {k : Key} {u : Value} {A : Around} {E : Value → Shared → Prop}
end


/-! ### readings and rules -/
/-- the element of a subscription, not a slice -/
def NoSl (i : Expr) : Prop := ∀ ov iv, subscripted i false ov iv = operate [ov, iv] (getItem ov iv)
theorem subD_of {prog : Program} {w : World} {A : Around} {E : Value → Shared → Prop} {s : Shared} {env : Env} {value slice : Expr} {pos : Pos} {T id : String} {Q : Value → Shared → Prop}
    (hl : typeLookup (.type T) "__getitem__" = pure (some (.builtin id))) (hs : NoSl slice)
    (h : wpAny (model prog w) A (eval value env) (fun o s₁ => wpAny (model prog w) A (eval slice env) (fun i s₂ => s₂.TypeIs o T ∧ wpAny (model prog w) A (getItem o i) Q E s₂) E s₁) E s) :
    wpAny (model prog w) A (eval (.Subscript value slice pos) env) Q E s := by
  refine Subscript_ (wpAny_mono h (fun o s₁ h₁ => wpAny_mono h₁ (fun i s₂ h₂ => ?_) fun _ _ x => x) fun _ _ x => x)
  obtain ⟨hT, h₂⟩ := h₂
  unfold subscriptTail
  refine wpAny_bind ?_
  rw [getitemInPython_of_ne hT.not_modules]
  refine wpAny_bind (wpAny_specialOf hT hl ?_)
  have fin : wpAny (model prog w) A (subscripted slice false o i) (fun r s₃ => wpAny (model prog w) A (letTemporaryGo value o r >>= fun _ => pure r) Q E s₃) E s₂ := by
    rw [hs o i]
    exact wpAny_operating (wpAny_mono h₂ (fun r s₃ h₃ => wpAny_bind (wpAny_letTemporaryGo (wpAny_pure h₃))) fun _ _ x => x)
  first
    | exact wpAny_pure (wpAny_bind fin)
    | exact wpAny_bind (wpAny_pure (wpAny_bind fin))
    | exact wpAny_bind fin

theorem dict_typeIs {X : Cx} {pins : List (Addr × Obj)} {σ : St} {H : Hp} {s : Shared} {a : Addr} {y : V} {o : Option V} (I : Inv X pins σ H s) (g : DGet H a y o) : s.TypeIs (.ref a) "dict" := by
  rcases g with ⟨kvs, k, e, _, _⟩ | ⟨kvs, k, b, e, _, _, _⟩
  · obtain ⟨_, _, vs, _, dd⟩ := dk_rd I.hok e
    exact dd.typeIs
  · obtain ⟨_, _, xs, _, dd⟩ := dt_rd I.hok e
    exact dd.typeIs
/-- d[y] -/
def tDGet (td ty : TE) : TE := fun σ H Q => td σ H fun x H1 => ty σ H1 fun y H2 => ∃ a v, x = .ref a ∧ DGet H2 a y (some v) ∧ Q v H2
/-- y in d, y not in d -/
def tDIn (ty td : TE) : TE := fun σ H Q => ty σ H fun y H1 => td σ H1 fun x H2 => ∃ a o, x = .ref a ∧ DGet H2 a y o ∧ Q (.bl o.isSome) H2
def tDNotIn (ty td : TE) : TE := fun σ H Q => ty σ H fun y H1 => td σ H1 fun x H2 => ∃ a o, x = .ref a ∧ DGet H2 a y o ∧ Q (.bl (!o.isSome)) H2
/-- d[y] = v -/
def sDPut (td ty tv : TE) : TS := fun D σ H => tv σ H fun v H1 => td σ H1 fun x H2 => ty σ H2 fun y H3 => ∃ a H4, x = .ref a ∧ DPut H3 a y v H4 ∧ D.nx σ H4
/-- d[y] op= v -/
def sDAug (td ty tv : TE) (rd : V → V → Hp → VK → Prop) : TS := fun D σ H => td σ H fun x H1 => ty σ H1 fun y H2 => ∃ a v, x = .ref a ∧ DGet H2 a y (some v) ∧
  tv σ H2 fun y2 H3 => rd v y2 H3 fun z H4 => ∃ H5, DPut H4 a y z H5 ∧ D.nx σ H5
/-- del d[y] -/
def sDDel (td ty : TE) : TS := fun D σ H => td σ H fun x H1 => ty σ H1 fun y H2 => ∃ a kvs k, x = .ref a ∧ H2 a = some (.dK kvs) ∧ y = kV k ∧ (valV kvs k).isSome = true ∧ D.nx σ (upd H2 a (.dK (dropK kvs k)))

section
variable {X : Cx} {o i e value : Expr} {pos pos' tpos : Pos} {td ty tv : TE}
theorem pe_dget (hu : X.A.units + 1 < cLine) (ho : PE X o td) (hi : PE X i ty) (hs : NoSl i) : PE X (.Subscript o i pos) (tDGet td ty) := by
  intro pins s σ H Q I h
  refine subD_of PySem.F.slot_dict_getitem.lookup hs (thn (ho pins s σ H _ I h) fun u s1 ⟨x, H1, I1, rx, q1⟩ => thn (hi pins s1 σ H1 _ I1 q1) fun iv s2 ⟨y, H2, I2, ry, a, v, ex, g, q2⟩ => ?_)
  subst ex
  obtain rfl : u = Value.ref a := rx
  exact ⟨dict_typeIs I2 g, d_getItem hu I2 g ry fun w' s3 I3 rw' => ⟨v, H2, I3, rw', q2⟩⟩
theorem pc_din (hu : X.A.units + 1 < cLine) (hi : PE X i ty) (ho : PE X o td) : PC X .In i o (tDIn ty td) := by
  intro pins s σ H Q I h
  refine thn (hi pins s σ H _ I h) fun iv s1 ⟨y, H1, I1, ry, q1⟩ => thn (ho pins s1 σ H1 _ I1 q1) fun u s2 ⟨x, H2, I2, rx, a, ov, ex, g, q2⟩ => ?_
  subst ex
  obtain rfl : u = Value.ref a := rx
  exact d_in hu I2 g ry fun s3 I3 => ⟨.bl ov.isSome, H2, I3, rfl, q2⟩
theorem pc_dnotin (hu : X.A.units + 1 < cLine) (hi : PE X i ty) (ho : PE X o td) : PC X .NotIn i o (tDNotIn ty td) := by
  intro pins s σ H Q I h
  refine thn (hi pins s σ H _ I h) fun iv s1 ⟨y, H1, I1, ry, q1⟩ => thn (ho pins s1 σ H1 _ I1 q1) fun u s2 ⟨x, H2, I2, rx, a, ov, ex, g, q2⟩ => ?_
  subst ex
  obtain rfl : u = Value.ref a := rx
  exact d_notIn hu I2 g ry fun s3 I3 => ⟨.bl (!ov.isSome), H2, I3, rfl, q2⟩
theorem ps_dput (hu : X.A.units + 1 < cLine) (ho : PE X o td) (hi : PE X i ty) (hv : PE X value tv) (hs : swapsWith value (some (.Subscript o i pos')) pos.line X.env = pure false) :
    PS X (.Assign [.Subscript o i pos'] value pos) (sDPut td ty tv) := by
  intro pins s σ H D I h
  refine wpAny_Assign_Subscript (thn (hv pins s σ H _ I h) fun r s1 ⟨v, H1, I1, rv, q1⟩ => thn (ho pins s1 σ H1 _ I1 q1) fun u s2 ⟨x, H2, I2, rx, q2⟩ => thn (hi pins s2 σ H2 _ I2 q2) fun iv s3 ⟨y, H3, I3, ry, a, H4, ex, g, q3⟩ => ?_) hs
  subst ex
  obtain rfl : u = Value.ref a := rx
  exact d_setItem hu I3 g ry rv fun s4 I4 => ⟨σ, H4, I4, q3⟩
end


/-! ### displays -/
theorem dk_empty {P : Program} {w : World} {H : Hp} (h : Heap) (hb : sysModules < h.objs.size) : ObjOk P w H (h.push { cls := .type "dict", data := .dict #[] }) h.objs.size (.dK []) :=
  ⟨Nat.zero_le _, beq_eq_false_iff_ne.mpr (Ne.symm (Nat.ne_of_lt hb)), [], .nil, Heap.DictOf.new h⟩
/-- {}, to be a dict of the kind that is wanted -/
def tDNewK : TE := fun _ H Q => ∀ p, H p = none → Q (.ref p) (upd H p (.dK []))
def tDNewT : TE := fun _ H Q => ∀ p, H p = none → Q (.ref p) (upd H p (.dT []))
section
variable {X : Cx} {pos : Pos}
theorem pe_dnewK : PE X (.Dict [] [] pos) tDNewK := fun pins s σ H Q I h =>
  wpAny_Dict_empty ⟨.ref s.heap.objs.size, _, I.laid (a := s.heap.objs.size) (o := .dK []) (t' := s.toks) (fun _ _ q => Heap.get?_push_of_some _ q) (Nat.le_refl _) (dk_empty s.heap I.big), rfl, h _ (I.hok.fresh (Nat.le_refl _))⟩
end

end L2
namespace HT
open PySem PyProof.Rows
section
variable {prog : Program} {w : World} {A : Around} {E : Value → Shared → Prop} {s : Shared}
/-- t[a:b], the whole of it: t itself -/
theorem getItem_tuple_all {t sl : Addr} {items : Array Value} {vl vu : Value} {lo hi : Option Int} {Q : Value → Shared → Prop} (ht : IsTup s.heap t items) (hs : s.heap.IsSliceOf sl vl vu .none) (pl : IsPart vl lo) (pu : IsPart vu hi)
    (h0 : sIx items.size 0 lo = 0) (h1 : sIx items.size items.size hi = items.size) (h : Q (.ref t) s) : wpAny (model prog w) A (getItem (.ref t) (.ref sl)) Q E s := by
  obtain ⟨os, hos, hcs, hds⟩ := id hs
  have hTs : s.TypeIs (.ref sl) "slice" := ⟨os, hos, hcs⟩
  unfold getItem
  try with_reducible refine wpAny_holding ?_
  first | refine wpAny_bind (wpAny_pure ?_) | skip
  refine wpAny_bind (wpAny_sequenceKey ht.typeIs (by decide) ?_)
  refine wpAny_bind (wpAny_callSpecial?_slot (name := Str.ofString "__getitem__") ht.typeIs PyProof.Rows.slot_tuple_getitem
    (wpAny_call_entry PyProof.Rows.slot_tuple_getitem ht.typeIs entry_tuple_getitem ?_ (args_tuple_getitem _ _)))
  show wpAny _ _ (Builtin.Tuple.tupleItemsOf (.ref t) >>= _) _ _ s
  refine wpAny_bind (tupleItemsOf_ ht ?_)
  refine wpAny_bind (wpAny_typeOf hTs ?_)
  rw [if_pos (by decide)]
  refine wpAny_bind (sliceApplied_gen hs pl pu ?_)
  rw [h0, h1]
  have hyes : ((((0 : Nat) : Int) == 0 && (1 : Int) == 1 && (items.size - 0) == items.size) = true) := by simp
  show wpAny _ _ (if ((((0 : Nat) : Int) == 0 && (1 : Int) == 1 && (items.size - 0) == items.size) = true) then _ else _) _ _ s
  rw [if_pos hyes]
  refine wpAny_bind (wpAny_bind (wpAny_typeOf ht.typeIs (wpAny_pure ?_)))
  rw [if_pos (by decide)]
  exact wpAny_bind (wpAny_rule (wpAny_pure ⟨_, rfl, wpAny_pure h⟩))
/-- () + u: u itself -/
theorem cat_tup0 {t b : Addr} {ws : List Value} {Q : Value → Shared → Prop} (ht : IsTup s.heap t ([] : List Value).toArray) (hb : IsTup s.heap b ws.toArray) (h : Q (.ref b) s) : wpAny (model prog w) A (binaryOp .Add (.ref t) (.ref b)) Q E s := by
  obtain ⟨⟨cls, dd, data, sl⟩, ho, hc, n, hd⟩ := id ht
  obtain ⟨⟨cls2, dd2, data2, sl2⟩, ho2, hc2, n2, hd2⟩ := id hb
  obtain rfl : cls = .type "tuple" := hc
  obtain rfl : data = .seq #[] n := hd
  obtain rfl : cls2 = .type "tuple" := hc2
  obtain rfl : data2 = .seq ws.toArray n2 := hd2
  exact concat_meets ⟨_, ho, rfl⟩ ⟨_, ho2, rfl⟩ noFill_tuple_add seq_tuple_add PySem.F.slot_tuple_add PySem.F.entry_tuple_add (PySem.F.args_tuple_add_2 _ _) (tuple_addW0 t b #[] ws.toArray n n2 dd dd2 sl sl2 rfl) ⟨ho, ho2, h⟩
end
end HT
namespace L2
open PySem PySem.Spec PyProof.Rows PySem.W
theorem same_one {H : Hp} {q : Addr} {o : HO} (hq : H q = none) : Same H (upd H q o) := fun b u e => by rw [upd_ne (ne_of_none e hq)]; exact e
section
variable {X : Cx}
/-- t[lo:hi], t tracked -/
def rSlA : V → Option Int → Option Int → Hp → VK → Prop := fun x lo hi H Q => ∃ a xs, x = .ref a ∧ H a = some (.tup xs) ∧ ∀ p H', Same H H' → H' p = some (.tup (cutV xs lo hi)) → Q (.ref p) H'
theorem sl_tupA : SlR X rSlA := by
  intro pins s σ H x v vl vu lo hi sl Q I rx hs pl pu h
  obtain ⟨a, xs, rfl, hx, q⟩ := h
  by_cases hw : HT.sIx xs.length 0 lo = 0 ∧ HT.sIx xs.length xs.length hi = xs.length
  · cases rx
    obtain ⟨its, r, ht, hz⟩ := I.tuple (SqT.of hx)
    have hlen : its.toArray.size = xs.length := by rw [List.size_toArray]; exact r.length.symm
    refine ⟨"tuple", _, PyProof.Rows.slot_tuple_getitem.lookup, ht.typeIs, HT.getItem_tuple_all ht hs pl pu (by rw [hlen]; exact hw.1) (by rw [hlen]; exact hw.2) ?_⟩
    refine ⟨.ref a, H, I, rfl, q a H (Same.refl _) ?_⟩
    unfold cutV
    rw [hw.1, hw.2, List.drop_zero, Nat.sub_zero, List.take_length]
    exact hx
  · exact sl_tup pins s σ H (.ref a) v vl vu lo hi sl Q I rx hs pl pu ⟨a, xs, rfl, SqT.of hx, hw, fun p hp => q p _ (same_one hp) upd_same⟩
/-- t + u, both tracked -/
def rCatA : R2 := fun x y H Q => ∃ a b xs ys, x = .ref a ∧ y = .ref b ∧ H a = some (.tup xs) ∧ H b = some (.tup ys) ∧ xs.length + ys.length ≤ sizeLine ∧ ∀ p H', Same H H' → H' p = some (.tup (xs ++ ys)) → Q (.ref p) H'
theorem op_catA : OpR X (binaryOp .Add) rCatA := by
  intro pins s σ H x y v u Q I rx ry h
  obtain ⟨a, b, xs, ys, rfl, rfl, ha, hb, hz, q⟩ := h
  cases xs with
  | nil =>
    cases rx
    cases ry
    obtain ⟨its, r1, p1, _⟩ := I.tuple (SqT.of ha)
    obtain ⟨its2, r2, p2, _⟩ := I.tuple (SqT.of hb)
    cases r1
    exact HT.cat_tup0 p1 p2 ⟨.ref b, H, I, rfl, q b H (Same.refl _) hb⟩
  | cons z xs => exact op_catT pins s σ H (.ref a) (.ref b) v u Q I rx ry ⟨a, b, _, ys, rfl, rfl, SqT.of ha, SqT.of hb, by simp, hz, fun e => q a H (Same.refl _) (by rw [e, List.append_nil]; exact ha), fun _ p hp => q p _ (same_one hp) upd_same⟩
theorem key_rel {P : Program} {w : World} {k : Key} {u : Value} (h : (mixKind P w).is k u = true) : RelV (kV k) u := by
  cases k with
  | inl i => exact Value.isInt_shape (show Value.isInt i u = true from h)
  | inr x => exact Value.isStrOf_shape (show Value.isStrOf x u = true from h)
theorem vals_at : ∀ {xs : List V} {us : List Value}, xs.length = us.length → (∀ (i : Nat) x u, xs[i]? = some x → us[i]? = some u → RelV x u) → Vals xs us
  | [], [], _, _ => .nil
  | [], _ :: _, h, _ => by simp at h
  | _ :: _, [], h, _ => by simp at h
  | x :: xs, u :: us, h, f => .cons (f 0 x u rfl rfl) (vals_at (by simpa using h) fun i y v a b => f (i + 1) y v (by simpa using a) (by simpa using b))
/-- list(d), a dict by ints and texts -/
theorem call_listD (hc : X.calm = true) : CallR X (.type "list") (fun xs H Q => ∃ d kvs, xs = [.ref d] ∧ H d = some (.dK kvs) ∧ ∀ l, H l = none → Q (.ref l) (upd H l (.lst (kvs.map fun kv => kV kv.1)))) := by
  intro pins s σ H xs us Q I r h
  obtain ⟨d, kvs, rfl, hd, q⟩ := h
  obtain ⟨u, rfl, rx⟩ := vals1 r
  cases rx
  obtain ⟨hz, lo, vs, kv, dd⟩ := dk_of I.hok hd
  obtain ⟨ep, da⟩ := dd.dictAt
  have hlen : kvs.length = vs.length := kv.length
  refine kdl_call (kdl_dict (kvs := vs) (ep := ep) lo) (I.ok.hd hc) da (by rw [← hlen]; exact hz) fun h' tk acc c kp e it => ?_
  refine ⟨.ref s.heap.objs.size, _, I.laid (t' := tk) kp (Nat.le_refl _) (show ObjOk X.prog X.w _ h' _ (.lst (kvs.map fun kv => kV kv.1)) from ⟨by rw [List.length_map]; exact hz, acc.toList, c, ?_, by rw [Array.toArray_toList]; exact e⟩), rfl, q _ (I.hok.fresh (Nat.le_refl _))⟩
  refine vals_at (by rw [List.length_map, Array.length_toList]; exact hlen.trans it.1.symm) fun i x v hx hv => ?_
  obtain ⟨k, y, hk, hi⟩ := it.2 i v (by rw [← Array.getElem?_toList]; exact hv)
  obtain ⟨kv', hkv, rfl⟩ := Option.map_eq_some_iff.mp (by rw [← List.getElem?_map]; exact hx)
  have e : kv'.1 = k := by
    clear it hx hv hlen da dd q hz hd
    induction kv generalizing i with
    | nil => simp at hkv
    | cons p _ ih =>
      cases i with
      | zero =>
        simp at hkv hk
        subst hkv
        rw [p.1, hk]
      | succ i => exact ih i (by simpa using hk) (by simpa using hkv)
  rw [e]
  exact key_rel hi
end
end L2
namespace HT
open PySem PyProof.Rows
section
open PySem.SeqAt
open PySem.AutoSeq1 (wpAny_loadPart')
open PySem.MeetsSeq PySem.MeetsSeq2 PySem.MeetsSeq3
end
end HT
namespace HT
open PySem PyProof.Rows
section
variable {prog : Program} {w : World} {A : Around} {R : Result → Shared → Prop}
/-- a list of ints on the heap -/
def IntsL (h : Heap) (a : Addr) (ns : List Int) : Prop := ∃ vs n dd sl, h.get? a = some { cls := .type "list", dict := dd, data := .seq vs n, slots := sl } ∧ IntsAre vs.toList ns
end
end HT
namespace L2
open PySem PySem.Spec PyProof.Rows PySem.W HT
theorem pair_at {α β : Type} {F : α → β → Prop} : ∀ {l : List α} {m : List β} {i : Nat} {x : α}, Paired F l m → l[i]? = some x → ∃ y, m[i]? = some y ∧ F x y
  | _, _, i, x, .nil, e => by simp at e
  | _, _, 0, x, .cons p _, e => by simp at e; subst e; exact ⟨_, rfl, p⟩
  | _, _, i + 1, x, .cons _ t, e => by simpa using pair_at (i := i) t (by simpa using e)
section
variable {X : Cx}
/-- min of a list of lists of ints -/
def rMinL (K : Frag) : List V → Hp → VK → Prop := fun xs H Q => ∃ (p : Addr) (ys : List V) (nss : List (List Int)), xs = [.ref p] ∧ SqL K H p ys ∧ Paired (fun y ns => ∃ a, y = V.ref a ∧ H a = some (.lst (ns.map V.int))) ys nss ∧ nss ≠ [] ∧
  ∀ a mb, mb ∈ nss → H a = some (.lst (mb.map V.int)) → (∀ ns ∈ nss, lexLt ns mb = false) → Q (.ref a) H
end
end L2
/-! ### enumerate over a tuple -/
namespace HT
open PySem PyProof.Rows
section
variable {prog : Program} {w : World} {A : Around} {E : Value → Shared → Prop} {s : Shared}
end
end HT
namespace HT
open PySem PyProof.Rows
open PySem.AutoSeq1 (wpAny_loadPart')
end HT
namespace L2
open PySem PySem.Spec PyProof.Rows PySem.W HT
def ItE (K : Frag) (l : Addr) : It :=
  ⟨fun i H => ∃ xs x, SqT K H l xs ∧ xs[i]? = some x, fun i H x H' => ∃ t v, H t = none ∧ x = .ref t ∧ (∀ xs, SqT K H l xs → xs[i]? = some v) ∧ H' = upd H t (.tup [.int i, v]), fun i H => ∃ xs, SqT K H l xs ∧ xs.length ≤ i⟩
section
variable {X : Cx}
def iEnumT (K : Frag) (ta : TA) : TI := fun σ H R => ta σ H fun vs H1 => ∃ a, vs = [.ref a] ∧ (∃ xs, SqT K H1 a xs) ∧ R (ItE K a) H1
end
end L2
/-! ### dict(zip(xs, ys)) -/
namespace HT
open PySem PyProof.Rows
end HT
namespace HT
open PySem PyProof.Rows PySem.W
/-- a zip whose last pair is still about -/
def ZipOn (h : Heap) (z TI TO : Addr) : Prop := ∃ (a : Nat) (f1 : Bool) (o : Obj), h.get? z = some { cls := .type "zip", dict := none, data := .fields #[rawInt a, .bool f1, .bool false, .ref TI, .ref TO], slots := #[] } ∧ h.get? a = some o ∧ a ≠ z
section
variable {prog : Program} {w : World} {A : Around} {E : Value → Shared → Prop} {s : Shared}
end
end HT
namespace HT
open PySem PyProof.Rows PySem.W L2
theorem plain_upd : plainId "dict.update.loop" = true := by decide +kernel
theorem entry_upd : entryFor table "dict.update.loop" = some Builtin.«dict.update.loop» := entryFor_of_fast (by kernel_rfl)
theorem stored_new {K : Type} [DecidableEq K] {kvs : List (K × Value)} {k : K} {v : Value} (h : k ∉ kvs.map (·.1)) : stored kvs k v = kvs ++ [(k, v)] := by
  unfold stored
  rw [if_neg]
  intro z
  obtain ⟨p, hp, e⟩ := List.any_eq_true.mp z
  exact h (List.mem_map.mpr ⟨p, hp, by simpa using e⟩)
structure DApart (d z TI TO i1 i2 l1 l2 : Addr) : Prop where
  z : d ≠ z
  TI : d ≠ TI
  TO : d ≠ TO
  i1 : d ≠ i1
  i2 : d ≠ i2
  l1 : d ≠ l1
  l2 : d ≠ l2
section
variable {prog : Program} {w : World} {A : Around} {R : Result → Shared → Prop} {z TI TO i1 i2 l1 l2 d : Addr} {xs ys : Array Value} {g : Heap}
end
end HT
namespace HT
open PySem PyProof.Rows PySem.W L2
section
variable {prog : Program} {w : World} {A : Around} {R : Result → Shared → Prop} {z TI TO i1 i2 l1 l2 d : Addr} {xs ys : Array Value} {g : Heap}
end
end HT
namespace HT
open PySem PyProof.Rows
section
open PySem.SeqAt
open PySem.AutoSeq1 (wpAny_loadPart')
open PySem.MeetsSeq PySem.MeetsSeq2 PySem.MeetsSeq3
end
end HT
namespace L2
open PySem PySem.Spec PyProof.Rows PySem.W HT
section
variable {X : Cx}
/-- xs.remove(x), a list of texts -/
def rRemL : V → List V → Hp → VK → Prop := fun x vs H Q => ∃ (l : Addr) (ys : List Str) (y : Str) (j : Nat), x = .ref l ∧ vs = [.str y] ∧ H l = some (.lst (ys.map V.str)) ∧ ys[j]? = some y ∧ (∀ m, m < j → ys[m]? ≠ some y) ∧ Q .non (upd H l (.lst ((ys.map V.str).eraseIdx j)))
/-- repr of data, of None -/
def rRepr : List V → Hp → VK → Prop := fun xs H Q => ∃ x, xs = [x] ∧ ((x = .non ∧ Q (.str "None") H) ∨ ∃ a d, x = .ref a ∧ Rep H x d ∧ d.showable = true ∧ d.hasDict = false ∧ d.depth ≤ 50 ∧ d.shown.length ≤ 100000 ∧ Q (.str d.shown) H)
/-- dict(zip(xs, ys)): the keys unlike texts -/
def zipKV (ks : List Str) (ws : List V) : List (Key × V) := (ks.zip ws).map fun p => (Sum.inr p.1, p.2)
def tDictZip (t : TA) : TE := fun σ H Q => t σ H fun vs H1 => ∃ l1 l2 ks ws, vs = [.ref l1, .ref l2] ∧ H1 l1 = some (.lst (ks.map V.str)) ∧ H1 l2 = some (.lst ws) ∧ ks.Nodup ∧ ks.length = ws.length ∧ ∀ d, H1 d = none → Q (.ref d) (upd H1 d (.dK (zipKV ks ws)))
end
end L2
namespace L2
open PySem PySem.Spec PyProof.Rows PySem.W HT
section
variable {X : Cx}
/-- try, where nothing is raised -/
theorem ps_tryNo {body : List Stmt} {h0 : ExceptHandler} {hs : List ExceptHandler} {pos : Pos} {t : TS} (h : PSs X body t) (hx : X.xe = fun _ _ => False) : PS X (.Try body (h0 :: hs) [] [] pos) t := by
  intro pins s σ H D I hw
  have nr : ∀ {α : Type} {tt : Sem α} {Q : α → Shared → Prop} {E : Value → Shared → Prop} {s' : Shared}, wpAny (model X.prog X.w) X.A tt Q X.xe s' → wpAny (model X.prog X.w) X.A tt Q E s' := fun z => by rw [hx] at z; exact wpAny_noRaise z
  refine wpAny_Try_except (thn (nr (h pins s σ H D I hw)) fun f s1 z => ?_)
  cases f with
  | next => exact wpAny_execs_nil z
  | brk => exact z
  | cont => exact z
  | ret u => exact z
/-- any(list of bools) -/
theorem call_anyB (hc : X.calm = true) : CallR X (.builtin "any") (fun xs H Q => ∃ (p : Addr) (bs : List Bool), xs = [.ref p] ∧ SqL X.K H p (bs.map V.bl) ∧ Q (.bl (bs.any id)) H) := by
  intro pins s σ H xs us Q I r h
  obtain ⟨p, bs, rfl, hq, q⟩ := h
  obtain ⟨u, rfl, rx⟩ := vals1 r
  cases rx
  obtain ⟨its, rv, pl, hz⟩ := I.list hq
  have hlen := rv.length
  have vals : its = bs.map Value.bool := by
    clear q hq pl hz r hlen
    induction bs generalizing its with
    | nil => cases rv; rfl
    | cons b bs ih =>
      cases rv with
      | cons r1 rt => cases r1; rw [ih _ rt]; rfl
  have new : ∀ b o, s.heap.get? b = some o → b ≠ s.heap.objs.size := fun b o e => Nat.ne_of_lt (Heap.lt_size e)
  obtain ⟨ol, hol, _⟩ := id pl.isList
  refine call_any_walk (wpAny_pyIter_list pl.isList ?_)
  refine ⟨s.heap.objs.size, _, _, _, _, _, fun i => bs.getD i false, rfl, Walks.list (A := X.A.in1) (I.ok.hd hc) s.heap.objs.size p (new p ol hol) its.toArray, ⟨⟨_, Heap.get?_push_size _ rfl, rfl, rfl⟩, pl.isList.at fun o e => Heap.get?_push_of_some _ e⟩, fun i v s2 Q2 E2 hv hq2 => ?_, fun h' tk kp => ?_⟩
  · rw [vals] at hv
    have : bs[i]?.map Value.bool = some v := by simpa using hv
    obtain ⟨b, hb, rfl⟩ := Option.map_eq_some_iff.mp this
    refine wpAny_truthy_bool ?_
    have e : bs.getD i false = b := by rw [List.getD_eq_getElem?_getD, hb]; rfl
    exact e ▸ hq2
  · have fin : (List.range its.toArray.size).any (fun i => bs.getD i false) = bs.any id := by
      have hs : its.toArray.size = bs.length := by rw [vals]; simp
      rw [hs]
      apply Bool.eq_iff_iff.mpr
      simp only [List.any_eq_true, List.mem_range]
      constructor
      · rintro ⟨i, hi, e⟩
        exact ⟨bs[i], List.getElem_mem hi, by simpa [List.getD, hi] using e⟩
      · rintro ⟨b, hb, e⟩
        obtain ⟨i, hi, rfl⟩ := List.getElem_of_mem hb
        exact ⟨i, hi, by simpa [List.getD, hi] using e⟩
    rw [fin]
    exact ⟨.bl _, H, I.kept (t' := tk) fun b o e => kp b o (by simpa using new b o e) (Heap.get?_push_of_some _ e), rfl, q⟩
/-- the signs of a text -/
def Its (x : Str) : It := ⟨fun i _ => i < x.cps.size, fun i H v H' => H' = H ∧ ∃ c, x.cps[i]? = some c ∧ v = .str ⟨#[c]⟩, fun i _ => x.cps.size ≤ i⟩
theorem turn_str {P : Program} {w : World} {K : Frag} {tg : Expr} (it : Addr) (x : Str) (t : Tok) (T : String) (hT : ["enumerate", "zip", "dict_itemiterator", "dict_reverseitemiterator", "odict_iterator", "itertools.zip_longest", "itertools.pairwise"].contains T = false)
    (W : ∀ A' : Around, A'.handled = none → Walks P w A' it [it] [it] x.cps.size (SignAt x) (fun i h => h.IsStrIter it T x t i))
    (hs : ∀ (A : Around) (i : Nat) (s : Shared) (Q : Value → Shared → Prop) (E : Value → Shared → Prop), s.heap.IsStrIter it T x t i → Q (.ref it) s → wpAny (model P w) A (pyIter (.ref it)) Q E s) : Turn P w K tg (Its x) [it] it (fun i h => i ≤ x.cps.size ∧ h.IsStrIter it T x t i) where
  mem := by simp
  obj := fun i h st b hb => by
    obtain rfl : b = it := by simpa using hb
    obtain ⟨_, o, e, c, d⟩ := st
    exact ⟨o, e, fun v z => by rw [d] at z; cases z⟩
  keep := fun i h h' st k => by
    obtain ⟨l, o, e, r⟩ := st
    exact ⟨l, o, k it (by simp) _ e, r⟩
  item := by
    intro X hP hw hK hc i pins s σ H E I hf st hg
    subst hP hw hK
    obtain ⟨f0, f1, f2, f3, f4, f5⟩ := hf it (by simp)
    refine (W X.A (I.ok.hd hc)).item i s _ _ hg st.2 fun v h' tk hv st' kk => ?_
    obtain ⟨c, u, hcx, rfl⟩ := hv
    have I1 : Inv X pins σ H { s with heap := h', toks := tk } := I.turned (fun b o hb e => kk b o (by simpa using hb) e) f0 f1 f3 f4 f5
    obtain ⟨o, e, cl, d⟩ := id st'
    exact ⟨_, rfl, go_of (s := { s with heap := h', toks := tk }) e cl d hT ⟨.str ⟨#[c]⟩, H, I1, ⟨u, rfl⟩, ⟨rfl, c, hcx, rfl⟩, ⟨hg, st'⟩, fun b hb => (hf b hb).1⟩⟩
  done := by
    intro X hP hw hK hc i pins s σ H E I hf st hg
    subst hP hw hK
    obtain ⟨f0, f1, f2, f3, f4, f5⟩ := hf it (by simp)
    have ei : i = x.cps.size := Nat.le_antisymm st.1 hg
    subst ei
    exact (W X.A (I.ok.hd hc)).done s _ _ st.2 fun h' tk kk => ⟨rfl, I.turned (fun b o hb e => kk b o (by simpa using hb) e) f0 f1 f3 f4 f5⟩
  self := fun A i s Q E st h => hs A i s Q E st.2 h
def iStr (te : TE) : TI := fun σ H R => te σ H fun v H1 => ∃ x, v = .str x ∧ R (Its x) H1
theorem pi_str {tg e : Expr} {te : TE} (he : PE X e te) : PI X tg e (iStr te) := by
  intro pins s σ H R I h
  refine thn (he pins s σ H _ I h) fun v s1 ⟨y, H1, I1, r1, x, ey, q⟩ => ?_
  subst ey
  obtain ⟨t, rfl⟩ := r1
  have I2 : ∀ o : Obj, Inv X pins σ H1 { s1 with heap := s1.heap.push o } := fun o => I1.kept (t' := s1.toks) fun b ob z => Heap.get?_push_of_some _ z
  have fp : ∀ b ∈ [s1.heap.objs.size], FpOk X pins H1 b := fun b hb => by
    obtain rfl : b = s1.heap.objs.size := by simpa using hb
    exact I1.fpOk (Nat.le_refl _) (I1.hok.fresh (Nat.le_refl _))
  cases ha : x.cps.all (· < 128)
  · refine wpAny_pyIter_wide ha ?_
    exact ⟨s1.heap.objs.size, [s1.heap.objs.size], _, _, H1, rfl, I2 _, turn_str s1.heap.objs.size x t "str_iterator" (by decide) (fun A' hA => Walks.strWide hA _ x t) (fun _ _ _ _ _ st h => wpAny_pyIter_striter_wide st h), ⟨Nat.zero_le _, _, Heap.get?_push_size _ rfl, rfl, rfl⟩, fp, q⟩
  · refine wpAny_pyIter_ascii ha ?_
    exact ⟨s1.heap.objs.size, [s1.heap.objs.size], _, _, H1, rfl, I2 _, turn_str s1.heap.objs.size x t "str_ascii_iterator" (by decide) (fun A' hA => Walks.strAscii hA _ x t) (fun _ _ _ _ _ st h => wpAny_pyIter_striter_ascii st h), ⟨Nat.zero_le _, _, Heap.get?_push_size _ rfl, rfl, rfl⟩, fp, q⟩
/-- a comprehension over a text -/
theorem comp_str {x : Str} {g : TG} {ti : TT} {te : TE} {τ0 : St} {Q : VK} {p : Addr} {H1 : Hp} (Pv : Nat → List V → St → Hp → Prop) (h0 : Pv 0 [] τ0 (upd H1 p (.lst []))) (hl : ∀ i ys τ H, Pv i ys τ H → H p = some (.lst ys))
    (hs : ∀ i c ys τ H, x.cps[i]? = some c → Pv i ys τ H → g (.str ⟨#[c]⟩) τ H fun τ4 H4 => ti τ4 H4 fun b H5 => if b = true then te τ4 H5 fun y H6 => H6 p = some (.lst ys) ∧ ys.length < sizeLine ∧ ∃ m', m' < x.cps.size - i ∧ CW Pv x.cps.size (i + 1) m' (ys ++ [y]) τ4 (upd H6 p (.lst (ys ++ [y]))) else ∃ m', m' < x.cps.size - i ∧ CW Pv x.cps.size (i + 1) m' ys τ4 H5)
    (hd : ∀ ys τ H, Pv x.cps.size ys τ H → Q (.ref p) H) : CompW (Its x) g ti te τ0 Q p H1 := by
  refine ⟨CW Pv x.cps.size, ⟨x.cps.size, by simp, Nat.zero_le _, h0⟩, ?_⟩
  rintro i m ys τ H ⟨rfl, hi, pv⟩
  refine ⟨hl i ys τ H pv, ?_⟩
  by_cases hlt : i < x.cps.size
  · refine .inr ⟨hlt, fun v H3 y3 => ?_⟩
    obtain ⟨e3, c, hc, rfl⟩ := y3
    subst e3
    exact hs i c ys τ _ hc pv
  · have e : i = x.cps.size := by omega
    subst e
    exact .inl ⟨Nat.le_refl _, hd ys τ H pv⟩
end
end L2
/-! ### dict of a tuple of pairs -/
namespace HT
open PySem PyProof.Rows PySem.W L2
theorem meets_tup_keys (a : Addr) (vs : Array Value) (n : Nat) (u : Tok) (sl : Array (Option Value)) :
    Meets (Builtin.«object.__getattribute__» ⟨[.ref a, .str "keys" u], []⟩) (fun A R s => s.heap.get? a = some { cls := .type "tuple", dict := none, data := .seq vs n, slots := sl } ∧ raisesAttr (.ref a) "keys" A R s) :=
  meets_getattribute_miss_tuple a vs n sl "keys" u (by rw [typeLookup_type, builtinLookup_eq_fast]; kernel_rfl) (by decide +kernel) (by rw [sizeLine_eq]; decide +kernel)
theorem tup_keys {prog : Program} {w : World} {A : Around} {E : Value → Shared → Prop} {s : Shared} {a : Addr} {vs : Array Value} {n : Nat} {sl : Array (Option Value)} {Q : Option Value → Shared → Prop} (hx : s.heap.get? a = some { cls := .type "tuple", dict := none, data := .seq vs n, slots := sl }) (hA : A.handled = none)
    (h : ∀ h' tk, (∀ b o, s.heap.get? b = some o → h'.get? b = some o) → Q none { s with heap := h', toks := tk }) : wpAny (model prog w) A (getAttr? (.ref a) "keys") Q E s := by
  obtain ⟨hp, g, d, tk, os⟩ := s
  have hT : ∀ tk', (⟨hp, g, d, tk', os⟩ : Shared).TypeIs (.ref a) "tuple" := fun _ => ⟨_, hx, rfl⟩
  have f1 := sub_AttributeError
  have f3 := F.slot_tuple_getattribute.lookup
  have f4 := F.slot_tuple_getattribute.bind (.ref a)
  have f5 := am_tuple_getattr_none
  unfold getAttr? getAttrBy? getAttrBy
  repeat (any_goals (first | assumption | exact hT _ | ((with_reducible show wpAny _ _ (call (Value.builtin "tuple.__getattribute__") _ _) _ _ _); refine call_meets F.slot_tuple_getattribute (hT _) am_entry_tuple_getattribute (F.args_tuple_getattribute_2 _ _) (meets_tup_keys a vs n _ sl) ⟨hx, hA, fun h' tk' e hx' => ?_⟩) | wp_step))
  obtain ⟨t', u', he⟩ := hx'.there
  show wpAny _ _ (getattributeRaised _ _ _ _ _ _ _) _ _ _
  unfold getattributeRaised
  repeat (any_goals (first | assumption | wp_step))
  exact h h' tk' hx'.keeps
end HT
namespace HT
open PySem PyProof.Rows PySem.W L2
section
variable {prog : Program} {w : World} {A : Around} {R : Result → Shared → Prop} {it t d : Addr} {vs : Array Value} {g : Heap}
theorem upd_pair {E : Value → Shared → Prop} {Q : Unit → Shared → Prop} {s : Shared} {T : Addr} {x y : Value} {k : Key} {kvs : List (Key × Value)} {i : Int} (hT : IsTup s.heap T #[x, y]) (hk : (mixKind prog w).is k x = true) (hd : s.heap.DictOf (mixKind prog w) d kvs) (new : k ∉ kvs.map (·.1)) (hz : kvs.length ≤ sizeLine)
    (q : ∀ h' tk, h'.DictOf (mixKind prog w) d (kvs ++ [(k, y)]) → Heap.SameBut d s.heap h' → Q () { s with heap := h', toks := tk }) :
    wpAny (model prog w) A (holding [Value.ref T] (do
      let pair ← (Builtin.Dict.pairItems (.ref T)).tryCatch fun e => do
        if !(← isInstance e (.type "TypeError")) then throw e
        rule "dict.update.element-no-sequence"
        raiseError "TypeError" s!"cannot convert dictionary update sequence element #{i} to a sequence"
      match pair with
      | [k, v] => holding [k, v] (dictSet d k v)
      | l =>
        rule "dict.update.element-length"
        raiseError "ValueError" s!"dictionary update sequence element #{i} has length {l.length}; 2 is required")) Q E s := by
  refine wpAny_holding (wpAny_bind (wpAny_tryCatch ?_))
  unfold Builtin.Dict.pairItems
  refine wpAny_bind (wpAny_typeOf hT.typeIs ?_)
  rw [if_pos (by decide)]
  obtain ⟨o, ho, _, n, hdt⟩ := hT
  refine wpAny_bind (wpAny_seqItems ho hdt (wpAny_pure ?_))
  show wpAny _ _ (holding [x, y] (dictSet d x y)) _ _ _
  refine wpAny_holding (wpAny_dictSet_pairs (hsz := hz) hk hd fun h' dd sb => ?_)
  rw [stored_new new] at dd
  exact q h' _ dd sb
theorem upd_tup (hh : A.in1.handled = none) (ndi : d ≠ it) (ndt : d ≠ t) (nti : t ≠ it) (ps : List (Key × Value)) (nd : (ps.map (·.1)).Nodup) (hz : ps.length ≤ sizeLine) (hsz : vs.size = ps.length) (hv : IsTup g t vs)
    (hps : ∀ (i : Nat) p, ps[i]? = some p → ∃ a x, vs[i]? = some (.ref a) ∧ a ≠ it ∧ a ≠ d ∧ IsTup g a #[x, p.2] ∧ (mixKind prog w).is p.1 x = true) :
    ∀ (m k : Nat) (s : Shared), ps.length - k = m → k ≤ ps.length → IsTupIter s.heap it t k → s.heap.DictOf (mixKind prog w) d (ps.take k) →
      (∀ b o, b ≠ it → b ≠ d → g.get? b = some o → s.heap.get? b = some o) →
      (∀ h' tk, h'.DictOf (mixKind prog w) d ps → (∀ b o, b ≠ it → b ≠ d → g.get? b = some o → h'.get? b = some o) → R (.ok (.ret .none)) { s with heap := h', toks := tk }) →
      codeAny (model prog w) A (.builtin "dict.update.loop" ⟨[.ref d, .ref it, rawInt k, .none], []⟩) R s := by
  have up : ∀ {b : Addr} {us : Array Value} {h : Heap}, b ≠ it → b ≠ d → (∀ b o, b ≠ it → b ≠ d → g.get? b = some o → h.get? b = some o) → IsTup g b us → IsTup h b us := fun n1 n2 kp ⟨o, ho, r⟩ => ⟨o, kp _ _ n1 n2 ho, r⟩
  intro m
  induction m with
  | zero =>
    intro k s hm hk t1 dd kp hR
    have ek : k = ps.length := by omega
    refine codeAny_builtin entry_upd (?_ : wpAny _ _ _ _ _ _)
    rw [Around.under_plainId plain_upd _]
    show wpAny _ A.in1 (pyNext (.ref it) >>= _) _ _ s
    refine wpAny_bind (next_tuple_end hh t1 (up nti ndt.symm kp hv) (by simp; omega) fun h' k' => ?_)
    refine wpAny_bind (m := Builtin.Dict.addKeywords d []) (wpAny_pure (wpAny_pure ?_))
    have dd' : h'.DictOf (mixKind prog w) d (ps.take k) := dd.at fun o e => k' d o ndi e
    rw [ek, List.take_length] at dd'
    exact hR h' s.toks dd' fun b o a1 a2 e => k' b o a1 (kp b o a1 a2 e)
  | succ m ih =>
    intro k s hm hk t1 dd kp hR
    have hlt : k < ps.length := by omega
    have hp : ps[k]? = some ps[k] := List.getElem?_eq_getElem hlt
    obtain ⟨a, x, hva, na1, na2, hpair, hkey⟩ := hps k _ hp
    have tk1 : ps.take (k + 1) = ps.take k ++ [ps[k]] := by rw [List.take_succ, hp]; rfl
    have new : ps[k].1 ∉ (ps.take k).map (·.1) := fun w => by
      have e : ps.map (·.1) = (ps.take k).map (·.1) ++ (ps.drop k).map (·.1) := by rw [← List.map_append, List.take_append_drop]
      rw [e, List.nodup_append] at nd
      refine nd.2.2 _ w _ ?_ rfl
      rw [List.drop_eq_getElem_cons hlt]
      exact List.mem_cons_self
    refine codeAny_builtin entry_upd (?_ : wpAny _ _ _ _ _ _)
    rw [Around.under_plainId plain_upd _]
    show wpAny _ A.in1 (pyNext (.ref it) >>= _) _ _ s
    refine wpAny_bind (next_tuple_item t1 (up nti ndt.symm kp hv) hva fun h' t1' sb => ?_)
    have kp' : ∀ b o, b ≠ it → b ≠ d → g.get? b = some o → h'.get? b = some o := fun b o a1 a2 e => sb.extBut b o a1 (kp b o a1 a2 e)
    have dd' : h'.DictOf (mixKind prog w) d (ps.take k) := dd.at fun o e => sb.extBut d o ndi e
    refine wpAny_bind (upd_pair (s := { s with heap := h' }) (k := ps[k].1) (up na1 na2 kp' hpair) hkey dd' new (by rw [List.length_take]; omega) fun h'' tk dd'' sb' => ?_)
    rw [show ((k : Int) + 1) = ((k + 1 : Nat) : Int) from rfl]
    exact wpAny_pure ⟨plainId_quiet plain_upd _, ih (k + 1) _ (by omega) hlt (t1'.extBut sb'.extBut ndi.symm) (by rw [tk1]; exact dd'') (fun b o a1 a2 e => sb'.extBut b o a2 (kp' b o a1 a2 e)) hR⟩
theorem call_dict_tup {E : Value → Shared → Prop} {Q : Value → Shared → Prop} {s : Shared} (hh : A.handled = none) (ps : List (Key × Value)) (nd : (ps.map (·.1)).Nodup) (hz : ps.length ≤ sizeLine) (hsz : vs.size = ps.length) {n : Nat} {sl : Array (Option Value)}
    (hv : s.heap.get? t = some { cls := .type "tuple", dict := none, data := .seq vs n, slots := sl })
    (hps : ∀ (i : Nat) p, ps[i]? = some p → ∃ a x, vs[i]? = some (.ref a) ∧ IsTup s.heap a #[x, p.2] ∧ (mixKind prog w).is p.1 x = true)
    (q : ∀ d h' tk, s.heap.objs.size ≤ d → h'.DictOf (mixKind prog w) d ps → (∀ b o, s.heap.get? b = some o → h'.get? b = some o) → Q (.ref d) { s with heap := h', toks := tk }) :
    wpAny (model prog w) A (call (.type "dict") [.ref t]) Q E s := by
  refine callType_codes (Q₁ := fun obj s₁ => obj = .ref s.heap.objs.size ∧ s₁ = { s with heap := s.heap.push { cls := .type "dict", data := .dict #[] } }) F.kt_called_dict (F.kt_typeCall_dict_1 _) F.entry_dict_init (kt_code_dict_new _ ⟨rfl, rfl⟩) ?_
  rintro obj s₁ ⟨rfl, rfl⟩
  have dn : (s.heap.push { cls := .type "dict", data := .dict #[] }).DictOf (mixKind prog w) s.heap.objs.size [] := Heap.DictOf.new s.heap
  have k2 : ∀ b o, s.heap.get? b = some o → (s.heap.push { cls := .type "dict", data := .dict #[] }).get? b = some o := fun b o e => Heap.get?_push_of_some _ e
  generalize s.heap.push { cls := .type "dict", data := .dict #[] } = h2 at dn k2 ⊢
  refine ⟨dn.typeIs, F.args_dict_init_2 _ _, ?_⟩
  unfold Builtin.«dict.__init__»
  refine wpAny_bind ?_
  unfold Builtin.Dict.selfAndRest
  refine wpAny_bind (wpAny_notOrdered_dict dn.typeIs ?_)
  refine (wpAny_pure ?_ : wpAny _ _ (pure (s.heap.objs.size, [Value.ref t])) _ _ _)
  show wpAny _ _ (Builtin.Dict.updateFrom "dict.__init__" s.heap.objs.size (.ref t) [] .none) _ _ _
  unfold Builtin.Dict.updateFrom
  have v2 := k2 _ _ hv
  refine wpAny_bind (wpAny_typeOf (T := "tuple") ⟨_, v2, rfl⟩ ?_)
  rw [if_pos (by decide)]
  refine wpAny_bind (tup_keys v2 hh fun h3 tk3 k3 => ?_)
  rw [if_pos (by decide)]
  have it3 : IsTup h3 t vs := ⟨_, k3 _ _ v2, rfl, n, rfl⟩
  refine wpAny_bind (wpAny_rule (wpAny_bind (iter_tuple it3 ?_)))
  refine wpAny_pure ⟨plainId_quiet plain_upd _, ?_⟩
  have up : ∀ b o, s.heap.get? b = some o → h3.get? b = some o := fun b o e => k3 b o (k2 b o e)
  have dlt : s.heap.objs.size < h3.objs.size := by
    obtain ⟨o, _, _, ho, _⟩ := dn
    exact Heap.lt_size (k3 _ _ ho)
  have dd3 : h3.DictOf (mixKind prog w) s.heap.objs.size [] := dn.at fun o e => k3 _ o e
  have lt : ∀ {b : Addr} {o : Obj}, s.heap.get? b = some o → b < s.heap.objs.size := fun e => Heap.lt_size e
  refine upd_tup (A := A.in1) (g := s.heap) (it := h3.objs.size) hh (Nat.ne_of_lt dlt) (Nat.ne_of_gt (lt hv)) (Nat.ne_of_lt (Nat.lt_trans (lt hv) dlt)) ps nd hz hsz ⟨_, hv, rfl, n, rfl⟩ (fun i p hp => ?_) _ 0 _ rfl (Nat.zero_le _) ⟨_, Heap.get?_push_size _ rfl, rfl, rfl⟩ (dd3.at fun o e => Heap.get?_push_of_some _ e) (fun b o _ _ e => Heap.get?_push_of_some _ (up b o e)) fun h' tk dd kp => ?_
  · obtain ⟨a, x, h1, h2', h3'⟩ := hps i p hp
    obtain ⟨o, ho, _⟩ := id h2'
    exact ⟨a, x, h1, Nat.ne_of_lt (Nat.lt_trans (lt ho) dlt), Nat.ne_of_lt (lt ho), h2', h3'⟩
  · exact ⟨rfl, q _ h' tk (Nat.le_refl _) dd fun b o e => kp b o (Nat.ne_of_lt (Nat.lt_trans (lt e) dlt)) (Nat.ne_of_lt (lt e)) e⟩
end
end HT
namespace L2
open PySem PySem.Spec PyProof.Rows PySem.W HT
section
variable {X : Cx}
theorem op_le_str : OpR X (compareOp .LtE) (fun x y H Q => ∃ i j, x = .str i ∧ y = .str j ∧ Q (.bl (!decide (j.cps.toList < i.cps.toList))) H) := by
  intro pins s σ H x y v u Q I rx ry ⟨i, j, ex, ey, q⟩
  subst ex ey
  obtain ⟨t, rfl⟩ := rx
  obtain ⟨t', rfl⟩ := ry
  exact P.le_str (fin_bl I q rfl)
/-- pairs of a text and something, as tuples on the heap -/
def PairsV (H : Hp) (vs : List V) (kvs : List (Str × V)) : Prop := Paired (fun y p => ∃ a, y = V.ref a ∧ H a = some (.tup [.str p.1, p.2])) vs kvs
theorem PairsV.same {H H' : Hp} {vs : List V} {kvs : List (Str × V)} (h : PairsV H vs kvs) (s : Same H H') : PairsV H' vs kvs := Paired.imp' (fun _ _ ⟨a, e, q⟩ => ⟨a, e, s _ _ q⟩) h
def pairKV (kvs : List (Str × V)) : List (Key × V) := kvs.map fun p => (Sum.inr p.1, p.2)
theorem pair_kv : ∀ (kvs : List (Str × V)) (ys : List Value), ys.length = kvs.length → (∀ (i : Nat) (hi : i < kvs.length), ∃ y, ys[i]? = some y ∧ RelV kvs[i].2 y) → KV (pairKV kvs) ((kvs.map fun p => (Sum.inr p.1 : Key)).zip ys)
  | [], ys, h, _ => .nil
  | p :: kvs, [], h, _ => by simp at h
  | p :: kvs, y :: ys, h, f => by
    obtain ⟨y', e, r⟩ := f 0 (by simp)
    obtain rfl : y = y' := by simpa using e
    exact .cons ⟨rfl, r⟩ (pair_kv kvs ys (by simpa using h) fun i hi => by
      obtain ⟨y2, e2, r2⟩ := f (i + 1) (Nat.succ_lt_succ hi)
      exact ⟨y2, by simpa using e2, r2⟩)
/-- tuple(list), its object known to have no dict of its own -/
theorem call_tuple_frz : CallR X (.type "tuple") (fun xs H Q => ∃ p ys, xs = [.ref p] ∧ SqL X.K H p ys ∧ ∀ l o, H l = none → o.dict = none → Q (.ref l) (upd H l (.frz o (.tup ys)))) := by
  intro pins s σ H xs us Q I r ⟨p, ys, ex, hq, q⟩
  subst ex
  obtain ⟨u, rfl, rx⟩ := vals1 r
  cases rx
  obtain ⟨its, r', pl, hz⟩ := I.list hq
  have hlen := r'.length
  refine call_tuple_list pl.isList (fun h' kp => ?_) (by simp only [List.size_toArray] <;> omega)
  have I1 : Inv X pins σ H { s with heap := h' } := I.kept (t' := s.toks) kp
  refine ⟨.ref h'.objs.size, _, I1.laid (o := .frz { cls := .type "tuple", data := .seq its.toArray } (.tup ys)) (t' := s.toks) (fun b o e => Heap.get?_push_of_some _ e) (Nat.le_refl _) ⟨Heap.get?_push_size _ rfl, hz, its, r', TupN.new _ _⟩, rfl, q _ _ (I1.hok.fresh (Nat.le_refl _)) rfl⟩
/-- dict(tuple of pairs), the keys unlike texts; the tuple's object is known to have no dict of its own -/
theorem call_dictT (hc : X.calm = true) : CallR X (.type "dict") (fun xs H Q => ∃ t o vs kvs, xs = [.ref t] ∧ H t = some (.frz o (.tup vs)) ∧ o.dict = none ∧ PairsV H vs kvs ∧ (kvs.map (·.1)).Nodup ∧ ∀ d, H d = none → Q (.ref d) (upd H d (.dK (pairKV kvs)))) := by
  intro pins s σ H xs us Q I r h
  obtain ⟨t, o, vs, kvs, rfl, ht, hod, pr, nd, q⟩ := h
  obtain ⟨u, rfl, ru⟩ := vals1 r
  cases ru
  obtain ⟨ho, hz, its, rv, o', ho', hcl, n, hdt, _⟩ := (show ObjOk X.prog X.w H s.heap t (.frz o (.tup vs)) from I.hok t _ ht)
  rw [ho] at ho'
  cases ho'
  obtain ⟨cl, dd, dt, sl⟩ := o
  obtain rfl : cl = .type "tuple" := hcl
  obtain rfl : dd = none := hod
  obtain rfl : dt = .seq its.toArray n := hdt
  have hl1 : vs.length = kvs.length := Paired.length pr
  have hl2 := rv.length
  -- the values within the pairs
  have pairs : ∀ (i : Nat) p, kvs[i]? = some p → ∃ a x y, its.toArray[i]? = some (.ref a) ∧ IsTup s.heap a #[x, y] ∧ RelV (.str p.1) x ∧ RelV p.2 y := by
    intro i p hp
    have hi : i < vs.length := by rw [hl1]; exact (List.getElem?_eq_some_iff.mp hp).1
    obtain ⟨p', hp', a, ey, ha⟩ := pair_at pr (show vs[i]? = some vs[i] from List.getElem?_eq_getElem hi)
    rw [hp] at hp'; cases hp'
    obtain ⟨u, hu, ru⟩ := rv.get (show vs[i]? = some (V.ref a) by rw [List.getElem?_eq_getElem hi, ey])
    cases ru
    obtain ⟨i2, r2, t2, _⟩ := I.tuple (SqT.of ha)
    obtain ⟨x, y, rfl, rx, ry⟩ := r2.two
    exact ⟨a, x, y, by simpa using hu, t2, rx, ry⟩
  have ch : ∀ i : Fin kvs.length, ∃ y, ∃ a x, its.toArray[i.1]? = some (.ref a) ∧ IsTup s.heap a #[x, y] ∧ RelV (.str kvs[i].1) x ∧ RelV kvs[i].2 y := fun i => by
    obtain ⟨a, x, y, h1, h2, h3, h4⟩ := pairs i.1 kvs[i] (List.getElem?_eq_getElem i.2)
    exact ⟨y, a, x, h1, h2, h3, h4⟩
  obtain ⟨ys, hyl, hys⟩ : ∃ ys : List Value, ys.length = kvs.length ∧ ∀ (i : Nat) (hi : i < kvs.length), ∃ y, ys[i]? = some y ∧ ∃ a x, its.toArray[i]? = some (.ref a) ∧ IsTup s.heap a #[x, y] ∧ RelV (.str kvs[i].1) x ∧ RelV kvs[i].2 y :=
    ⟨List.ofFn fun i => Classical.choose (ch i), List.length_ofFn, fun i hi => ⟨Classical.choose (ch ⟨i, hi⟩), by simp [List.getElem?_ofFn, hi], Classical.choose_spec (ch ⟨i, hi⟩)⟩⟩
  have kps : ((kvs.map fun p => (Sum.inr p.1 : Key)).zip ys).map (·.1) = kvs.map fun p => (Sum.inr p.1 : Key) := by
    rw [List.map_fst_zip]; rw [List.length_map]; omega
  have lps : ((kvs.map fun p => (Sum.inr p.1 : Key)).zip ys).length = kvs.length := by rw [List.length_zip, List.length_map]; omega
  have inj : (kvs.map fun p => (Sum.inr p.1 : Key)).Nodup := by
    have : (kvs.map fun p => (Sum.inr p.1 : Key)) = (kvs.map (·.1)).map Sum.inr := by rw [List.map_map]; rfl
    rw [this, List.nodup_iff_pairwise_ne, List.pairwise_map]
    exact (List.nodup_iff_pairwise_ne.mp nd).imp fun h z => h (Sum.inr.inj z)
  refine call_dict_tup (I.ok.hd hc) ((kvs.map fun p => (Sum.inr p.1 : Key)).zip ys) (by rw [kps]; exact inj) (by rw [lps]; omega) (by rw [List.size_toArray, lps]; omega) ho (fun i p hp => ?_) fun d h' tk dl dd kp => ?_
  · obtain ⟨h1, h2⟩ := List.getElem?_zip_eq_some.mp hp
    rw [List.getElem?_map] at h1
    obtain ⟨kv, hk, ek⟩ := Option.map_eq_some_iff.mp h1
    obtain ⟨hi, rfl⟩ := List.getElem?_eq_some_iff.mp hk
    obtain ⟨y, hy, a, x, g1, g2, g3, g4⟩ := hys i hi
    rw [hy] at h2
    cases h2
    exact ⟨a, x, g1, g2, by rw [← ek]; exact kV_is (k := Sum.inr kvs[i].1) g3⟩
  · have big := I.big
    refine ⟨.ref d, _, I.laid (a := d) (o := .dK (pairKV kvs)) (t' := tk) kp dl (dk_new (by unfold pairKV; rw [List.length_map]; omega) (beq_eq_false_iff_ne.mpr (Ne.symm (Nat.ne_of_lt (Nat.lt_of_lt_of_le big dl)))) ?_ dd), rfl, q d (I.hok.fresh dl)⟩
    exact pair_kv kvs ys hyl fun i hi => by
      obtain ⟨y, hy, a, x, _, _, _, g4⟩ := hys i hi
      exact ⟨y, hy, g4⟩
end
end L2
namespace L2
open PySem PySem.W PySem.Calls PyProof.Rows
/-! ### a sort of pairs: what comes out is the same pairs in some order -/
section
variable {α β : Type} {n : Nat}
def Good (n : Nat) (φ : α → Prop) : KasT α → Prop
  | .ret a => φ a
  | .ask i j k => i < n ∧ j < n ∧ ∀ b, Good n φ (k b)
theorem Good.bind {φ : α → Prop} {ψ : β → Prop} {f : α → KasT β} (g : ∀ a, φ a → Good n ψ (f a)) : ∀ {t : KasT α}, Good n φ t → Good n ψ (t.bind f)
  | .ret a, h => g a h
  | .ask _ _ _, h => ⟨h.1, h.2.1, fun b => Good.bind g (h.2.2 b)⟩
theorem Good.wp {φ : α → Prop} {cmp : Nat → Nat → (Bool → Shared → Prop) → Shared → Prop} {Q : α → Shared → Prop} {s : Shared} (hc : ∀ i j C, i < n → j < n → (∀ b, C b s) → cmp i j C s) : ∀ {t : KasT α}, Good n φ t → (∀ a, φ a → Q a s) → t.kasWp cmp Q s
  | .ret a, h, q => q a h
  | .ask _ _ _, h, q => hc _ _ _ h.1 h.2.1 fun b => Good.wp hc (h.2.2 b) q
def Pm (n : Nat) (p : Array Nat) : Prop := p.toList.Perm (List.range n)
theorem Pm.lt {p : Array Nat} (h : Pm n p) (hn : 0 < n) (i : Nat) : p.getD i 0 < n := by
  rw [Array.getD_eq_getD_getElem?]
  cases e : p[i]? with
  | none => exact hn
  | some x =>
    have : x ∈ p.toList := Array.mem_def.mp (Array.mem_of_getElem? e)
    exact List.mem_range.mp (h.mem_iff.mp this)
theorem Pm.rev {p : Array Nat} (h : Pm n p) (i j : Nat) : Pm n (kas_rev p i j) := (Array.perm_iff_toList_perm.mp (mirror_perm p i j _)).trans h
theorem Pm.bub {p : Array Nat} (h : Pm n p) (i j : Nat) : Pm n (bubble p i j) := (Array.perm_iff_toList_perm.mp (bubble_perm p i j)).trans h
theorem pm_map {γ : Type} {p : Array Nat} {vs : List γ} (d : γ) (h : Pm vs.length p) : (p.toList.map fun i => vs.getD i d).Perm vs := by
  have h1 := List.Perm.map (fun i => vs.getD i d) h
  refine h1.trans (List.Perm.of_eq ?_)
  apply List.ext_getElem
  · simp
  · intro i h1 h2
    simp [List.getD, h2]
end
theorem paired_perm {α β : Type} {F : α → β → Prop} {l l' : List α} (h : l'.Perm l) : ∀ {m : List β}, Paired F l m → ∃ m', m'.Perm m ∧ Paired F l' m' := by
  induction h with
  | nil => intro m p; exact ⟨m, .refl _, p⟩
  | cons x _ ih =>
    intro m p
    cases p with
    | cons q t =>
      obtain ⟨m', e, r⟩ := ih t
      exact ⟨_ :: m', e.cons _, .cons q r⟩
  | swap x y l =>
    intro m p
    cases p with
    | cons q t =>
      cases t with
      | cons q2 t => exact ⟨_, List.Perm.swap _ _ _, .cons q2 (.cons q t)⟩
  | trans _ _ ih1 ih2 =>
    intro m p
    obtain ⟨m2, e2, p2⟩ := ih2 p
    obtain ⟨m1, e1, p1⟩ := ih1 p2
    exact ⟨m1, e1.trans e2, p1⟩
theorem eqBool_ref {prog : Program} {w : World} {A : Around} {E : Value → Shared → Prop} {s : Shared} {a : Addr} {Q : Bool → Shared → Prop} (h : Q true s) : wpAny (model prog w) A (eqBool (.ref a) (.ref a)) Q E s := by
  unfold eqBool
  refine wpAny_holding ?_
  have : ((Value.ref a) == (Value.ref a)) = true := by simp
  rw [if_pos this]
  exact wpAny_bind (wpAny_rule (wpAny_pure h))
section
variable {X : Cx}
theorem obj_is {P : Program} {w : World} {H : Hp} {h : Heap} {a : Addr} {o : HO} (x : ObjOk P w H h a o) : ∃ q, h.get? a = some q := by
  cases o with
  | lst xs => obtain ⟨_, _, _, _, e⟩ := x; exact ⟨_, e⟩
  | tup xs => obtain ⟨_, _, _, q, e, _⟩ := x; exact ⟨q, e⟩
  | dK kvs => obtain ⟨_, _, _, _, o, _, _, e, _⟩ := x; exact ⟨o, e⟩
  | dT kvs => obtain ⟨_, _, _, _, o, _, _, e, _⟩ := x; exact ⟨o, e⟩
  | set S n => obtain ⟨o, _, _, _, e, _⟩ := x; exact ⟨o, e⟩
  | ins C dx fs => obtain ⟨_, _, _, e, _⟩ := x; exact ⟨_, e⟩
  | own y => exact x
  | xd fs => obtain ⟨_, ⟨o, _, _, e, _⟩, _⟩ := x; exact ⟨o, e⟩
  | rng lo hi => obtain ⟨_, _, _, e⟩ := x; exact ⟨_, e⟩
  | frz q u => exact ⟨q, x.1⟩
  | tbl ps => exact ⟨_, x⟩
  | met f y => exact ⟨_, x⟩
  | ext φ => exact x.2.1
/-- what a sort leaves: all kept but the frame's record, a new list -/
theorem Inv.sorted {pins : List (Addr × Obj)} {σ : List (Option V)} {H : Hp} {s : Shared} {h' : Heap} {m : Str → Option Value} {D : Addr} {ys : List V} {out : List Value} {c : Nat} {t' : Nat} (I : Inv X pins σ H s) (hm : s.heap.Ns X.env.locals m) (hm' : h'.Ns X.env.locals m)
    (k : ∀ b o, b ≠ X.env.locals → s.heap.get? b = some o → h'.get? b = some o) (hD : ∀ b o, s.heap.get? b = some o → b ≠ D) (new : h'.get? D = some (listOf out.toArray c)) (r : Vals ys out) (hz : ys.length ≤ sizeLine) :
    H D = none ∧ Inv X pins σ (upd H D (.lst ys)) { s with heap := h', toks := t' } := by
  have there : ∀ b u, H b = some u → ∃ o, s.heap.get? b = some o := fun b u e => obj_is (I.hok b u e)
  have hn : H D = none := by
    cases q : H D with
    | none => rfl
    | some u =>
      obtain ⟨o, e⟩ := there D u q
      exact absurd rfl (hD D o e)
  have neD : ∀ b u, H b = some u → b ≠ D := fun b u e z => by rw [z, hn] at e; cases e
  have neL : ∀ b u, H b = some u → b ≠ X.env.locals := fun b u e z => by rw [z, I.free] at e; cases e
  refine ⟨hn, I.step (g' := s.gens) (d' := s.drawn) (ch := []) (fun _ z => nomatch z) (fun b o hL _ _ e _ => k b o hL e) (fun b o hL _ _ e _ => ⟨o.slots, k b o hL e⟩) (fun b o _ e n => by rw [upd_ne (hD b o e)]; exact n) (fun b o _ e => ?_)
    (fun b xs e => by rw [upd_ne (neD b _ e)]; exact e) (fun b o u e => by rw [upd_ne (neD b _ e)]; exact e) (fun b ps e => ⟨#[], by rw [upd_ne (neD b _ e), e]; simp⟩) (fun m' q => ?_) (fun b u e => ?_) I.bare⟩
  · by_cases hb : b = X.env.locals
    · obtain ⟨o', es, ep, ho, _⟩ := hm'
      exact ⟨o', by rw [hb]; exact ho⟩
    · exact ⟨o, k b o hb e⟩
  · obtain ⟨o, es, ep, ho, hd, hs, hf⟩ := hm
    obtain ⟨o2, es2, ep2, ho2, hd2, hs2, hf2⟩ := q
    rw [ho] at ho2; cases ho2
    rw [hd] at hd2; cases hd2
    have : m' = m := funext fun x => (hf2 x).symm.trans (hf x)
    rw [this]; exact hm'
  · by_cases hb : b = D
    · subst hb
      rw [upd_same] at e; cases e
      exact ⟨hz, out, c, r, new⟩
    · rw [upd_ne hb] at e
      refine (I.hok b u e).stay (fun a v hc q => k a v ?_ q) (fun a q => by rw [upd_ne (neD a _ q)]; exact q) fun a xs q => by rw [upd_ne (neD a _ q)]; exact q
      rcases hc with z | z
      · rw [z]; exact neL b u e
      · exact neL a _ z

/-- list.sort where there is nothing to sort: the list is emptied, and written back -/
theorem sort_idle {P : Program} {w : World} {B : Around} {E : Value → Shared → Prop} {s : Shared} {a : Addr} {us : List Value} {n : Nat} {R : PySem.Fin → Shared → Prop} (at_ : s.heap.get? a = some (seqObj "list" us.toArray n)) (few : us.length < 2)
    (k : ∀ c g, (∀ b o, b ≠ a → s.heap.get? b = some o → g.get? b = some o) → g.get? a = some (listOf us.toArray c) → R (.done (.ret .none)) { s with heap := g }) : wpAny (model P w) B (Builtin.«list.sort» ⟨[.ref a], []⟩) R E s := by
  obtain ⟨ep, gone⟩ : ∃ ep, (s.heap.update a (Obj.mapSeq fun _ => (#[] : Array Value))).get? a = some (seqObj "list" #[] ep) := ⟨_, get?_update_seq at_ fun _ => #[]⟩
  have fits : us.toArray.size ≤ sizeLine := by rw [sizeLine_eq, List.size_toArray]; omega
  have small : us.toArray.size < 2 := by simpa using few
  rw [list_sort_plain]
  refine wpAny_bind (listItems_at at_ rfl (wpAny_bind (listUpdate_at at_ rfl (wpAny_bind (seqEpoch_at gone rfl (wpAny_bind (wpAny_newTuple (wpAny_bind (wpAny_newList (wpAny_holding ?_) (Nat.zero_le _))) (by simpa using fits))))) fits (Nat.zero_le _))))
  have two : ∀ b o, (s.heap.update a (Obj.mapSeq fun _ => (#[] : Array Value))).get? b = some o → (((s.heap.update a (Obj.mapSeq fun _ => (#[] : Array Value))).push (seqObj "tuple" us.toArray 0)).push (seqObj "list" #[] 0)).get? b = some o := fun b o q => Heap.get?_push_of_some _ (Heap.get?_push_of_some _ q)
  change wpAny (model P w) B _ R E { s with heap := ((s.heap.update a (Obj.mapSeq fun _ => (#[] : Array Value))).push (seqObj "tuple" us.toArray 0)).push (seqObj "list" #[] 0) }
  have still := two _ _ gone
  have others : ∀ b o, b ≠ a → s.heap.get? b = some o → (((s.heap.update a (Obj.mapSeq fun _ => (#[] : Array Value))).push (seqObj "tuple" us.toArray 0)).push (seqObj "list" #[] 0)).get? b = some o := fun b o nb q => two b o (((Heap.SameBut.update s.heap a _).2 b nb).trans q)
  generalize (((s.heap.update a (Obj.mapSeq fun _ => (#[] : Array Value))).push (seqObj "tuple" us.toArray 0)).push (seqObj "list" #[] 0)) = g at still others ⊢
  dsimp only
  rw [if_pos small, if_pos small]
  refine wpAny_bind (wpAny_pure (wpAny_bind (wpAny_pure ?_)))
  have same : (arrOf (SortSt.mk' general' (us.toArray.zip us.toArray) #[] 7 none)).map (·.2) = us.toArray := Array.toList_inj.mp (by show ((us.toArray.zip us.toArray).map (·.2)).toList = _; simp [List.map_snd_zip])
  dsimp only
  rw [same]
  refine wpAny_bind (seqEpoch_at still rfl (wpAny_bind (listUpdate_at still rfl ?_ (Nat.zero_le _) (Nat.le_succ_of_le fits))))
  obtain ⟨c, back⟩ : ∃ c, (g.update a (Obj.mapSeq fun _ => us.toArray)).get? a = some (seqObj "list" us.toArray c) := ⟨_, get?_update_seq still fun _ => us.toArray⟩
  simp only [bne_self_eq_false, if_false, Bool.false_eq_true]
  exact wpAny_pure (k c _ (fun b o nb q => ((Heap.SameBut.update g a _).2 b nb).trans (others b o nb q)) back)
/-- sorted of a list of at most one item -/
theorem sorted_short {P : Program} {w : World} {B : Around} {E : Value → Shared → Prop} {s : Shared} {l : Addr} {us : List Value} {R : Value → Shared → Prop} (at_ : s.heap.IsList l us.toArray) (few : us.length < 2)
    (k : ∀ D c g, (∀ b o, s.heap.get? b = some o → g.get? b = some o) → (∀ b o, s.heap.get? b = some o → b ≠ D) → g.get? D = some (listOf us.toArray c) → R (.ref D) { s with heap := g }) : wpAny (model P w) B (call (.builtin "sorted") [.ref l]) R E s := by
  have fits : us.length ≤ sizeLine := by rw [sizeLine_eq]; omega
  refine Calls.call_function_entry kind_sorted plain_sorted entry_sorted (args_sorted1 _) (wpAny_bind (m := checkCount "sorted" 1 1 _) (wpAny_pure (wpAny_bind (collect_list at_ (wpAny_bind (wpAny_newList ?_ fits)) (by simpa using fits)))))
  have size : ((s.heap.push (seqObj "list" #[] 0)).update s.heap.objs.size (Obj.mapSeq fun x => x ++ us.toArray)).objs.size = s.heap.objs.size + 1 := (Heap.size_update ..).trans (size_push' ..)
  have stay : ∀ b o, s.heap.get? b = some o → b ≠ s.heap.objs.size + 1 ∧ ((s.heap.push (seqObj "list" #[] 0)).update s.heap.objs.size (Obj.mapSeq fun x => x ++ us.toArray)).get? b = some o := fun b o q =>
    have lt : b < s.heap.objs.size := Heap.lt_size q
    ⟨Nat.ne_of_lt (Nat.lt_succ_of_lt lt), (Heap.get?_update_ne _ _ _ _ (Nat.ne_of_lt lt)).trans ((Heap.get?_push_ne _ _ _ (Nat.ne_of_lt lt)).trans q)⟩
  change wpAny (model P w) _ _ _ E { s with heap := ((s.heap.push (seqObj "list" #[] 0)).update s.heap.objs.size (Obj.mapSeq fun x => x ++ us.toArray)).push (seqObj "list" us.toArray 0) }
  have here : (((s.heap.push (seqObj "list" #[] 0)).update s.heap.objs.size (Obj.mapSeq fun x => x ++ us.toArray)).push (seqObj "list" us.toArray 0)).get? (s.heap.objs.size + 1) = some (seqObj "list" us.toArray 0) := size ▸ Heap.get?_push_size _ rfl
  rw [size]
  generalize (s.heap.push (seqObj "list" #[] 0)).update s.heap.objs.size (Obj.mapSeq fun x => x ++ us.toArray) = g at here stay ⊢
  refine wpAny_bind (wpAny_holding (wpAny_call_entry slot_list_sort ⟨_, here, rfl⟩ entry_list_sort (sort_idle (s := { s with heap := g.push (seqObj "list" us.toArray 0) }) here few fun c g2 kp new => ?_) (args_list_sort _)))
  exact ⟨_, rfl, wpAny_pure ⟨_, rfl, k _ c g2 (fun b o q => kp b o (stay b o q).1 (Heap.get?_push_of_some _ (stay b o q).2)) (fun b o q => (stay b o q).1) new⟩⟩
theorem tups_of {h : Heap} : ∀ {vs : List Value}, (∀ v ∈ vs, ∃ a k t z, v = .ref a ∧ IsTup h a #[.str k t, .ref z]) → ∃ fs, fs.length = vs.length ∧ KatTups h vs fs ∧ ∀ f ∈ fs, ∃ k t, f = Value.str k t
  | [], _ => ⟨[], rfl, .nil, by simp⟩
  | v :: vs, g => by
    obtain ⟨fs, h1, h2, h3⟩ := tups_of (vs := vs) fun x hx => g x (List.mem_cons_of_mem _ hx)
    obtain ⟨a, k, t, z, rfl, o, ho, hc, n, hd⟩ := g v List.mem_cons_self
    refine ⟨.str k t :: fs, by rw [List.length_cons, List.length_cons, h1], .cons ho hc hd rfl h2, fun f hf => ?_⟩
    rcases List.mem_cons.mp hf with rfl | hf
    · exact ⟨k, t, rfl⟩
    · exact h3 f hf
theorem vals_maps {γ : Type} {f : γ → V} {g : γ → Value} (h : ∀ x, RelV (f x) (g x)) : ∀ l : List γ, Vals (l.map f) (l.map g)
  | [] => .nil
  | x :: l => .cons (h x) (vals_maps h l)
end
end L2
namespace L2
open PySem PySem.W PySem.Spec PyProof.Rows
/-! ### for over a dict: it is frozen while it is walked -/
def Itd (d : Addr) (o : Obj) (kvs : List (Key × V)) : It := ⟨fun i H => H d = some (.frz o (.dK kvs)) ∧ i < kvs.length, fun i H v H' => H' = H ∧ ∃ kv, kvs[i]? = some kv ∧ v = kV kv.1, fun i H => H d = some (.frz o (.dK kvs)) ∧ kvs.length ≤ i⟩
theorem turn_dict {P : Program} {w : World} {K : Frag} {tg : Expr} (d it : Addr) (hne : d ≠ it) (o : Obj) (kvs : List (Key × V)) (vs : List (Key × Value)) (ep : Nat) (rk : KV kvs vs) (hD : ∀ h : Heap, h.get? d = some o → h.DictAt (mixKind P w) d vs ep) :
    Turn P w K tg (Itd d o kvs) [it] it (fun i h => i ≤ kvs.length ∧ h.IsKeyIter it d i vs.length ep) where
  mem := by simp
  obj := fun i h st b hb => by
    obtain rfl : b = it := by simpa using hb
    obtain ⟨_, o, e, c, d⟩ := st
    exact ⟨o, e, fun v z => by rw [d] at z; cases z⟩
  keep := fun i h h' st k => by
    obtain ⟨l, o, e, r⟩ := st
    exact ⟨l, o, k it (by simp) _ e, r⟩
  item := by
    intro X hP hw hK hc i pins s σ H E I hf st hg
    subst hP hw hK
    obtain ⟨f0, f1, f2, f3, f4, f5⟩ := hf it (by simp)
    have hl : kvs.length = vs.length := rk.length
    have hd := hD s.heap (show ObjOk X.prog X.w H s.heap d (.frz o (.dK kvs)) from I.hok d _ hg.1).1
    refine (Walks.dictKeys (knd := mixKind X.prog X.w) (I.ok.hd hc) it d hne vs ep).item i s _ _ (by have := hg.2; omega) ⟨st.2, hd⟩ fun v h' tk hv st' kk => ?_
    obtain ⟨k, x, hx, hk⟩ := hv
    have I1 : Inv X pins σ H { s with heap := h', toks := tk } := I.turned (fun b o hb e => kk b o (by simpa using hb) e) f0 f1 f3 f4 f5
    obtain ⟨ob, e, cl, dt⟩ := id st'.1
    have hil : i < kvs.length := hg.2
    have hki : kvs[i]? = some kvs[i] := List.getElem?_eq_getElem hil
    have ek : kvs[i].1 = k := by
      have h1 := congrArg (fun l => l[i]?) rk.keys
      simp only [List.getElem?_map, hki, hx] at h1
      exact Option.some.inj h1
    exact ⟨_, rfl, go_of (s := { s with heap := h', toks := tk }) e cl dt (by decide) ⟨kV k, H, I1, key_rel hk, ⟨rfl, kvs[i], hki, by rw [ek]⟩, ⟨hg.2, st'.1⟩, fun b hb => (hf b hb).1⟩⟩
  done := by
    intro X hP hw hK hc i pins s σ H E I hf st hg
    subst hP hw hK
    obtain ⟨f0, f1, f2, f3, f4, f5⟩ := hf it (by simp)
    have ei : i = kvs.length := Nat.le_antisymm st.1 hg.2
    have hl : kvs.length = vs.length := rk.length
    have hd := hD s.heap (show ObjOk X.prog X.w H s.heap d (.frz o (.dK kvs)) from I.hok d _ hg.1).1
    have st2 := st.2
    rw [ei, hl] at st2
    exact (Walks.dictKeys (knd := mixKind X.prog X.w) (I.ok.hd hc) it d hne vs ep).done s _ _ ⟨st2, hd⟩ fun h' tk kk => ⟨rfl, I.turned (fun b o hb e => kk b o (by simpa using hb) e) f0 f1 f3 f4 f5⟩
  self := fun A i s Q E st h => wpAny_pyIter_keyiter st.2 h
section
variable {X : Cx} {tg : Expr}
/-- a tracked dict, held to its very object -/
theorem Inv.freeze {pins : List (Addr × Obj)} {σ : List (Option V)} {H : Hp} {s : Shared} {d : Addr} {kvs : List (Key × V)} {o : Obj} (I : Inv X pins σ H s) (hd : H d = some (.dK kvs)) (ho : s.heap.get? d = some o) : Inv X pins σ (upd H d (.frz o (.dK kvs))) s := by
  have ok : ObjOk X.prog X.w H s.heap d (.dK kvs) := I.hok d _ hd
  have nd : ∀ {b : Addr} {u : HO}, H b = some u → u ≠ .dK kvs → b ≠ d := fun e n z => by rw [z, hd] at e; exact n (Option.some.inj e).symm
  refine I.un (h' := s.heap) (t' := s.toks) ⟨fun b ob q _ _ _ => q, fun b ob q _ _ _ => ⟨ob.slots, q⟩, fun b ob q n _ => ?_, fun b ob q _ => ⟨ob, q⟩, fun b xs e => ?_, fun b ob u e => ?_, fun b ps e => ⟨#[], ?_⟩⟩ fun b u e => ?_
  · rw [upd_ne (fun z => by rw [z, hd] at n; cases n)]; exact n
  · rw [upd_ne (nd e (by intro z; cases z))]; exact e
  · rw [upd_ne (nd e (by intro z; cases z))]; exact e
  · rw [upd_ne (nd e (by intro z; cases z)), e]; simp
  · by_cases hb : b = d
    · subst hb
      rw [upd_same] at e
      cases e
      exact ⟨ho, ok.stay (fun _ _ _ q => q) (fun c q => by rw [upd_ne (nd q (by intro z; cases z))]; exact q) fun c xs q => by rw [upd_ne (nd q (by intro z; cases z))]; exact q⟩
    · rw [upd_ne hb] at e
      exact (I.hok b u e).stay (fun _ _ _ q => q) (fun c q => by rw [upd_ne (nd q (by intro z; cases z))]; exact q) fun c xs q => by rw [upd_ne (nd q (by intro z; cases z))]; exact q
def iDict (te : TE) : TI := fun σ H R => te σ H fun v H1 => ∃ d kvs, v = .ref d ∧ ((H1 d = some (.dK kvs) ∧ ∀ o, R (Itd d o kvs) (upd H1 d (.frz o (.dK kvs)))) ∨ ∃ o, H1 d = some (.frz o (.dK kvs)) ∧ R (Itd d o kvs) H1)
theorem pi_dict {e : Expr} {te : TE} (he : PE X e te) : PI X tg e (iDict te) := by
  intro pins s σ H R I h
  refine thn (he pins s σ H _ I h) fun v s1 ⟨y, H1, I1, r1, d, kvs, ey, q⟩ => ?_
  subst ey
  cases r1
  have rd : Rd H1 d (.dK kvs) := by
    rcases q with ⟨e, _⟩ | ⟨o, e, _⟩
    · exact .inl e
    · exact .inr ⟨o, e⟩
  obtain ⟨hz, hs, vs, rk, hdo⟩ := dk_rd I1.hok rd
  obtain ⟨o, es, ep, ho, hx, hdt, hk, hp, hn⟩ := id hdo
  refine wpAny_pyIter_dict (knd := mixKind X.prog X.w) (kvs := vs) (ep := ep) hs ⟨o, es, ho, hx, hdt, hk, hp, hn⟩ ?_
  have hne : d ≠ s1.heap.objs.size := Nat.ne_of_lt (Heap.lt_size ho)
  have hD : ∀ h : Heap, h.get? d = some o → h.DictAt (mixKind X.prog X.w) d vs ep := fun h e => ⟨o, es, e, hx, hdt, hk, hp, hn⟩
  have I2 : Inv X pins σ H1 { s1 with heap := s1.heap.push { cls := .type "dict_keyiterator", data := .fields #[.ref d, .int 0 0, .int vs.length 0, .int ep 0] } } := I1.kept (t' := s1.toks) fun b ob z => Heap.get?_push_of_some _ z
  have st : 0 ≤ kvs.length ∧ Heap.IsKeyIter (s1.heap.push { cls := .type "dict_keyiterator", data := .fields #[.ref d, .int 0 0, .int vs.length 0, .int ep 0] }) s1.heap.objs.size d 0 vs.length ep := ⟨Nat.zero_le _, _, Heap.get?_push_size _ rfl, rfl, rfl⟩
  have hfr : H1 s1.heap.objs.size = none := I1.hok.fresh (Nat.le_refl _)
  rcases q with ⟨e, q⟩ | ⟨o', e, q⟩
  · refine ⟨s1.heap.objs.size, [s1.heap.objs.size], _, _, _, rfl, I2.freeze e (Heap.get?_push_of_some _ ho), turn_dict d s1.heap.objs.size hne o kvs vs ep rk hD, st, fun b hb => ?_, q o⟩
    obtain rfl : b = s1.heap.objs.size := by simpa using hb
    exact I1.fpOk (Nat.le_refl _) (by rw [upd_ne (Ne.symm hne)]; exact hfr)
  · obtain rfl : o' = o := by
      have := (show ObjOk X.prog X.w H1 s1.heap d (.frz o' (.dK kvs)) from I1.hok d _ e).1
      rw [ho] at this; exact (Option.some.inj this).symm
    refine ⟨s1.heap.objs.size, [s1.heap.objs.size], _, _, H1, rfl, I2, turn_dict d s1.heap.objs.size hne o' kvs vs ep rk hD, st, fun b hb => ?_, q⟩
    obtain rfl : b = s1.heap.objs.size := by simpa using hb
    exact I1.fpOk (Nat.le_refl _) hfr
def rIndexB : V → List V → Hp → VK → Prop := fun x vs H Q => ∃ (l : Addr) (ys : List Bool) (y : Bool) (j : Nat), x = .ref l ∧ vs = [.bl y] ∧ H l = some (.lst (ys.map V.bl)) ∧ ys[j]? = some y ∧ (∀ m, m < j → ys[m]? ≠ some y) ∧ Q (.int j) H
end
end L2
namespace L2
open PySem PySem.W PySem.Spec PyProof.Rows
/-! ### sorted of texts -/
def leS (a b : Str) : Prop := a.cps.toList ≤ b.cps.toList
theorem leS_anti {a b : Str} (h1 : leS a b) (h2 : leS b a) : a = b := by
  have e : a.cps.toList = b.cps.toList := List.le_antisymm h1 h2
  cases a; cases b
  exact congrArg Str.mk (Array.toList_inj.mp e)
section
variable {X : Cx}
end
/-! ### a comprehension over a dict -/
theorem comp_dict {d : Addr} {o : Obj} {kvs : List (Key × V)} {g : TG} {ti : TT} {te : TE} {τ0 : St} {Q : VK} {p : Addr} {H1 : Hp} (Pv : Nat → List V → St → Hp → Prop) (h0 : Pv 0 [] τ0 (upd H1 p (.lst []))) (hl : ∀ i ys τ H, Pv i ys τ H → H p = some (.lst ys) ∧ H d = some (.frz o (.dK kvs)))
    (hs : ∀ i kv ys τ H, kvs[i]? = some kv → Pv i ys τ H → g (kV kv.1) τ H fun τ4 H4 => ti τ4 H4 fun b H5 => if b = true then te τ4 H5 fun y H6 => H6 p = some (.lst ys) ∧ ys.length < sizeLine ∧ ∃ m', m' < kvs.length - i ∧ CW Pv kvs.length (i + 1) m' (ys ++ [y]) τ4 (upd H6 p (.lst (ys ++ [y]))) else ∃ m', m' < kvs.length - i ∧ CW Pv kvs.length (i + 1) m' ys τ4 H5)
    (hd : ∀ ys τ H, Pv kvs.length ys τ H → Q (.ref p) H) : CompW (Itd d o kvs) g ti te τ0 Q p H1 := by
  refine ⟨CW Pv kvs.length, ⟨kvs.length, by simp, Nat.zero_le _, h0⟩, ?_⟩
  rintro i m ys τ H ⟨rfl, hi, pv⟩
  obtain ⟨hp, hq⟩ := hl i ys τ H pv
  refine ⟨hp, ?_⟩
  by_cases hlt : i < kvs.length
  · refine .inr ⟨⟨hq, hlt⟩, fun x H3 y3 => ?_⟩
    obtain ⟨e3, kv, hkv, ex⟩ := y3
    subst e3
    subst ex
    exact hs i kv ys τ _ hkv pv
  · have e : i = kvs.length := by omega
    subst e
    exact .inl ⟨⟨hq, Nat.le_refl _⟩, hd ys τ H pv⟩
end L2
/-! ### sets of texts: what is kept of them, one more -/
namespace HS
open PySem PySem.Spec PyProof.Rows
theorem lay_led (t : SetTable) (es : Array (Int × Value)) (z : Int) (x : Value) : (layNew t es z x).2.1.led = t.led := by
  unfold layNew
  split
  · dsimp only
    unfold SetTable.orStandIn
    split <;> rfl
  · rfl
theorem laid_keeps {t u : SetTable} {zs : Array Int} {n : Nat} {ord : Array Nat} (e : t.relaid zs n = some (u, ord)) : u.led = t.led ∧ u.plain = t.plain := by
  unfold SetTable.relaid SetTable.laid at e
  cases c : SetTable.layClean (SetTable.sizeAbove n - 1) zs with
  | none => rw [c] at e; cases e
  | some ow =>
    rw [c] at e
    have e2 := Option.some.inj e
    have e3 := congrArg Prod.fst e2
    dsimp only at e3
    rw [← e3]
    exact ⟨rfl, rfl⟩
theorem relay_keeps (t : SetTable) (es : Array (Int × Value)) (n : Nat) : (relayAll t es n).2.1.led = t.led ∧ (t.plain = false → (relayAll t es n).2.1.plain = false) := by
  unfold relayAll
  split
  · rename_i u ord e
    obtain ⟨h1, h2⟩ := laid_keeps e
    dsimp only
    split
    · exact ⟨h1, fun z => h2.trans z⟩
    · exact ⟨rfl, fun _ => rfl⟩
  · exact ⟨rfl, fun _ => rfl⟩
/-- the set at a has just these texts, unlike ones -/
def SetX (P : Program) (w : World) (h : Heap) (a : Addr) (xs : List Str) : Prop :=
  ∃ o es ep t, h.get? a = some o ∧ o.ExactSet ∧ o.data = .set es ep t ∧ ElemsOf (strKind P w) es.toList ∧ (∀ k, k ∈ xs ↔ ∃ e ∈ es.toList, (strKind P w).is k e.2 = true) ∧
    es.size < scanBound ∧ t.fits es.size = true ∧ es.size = xs.length ∧ t.led = (!w.params.followText "set-order") ∧ (es.size ≠ 0 → t.plain = false)
theorem SetX.keep {P : Program} {w : World} {h h' : Heap} {a : Addr} {xs : List Str} (x : SetX P w h a xs) (k : ∀ o, h.get? a = some o → h'.get? a = some o) : SetX P w h' a xs := let ⟨o, es, ep, t, e, r⟩ := x; ⟨o, es, ep, t, k o e, r⟩
theorem SetX.lt {P : Program} {w : World} {h : Heap} {a : Addr} {xs : List Str} (x : SetX P w h a xs) : a < h.objs.size := let ⟨_, _, _, _, e, _⟩ := x; Heap.lt_size e
theorem SetX.typeIs {P : Program} {w : World} {s : Shared} {a : Addr} {xs : List Str} (x : SetX P w s.heap a xs) : s.TypeIs (.ref a) "set" := let ⟨o, _, _, _, e, c, _⟩ := x; ⟨o, e, c.1⟩
theorem setX_new {P : Program} {w : World} {h : Heap} {a : Addr} (e : h.get? a = some { cls := .type "set", dict := none, data := .set #[] 0 (.fresh 0 0 (!w.params.followText "set-order")) }) : SetX P w h a [] :=
  ⟨_, #[], 0, _, e, ⟨rfl, rfl, rfl⟩, rfl, fun z hz => (by simp at hz), fun k => (by simp), by decide, by rfl, rfl, rfl, fun z => absurd rfl z⟩
def addS (xs : List Str) (k : Str) : List Str := if k ∈ xs then xs else xs ++ [k]
section
variable {P : Program} {w : World} {A : Around} {E : Value → Shared → Prop} {s : Shared} {a : Addr} {xs : List Str}
theorem setX_put {h : Heap} {o : Obj} {es es' : Array (Int × Value)} {ep : Nat} {t t' : SetTable} {ys : List Str} (ho : h.get? a = some o) (hx : o.ExactSet) (hd : o.data = .set es ep t) (hel : ElemsOf (strKind P w) es'.toList)
    (hm : ∀ k, k ∈ ys ↔ ∃ e ∈ es'.toList, (strKind P w).is k e.2 = true) (hb : es'.size < scanBound) (hf : t'.fits es'.size = true) (hn : es'.size = ys.length) (hl : t'.led = (!w.params.followText "set-order")) (hp : t'.plain = false) :
    (h.update a (Obj.putSet es' t')).get? a = some { o with data := .set es' (ep + 1) t' } ∧ SetX P w (h.update a (Obj.putSet es' t')) a ys := by
  have hg : (h.update a (Obj.putSet es' t')).get? a = some { o with data := .set es' (ep + 1) t' } := by
    have z := Heap.get?_update_self (Obj.putSet es' t') ho (by rw [putSet_of es' t' hd]; rfl)
    rw [putSet_of es' t' hd] at z; exact z
  exact ⟨hg, _, es', ep + 1, t', hg, hx, rfl, hel, hm, hb, hf, hn, hl, fun _ => hp⟩
/-- one more text -/
theorem setX_add {k : Str} {tk : Tok} {Q : Bool → Shared → Prop} (hS : SetX P w s.heap a xs) (room : xs.length + 1 < scanBound) (h : ∀ h', Heap.SameBut a s.heap h' → SetX P w h' a (addS xs k) → ∀ b, Q b { s with heap := h' }) :
    wpAny (model P w) A (setAddHashed a (.str k tk) (hashStr w k)) Q E s := by
  obtain ⟨o, es, ep, t, ho, hex, hd, hel, hmem, hb, hf, hn, hled, hpl⟩ := hS
  have hkey : (strKind P w).is k (.str k tk) = true := by show Value.isStrOf k (.str k tk) = true; simp [Value.isStrOf]
  have hsc : (Value.str k tk).scannable = true := rfl
  have room1 : es.size + 1 < scanBound := by omega
  unfold setAddHashed setAddHashedIn
  refine wpAny_holding (wpAny_bind (wpAny_setState_of ho hd hf ?_)); dsimp only
  rw [byScan_of (knd := strKind P w) hsc hb hel, if_pos rfl]
  refine wpAny_bind ?_; unfold setAddByScan
  refine wpAny_bind (wpAny_rule (wpAny_bind (wpAny_setScan_of (knd := strKind P w) (k := k) hkey ho hd hf hel ?_)))
  cases hr : List.findIdx? (fun e => (strKind P w).is k e.2) es.toList with
  | some j =>
    obtain ⟨hj, hpj, _⟩ := List.findIdx?_eq_some_iff_getElem.mp hr
    have hk : k ∈ xs := (hmem k).mpr ⟨es.toList[j], List.getElem_mem hj, hpj⟩
    refine wpAny_pure (wpAny_pure ?_)
    have e0 : s = { s with heap := s.heap } := by cases s; rfl
    rw [e0]
    refine h s.heap (Heap.SameBut.refl a s.heap) ?_ _
    unfold addS; rw [if_pos hk]
    exact ⟨o, es, ep, t, ho, hex, hd, hel, hmem, hb, hf, hn, hled, hpl⟩
  | none =>
    dsimp only
    have hk : k ∉ xs := fun z => by
      obtain ⟨e, he, hp⟩ := (hmem k).mp z
      have := List.findIdx?_eq_none_iff.mp hr e he
      rw [hp] at this; cases this
    have gw : ∀ (b : Bool) {s₁ : Shared} {Q' : Unit → Shared → Prop}, Q' () s₁ → wpAny (model P w) A (match b with | true => rule "set.scan.the-table-gave-way" | false => pure ()) Q' E s₁ := fun b s₁ Q' hq => by
      cases b
      · exact wpAny_pure hq
      · exact wpAny_rule hq
    have hperm := layNew_perm t es ((strKind P w).hash k) (.str k tk)
    have hfits := layNew_fits t es ((strKind P w).hash k) (.str k tk)
    have hlay := lay_led t es ((strKind P w).hash k) (.str k tk)
    generalize hL : layNew t es (hashStr w k) (.str k tk) = L
    rw [show (strKind P w).hash k = hashStr w k from rfl, hL] at hperm hfits hlay
    obtain ⟨es1, t1, wd, gave⟩ := L
    dsimp only at hperm hfits hlay ⊢
    rw [Array.toList_push] at hperm
    have hel1 : ElemsOf (strKind P w) es1.toList := (hel.push (k := k) hkey hsc).perm hperm
    have hsz1 : es1.size = es.size + 1 := by rw [← Array.length_toList, hperm.length_eq, List.length_append, Array.length_toList]; rfl
    have hmem1 : ∀ k', k' ∈ addS xs k ↔ ∃ e ∈ es1.toList, (strKind P w).is k' e.2 = true := fun k' => by
      unfold addS; rw [if_neg hk, List.mem_append, List.mem_singleton, hmem k']
      constructor
      · rintro (⟨e, he, hp⟩ | rfl)
        · exact ⟨e, hperm.mem_iff.mpr (List.mem_append_left _ he), hp⟩
        · exact ⟨_, hperm.mem_iff.mpr (List.mem_append_right _ (List.mem_singleton.mpr rfl)), hkey⟩
      · rintro ⟨e, he, hp⟩
        rcases List.mem_append.mp (hperm.mem_iff.mp he) with he | he
        · exact .inl ⟨e, he, hp⟩
        · rw [List.mem_singleton] at he; subst he
          exact .inr ((strKind P w).inj _ k' k hp hkey)
    have hln : es1.size = (addS xs k).length := by unfold addS; rw [if_neg hk, List.length_append, List.length_singleton]; omega
    have hb1 : es1.size < scanBound := by omega
    refine wpAny_bind (gw _ ?_)
    -- the tail, with a table that is plain no more
    have tail : ∀ t2 : SetTable, t2.fits es1.size = true → t2.led = t.led → t2.plain = false → wpAny (model P w) A (do
        storeSet a es1 t2
        if (!wd && t2.tooFull) = true then do
            let r := relayAll t2 es1 (SetTable.grown es1.size)
            (match r.2.2 with | true => rule "set.scan.the-table-gave-way" | false => pure ())
            storeSet a r.1 r.2.1
            pure (some true)
          else pure (some true)) (fun r s' => wpAny (model P w) A (match r with | some added => pure added | none => setAddHashedIn a (.str k tk) (hashStr w k) 99999) Q E s') E s := by
      intro t2 hf2 hl2 hp2
      obtain ⟨ho1, hS1⟩ := setX_put (P := P) (w := w) ho hex hd hel1 hmem1 hb1 hf2 hln (hl2.trans hled) hp2
      have sb1 := Heap.SameBut.update s.heap a (Obj.putSet es1 t2)
      refine wpAny_bind (wpAny_storeSet_of ho hd ?_ (fits_of_scanBound hb1))
      split
      · have q1 := relayAll_perm t2 es1 (SetTable.grown es1.size)
        have q2 := relayAll_fits t2 es1 (SetTable.grown es1.size)
        have q3 := relay_keeps t2 es1 (SetTable.grown es1.size)
        dsimp only
        generalize relayAll t2 es1 (SetTable.grown es1.size) = R at q1 q2 q3 ⊢
        obtain ⟨es2, t3, g2⟩ := R
        dsimp only at q1 q2 q3 ⊢
        have sz2 : es2.size = es1.size := by rw [← Array.length_toList, q1.length_eq, Array.length_toList]
        have hm2 : ∀ k', k' ∈ addS xs k ↔ ∃ e ∈ es2.toList, (strKind P w).is k' e.2 = true := fun k' => (hmem1 k').trans ⟨fun ⟨e, he, q⟩ => ⟨e, q1.mem_iff.mpr he, q⟩, fun ⟨e, he, q⟩ => ⟨e, q1.mem_iff.mp he, q⟩⟩
        obtain ⟨_, hS2⟩ := setX_put (P := P) (w := w) ho1 hex rfl (hel1.perm q1) hm2 (by omega) q2 (by omega) (q3.1.trans (hl2.trans hled)) (q3.2 hp2)
        refine wpAny_bind (gw _ (wpAny_bind (wpAny_storeSet_of ho1 rfl ?_ (fits_of_scanBound (by omega)))))
        exact wpAny_pure (wpAny_pure (h _ (sb1.trans (Heap.SameBut.update _ a _)) hS2 _))
      · exact wpAny_pure (wpAny_pure (h _ sb1 hS1 _))
    by_cases hp1 : t1.plain = true
    · rw [if_pos hp1]
      refine wpAny_bind ?_
      rw [hashByValue_scannable 8 hsc]
      refine wpAny_pure ?_
      show wpAny (model P w) A (do
        storeSet a es1 { t1 with plain := false }
        _) _ E s
      exact tail { t1 with plain := false } (SetTable.fits_plain_off hfits) hlay rfl
    · rw [if_neg hp1]
      refine wpAny_bind (wpAny_pure ?_)
      show wpAny (model P w) A (do
        storeSet a es1 t1
        _) _ E s
      exact tail t1 hfits hlay (by simpa using hp1)
end
end HS
/-! ### set(texts) -/
namespace HS
open PySem PySem.Spec PyProof.Rows
def metS (val : Nat → Str) (i : Nat) : List Str := ((List.range i).map val).foldl addS []
theorem metS_succ (val : Nat → Str) (i : Nat) : metS val (i + 1) = addS (metS val i) (val i) := by
  unfold metS; rw [List.range_succ, List.map_append, List.foldl_append]; rfl
theorem addS_len (xs : List Str) (k : Str) : (addS xs k).length ≤ xs.length + 1 := by
  unfold addS
  split
  · omega
  · rw [List.length_append, List.length_singleton]; omega
theorem addS_nd {xs : List Str} (h : xs.Nodup) (k : Str) : (addS xs k).Nodup := by
  unfold addS
  split
  · exact h
  · rename_i hn
    rw [List.nodup_append]
    exact ⟨h, by simp, fun a ha b hb e => hn (by rw [← (List.mem_singleton.mp hb), ← e]; exact ha)⟩
theorem addS_mem {xs : List Str} {k y : Str} : y ∈ addS xs k ↔ y ∈ xs ∨ y = k := by
  unfold addS
  split
  · rename_i h
    exact ⟨.inl, fun z => z.elim id fun e => e ▸ h⟩
  · rw [List.mem_append, List.mem_singleton]
theorem metS_len (val : Nat → Str) : ∀ i, (metS val i).length ≤ i
  | 0 => Nat.le_refl _
  | i + 1 => by rw [metS_succ]; have := addS_len (metS val i) (val i); have := metS_len val i; omega
theorem metS_nd (val : Nat → Str) : ∀ i, (metS val i).Nodup
  | 0 => List.nodup_nil
  | i + 1 => by rw [metS_succ]; exact addS_nd (metS_nd val i) _
theorem metS_mem (val : Nat → Str) (y : Str) : ∀ i, y ∈ metS val i ↔ ∃ j, j < i ∧ val j = y
  | 0 => ⟨fun h => (by cases h), fun ⟨_, h, _⟩ => absurd h (Nat.not_lt_zero _)⟩
  | i + 1 => by
    rw [metS_succ, addS_mem, metS_mem val y i]
    constructor
    · rintro (⟨j, h, e⟩ | e)
      · exact ⟨j, by omega, e⟩
      · exact ⟨i, by omega, e.symm⟩
    · rintro ⟨j, h, e⟩
      by_cases c : j = i
      · exact .inr (by rw [← e, c])
      · exact .inl ⟨j, by omega, e⟩
section
variable {P : Program} {w : World} {A : Around} {R : Result → Shared → Prop} {I : Addr} {fp wr : List Addr} {G : Array GenState → Array GenState → Prop} {n : Nat} {Pv : Nat → Value → Prop} {St : Nat → Shared → Prop}
theorem set_loop (W : WalksS P w A.in1 I fp wr G n Pv St) (S : Addr) (hS : S ∉ fp) (val : Nat → Str) (hv : ∀ i v, Pv i v → ∃ t, v = .str (val i) t) (hb : n + 1 < scanBound) :
    ∀ (k i : Nat) (s : Shared), n - i = k → i ≤ n → St i s → SetX P w s.heap S (metS val i) → (∀ s', Moved (S :: wr) G s s' → SetX P w s'.heap S (metS val n) → R (.ok (.ret .none)) s') →
      codeAny (model P w) A (.builtin "set.update.loop" ⟨[.ref S, .ref I], []⟩) R s := by
  have hw : S ∉ wr := fun z => hS (W.sub _ z)
  have up : ∀ b ∈ wr, b ∈ S :: wr := fun b z => List.mem_cons_of_mem _ z
  intro k
  induction k with
  | zero =>
    intro i s hk hi st x q
    obtain rfl : i = n := by omega
    refine codeAny_builtin F.entry_set_update_loop ?_
    rw [Around.under_plainId F.plain_set_update_loop _]
    show wpAny _ A.in1 (pyNext (.ref I) >>= _) _ _ s
    refine wpAny_bind (W.done s _ _ st fun s' m => ?_); show wpAny _ A.in1 (ret Value.none) _ _ s'
    exact wpAny_pure (q s' (m.mono up) (x.keep fun o e => m.heap S o hw e))
  | succ k ih =>
    intro i s hk hi st x q
    have lt : i < n := by omega
    refine codeAny_builtin F.entry_set_update_loop ?_
    rw [Around.under_plainId F.plain_set_update_loop _]
    show wpAny _ A.in1 (pyNext (.ref I) >>= _) _ _ s
    refine wpAny_bind (W.item i s _ _ lt st fun v s' hP st' m => ?_)
    obtain ⟨t, rfl⟩ := hv i v hP
    have x' : SetX P w s'.heap S (metS val i) := x.keep fun o e => m.heap S o hw e
    show wpAny _ A.in1 (holding [Value.str (val i) t] (setAdd S (.str (val i) t)) >>= _) _ _ s'
    refine wpAny_bind (wpAny_holding ?_); unfold setAdd
    have hkey : (strKind P w).is (val i) (.str (val i) t) = true := by show Value.isStrOf (val i) (.str (val i) t) = true; simp [Value.isStrOf]
    refine wpAny_holding (wpAny_bind ((strKind P w).pyHash (k := val i) hkey ?_))
    have room : (metS val i).length + 1 < scanBound := by have := metS_len val i; omega
    refine setX_add (s := { s' with toks := s'.toks + 1 }) x' room fun h' sb x2 b => ?_
    rw [← metS_succ] at x2
    refine wpAny_pure ⟨plainId_quiet F.plain_set_update_loop _, ih (i + 1) _ (by omega) lt (W.frame _ s' _ _ st' (Nat.le_succ _) fun c hc o e => ?_) x2 fun s'' m'' x'' => ?_⟩
    · rw [sb.2 c (fun z : c = S => hS (by rw [← z]; exact hc))]; exact e
    · refine q s'' (Moved.trans W.gtrans ((m.mono up).then_heap (Nat.le_succ _) fun c o hc e => ?_) m'') x''
      rw [sb.2 c (fun z : c = S => hc (by rw [z]; exact List.mem_cons_self))]; exact e
end
section
variable {P : Program} {w : World} {A : Around} {E : Value → Shared → Prop} {s : Shared}
abbrev newS (w : World) : Obj := { cls := .type "set", dict := none, data := .set #[] 0 (.fresh 0 0 (!w.params.followText "set-order")) }
theorem code_setnew (a : Value) {Q₁ : Value → Shared → Prop} (h : Q₁ (.ref s.heap.objs.size) { s with heap := s.heap.push (newS w) }) :
    codeAny (model P w) A (.call (.builtin "set.__new__") ⟨[.type "set", a], []⟩) (wants Q₁ E) s := by
  refine codeAny_of_tree ?_; show wpAny _ A.in1 (do checkBuiltinCall "set.__new__" ⟨[.type "set", a], []⟩; again (.builtin "set.__new__" ⟨[.type "set", a], []⟩)) _ _ s
  refine wpAny_bind (wpAny_of_eq (F.newCall_set_1 a) (wpAny_pure ⟨plainId_quiet F.plain_set_new _, codeAny_builtin F.entry_set_new ?_⟩)); rw [Around.under_plainId F.plain_set_new _]
  unfold Builtin.«set.__new__» Builtin.Frozenset.newClass; have ss := sub_set_self
  obtain ⟨hp, g, d, tk, os⟩ := s; dsimp only
  wp_walk
  refine wpAny_askSetting (wpAny_pure ?_); dsimp only; simp only [newObj]
  refine wpAny_bind (wpAny_alloc (wpAny_pure ?_)); exact wpAny_pure h
/-- what set(..) is made of: a list or a tuple -/
structure Src (P : Program) (w : World) (T : String) (l : Addr) (ol : Obj) (n : Nat) (Pv : Nat → Value → Prop) : Prop where
  cls : ol.cls = .type T
  ns : isSubtype (.type T) (.type "set") = pure false
  nf : isSubtype (.type T) (.type "frozenset") = pure false
  nd : (Value.type T == Value.type "dict") = false
  iter : ∀ (A : Around) (s : Shared), A.handled = none → s.heap.get? l = some ol → ∃ (oI : Obj) (St : Nat → Heap → Prop),
    (∀ (E : Value → Shared → Prop) (Q : Value → Shared → Prop), Q (.ref s.heap.objs.size) { s with heap := s.heap.push oI } → wpAny (model P w) A (pyIter (.ref l)) Q E s) ∧
    Walks P w A s.heap.objs.size [s.heap.objs.size, l] [s.heap.objs.size] n Pv St ∧ St 0 (s.heap.push oI)
theorem call_setS {T : String} {l : Addr} {ol : Obj} {n : Nat} {Pv : Nat → Value → Prop} {val : Nat → Str} {Q : Value → Shared → Prop} (hh : A.handled = none) (C : Src P w T l ol n Pv) (hl : s.heap.get? l = some ol) (hv : ∀ i v, Pv i v → ∃ t, v = .str (val i) t) (hb : n + 1 < scanBound)
    (h : ∀ (h' : Heap) (tk : Nat), SetX P w h' s.heap.objs.size (metS val n) → (∀ b o, b < s.heap.objs.size → s.heap.get? b = some o → h'.get? b = some o) → Q (.ref s.heap.objs.size) { s with heap := h', toks := tk }) :
    wpAny (model P w) A (call (.type "set") [.ref l]) Q E s := by
  obtain ⟨c0, tl0, mro0⟩ := F.called_set.mro
  have made0 := F.called_set.made; have sub0 := F.called_set.sub
  refine wpAny_call (codeAny_of_tree ?_); show wpAny _ _ (callAny (.type "set") _) _ _ _
  refine wpAny_pure ⟨Code.quiet_builtin _ (by decide +kernel), codeAny_builtin F.entry_type_call ?_⟩; rw [Around.under_plain (weight_type_call_type "set" [.ref l] []) rfl]
  have f1 := F.called_set.notType; have f2 := F.called_set.canCreate
  have f3 := F.typeCall_set_1 (.ref l)
  repeat (any_goals (first | assumption | wp_step))
  refine codeAny_mono (code_setnew (.ref l) (E := E) (Q₁ := fun obj s₁ => obj = .ref s.heap.objs.size ∧ s₁ = { s with heap := s.heap.push (newS w) }) ⟨rfl, rfl⟩) fun r s₁ hr => ?_
  cases r with
  | error e => exact hr
  | ok fl =>
    cases fl with
    | ret obj =>
      obtain ⟨rfl, rfl⟩ := hr
      have gS : (s.heap.push (newS w)).get? s.heap.objs.size = some (newS w) := Heap.get?_push_size _ rfl
      have tS : Shared.TypeIs { s with heap := s.heap.push (newS w) } (.ref s.heap.objs.size) "set" := ⟨_, gS, rfl⟩
      have i1 := F.called_set.init.lookup; have i2 := F.called_set.init.bind (.ref s.heap.objs.size)
      repeat (any_goals (first | assumption | wp_step))
      refine codeAny_mono (codeAny_call_builtin (R := wants (fun r s₂ => r = .none ∧ ∃ h' tk, s₂ = { s with heap := h', toks := tk } ∧ SetX P w h' s.heap.objs.size (metS val n) ∧ (∀ b o, b < s.heap.objs.size → s.heap.get? b = some o → h'.get? b = some o)) E) F.called_set.init.plain F.entry_set_init (check_set_init_1 tS ?_)) fun r₂ s₂ hr₂ => ?_
      · have hl1 : (s.heap.push (newS w)).get? l = some ol := Heap.get?_push_of_some _ hl
        obtain ⟨ocls, odict, odata, oslots⟩ := ol
        have ecls : ocls = .type T := C.cls
        subst ecls
        have ns := C.ns; have nf := C.nf; have nd := C.nd
        unfold Builtin.«set.__init__» noKeywords Builtin.Frozenset.updateFrom
        generalize hPI : pyIter = PI
        wp_walk
        subst hPI
        obtain ⟨oI, St, it, W, st⟩ := C.iter A.in1.in1.in1 { s with heap := s.heap.push (newS w) } (by simp [hh]) hl1
        refine wpAny_of_in1 (it _ _ ?_)
        refine wpAny_bind (wpAny_runValue ?_)
        have lS : l < s.heap.objs.size := Heap.lt_size hl
        have nS : s.heap.objs.size ∉ [(s.heap.push (newS w)).objs.size, l] := by
          rw [Heap.size_push]; simp only [List.mem_cons, List.mem_singleton, List.not_mem_nil, or_false, not_or]; exact ⟨Nat.ne_of_lt (Nat.lt_succ_self _), Nat.ne_of_gt lS⟩
        refine set_loop W.toS s.heap.objs.size nS val hv hb (n - 0) 0 _ (by omega) (Nat.zero_le _) st (setX_new (Heap.get?_push_of_some _ gS)) ?_
        intro s' m x'
        obtain ⟨h', g', d', tk', os'⟩ := s'
        have e1 : g' = s.gens := m.gens
        have e2 : d' = s.drawn := m.drawn
        have e3 : os' = s.os := m.os
        subst e1; subst e2; subst e3
        show wpAny _ _ _ _ _ _
        refine wpAny_pure ?_; show wpAny _ _ (ret Value.none) _ _ _
        refine wpAny_pure ⟨rfl, h', tk', rfl, x', fun b o hb e => ?_⟩
        have b1 : b ≠ s.heap.objs.size := Nat.ne_of_lt hb
        have b2 : b ≠ (s.heap.push (newS w)).objs.size := by rw [Heap.size_push]; exact Nat.ne_of_lt (Nat.lt_succ_of_lt hb)
        exact m.heap b o (by simp only [List.mem_cons, List.mem_singleton, List.not_mem_nil, or_false, not_or]; exact ⟨b1, b2⟩) (Heap.get?_push_of_some _ (Heap.get?_push_of_some _ e))
      · cases r₂ with
        | error e => exact hr₂
        | ok fl₂ =>
          cases fl₂ with
          | ret r =>
            obtain ⟨rfl, h', tk, rfl, x', k'⟩ := hr₂
            repeat (any_goals (first | assumption | wp_step))
            exact h _ _ x' k'
          | _ => exact hr₂.elim
    | _ => exact hr.elim
theorem src_list {l : Addr} {items : Array Value} {ol : Obj} (cl : ol.cls = .type "list") (dt : ∃ n, ol.data = .seq items n) : Src P w "list" l ol items.size (fun i v => items[i]? = some v) where
  cls := cl
  ns := F.sub_list_set
  nf := F.sub_list_frozenset
  nd := by decide
  iter := fun A s hh hl => by
    have il : s.heap.IsList l items := ⟨ol, hl, cl, dt⟩
    have lt := Heap.lt_size hl
    exact ⟨_, _, fun E Q q => wpAny_pyIter_list il q, Walks.list hh _ l (Nat.ne_of_lt lt) items, ⟨_, Heap.get?_push_size _ rfl, rfl, rfl⟩, il.push _⟩
theorem src_tup {l : Addr} {items : Array Value} {ol : Obj} (cl : ol.cls = .type "tuple") (dt : ∃ n, ol.data = .seq items n) : Src P w "tuple" l ol items.size (fun i v => items[i]? = some v) where
  cls := cl
  ns := F.sub_tuple_set
  nf := F.sub_tuple_frozenset
  nd := by decide
  iter := fun A s hh hl => by
    have il : s.heap.IsTuple l items := ⟨ol, hl, cl, dt⟩
    have lt := Heap.lt_size hl
    exact ⟨_, _, fun E Q q => wpAny_pyIter_tuple il q, Walks.tuple hh _ l (Nat.ne_of_lt lt) items, ⟨_, Heap.get?_push_size _ rfl, rfl, rfl⟩, il.push _⟩
end
end HS
/-! ### a set of texts walked -/
namespace HS
open PySem PySem.Spec PyProof.Rows
abbrev itO (first : Value) (i : Nat) (a : Addr) (n ep : Nat) : Obj := { cls := .type "set_iterator", dict := none, data := .fields #[first, .int i 0, .ref a, .int n 0, .int ep 0], slots := #[] }
section
variable {P : Program} {w : World} {A : Around} {E : Value → Shared → Prop} {s : Shared} {I a : Addr} {o : Obj} {es : Array (Int × Value)} {ep : Nat} {t : SetTable}
end
end HS
namespace HS
open PySem PySem.Spec PyProof.Rows
/-! ### in which order a set is walked: in some one -/
section
variable {P : Program} {w : World} {A : Around} {E : Value → Shared → Prop} {s : Shared} {a : Addr} {xs : List Str}
theorem strs_len {vs : List Value} {ys : List Str} (h : StrsAre vs ys) : vs.length = ys.length := by
  induction h with
  | nil => rfl
  | cons _ _ _ ih => rw [List.length_cons, List.length_cons, ih]
/-- what an iterator of a set is, at each of its places -/
structure SetW (P : Program) (w : World) (a : Addr) (vs : List Value) (I : Addr) (fp : List Addr) (h : Heap) : Prop where
  go : ∃ St : Nat → Heap → Prop, (∀ A : Around, A.handled = none → Walks P w A I fp [I] vs.length (fun i v => vs[i]? = some v) St) ∧ St 0 h
end
end HS
namespace HS
open PySem PySem.Spec PyProof.Rows
section
variable {P : Program} {w : World} {A : Around} {E : Value → Shared → Prop} {s : Shared} {a : Addr} {xs : List Str}
end
end HS
namespace HS
open PySem PySem.Spec PyProof.Rows PySem.W
section
variable {P : Program} {w : World} {A : Around} {E : Value → Shared → Prop} {s : Shared} {a : Addr} {xs : List Str}
end
end HS
/-! ### sets of texts, for the readings -/
namespace L2
open PySem PySem.Spec PyProof.Rows PySem.W HS
def SetO (P : Program) (w : World) (a : Addr) (xs : List Str) : HO := .ext fun h => xs.Nodup ∧ SetX P w h a xs
theorem setO_mk {P : Program} {w : World} {H : Hp} {h : Heap} {a : Addr} {xs : List Str} (nd : xs.Nodup) (x : SetX P w h a xs) : ObjOk P w H h a (SetO P w a xs) :=
  ⟨⟨nd, x⟩, (let ⟨o, _, _, _, e, _⟩ := x; ⟨o, e⟩), fun _ _ q k => ⟨q.1, q.2.keep k⟩⟩
theorem strs_at : ∀ {vs : List Value} {ys : List Str}, StrsAre vs ys → ∀ (i : Nat) (v : Value), vs[i]? = some v → ∃ t, v = .str (ys.getD i "") t
  | _, _, .nil, i, v, h => by simp at h
  | _, _, .cons y t r, 0, v, h => by simp at h; exact ⟨t, by rw [← h]; rfl⟩
  | _, _, .cons y t r, i + 1, v, h => by
    obtain ⟨t', e⟩ := strs_at r i v (by simpa using h)
    exact ⟨t', by rw [e]; rfl⟩
section
variable {X : Cx}
theorem call_set (hc : X.calm = true) : CallR X (.type "set") (fun vs H Q => ∃ (p : Addr) (ss : List Str), vs = [.ref p] ∧ (SqL X.K H p (ss.map V.str) ∨ SqT X.K H p (ss.map V.str)) ∧ ss.length ≤ 1000 ∧ ∀ a ds, H a = none → ds.Nodup → (∀ y, y ∈ ds ↔ y ∈ ss) → Q (.ref a) (upd H a (SetO X.prog X.w a ds))) := by
  intro pins s σ H vs us Q I r h
  obtain ⟨p, ss, rfl, hq, h1k, q⟩ := h
  obtain ⟨u, rfl, rx⟩ := vals1 r
  cases rx
  have fin : ∀ (its : List Value) {T : String} {ol : Obj}, Vals (ss.map V.str) its → Src X.prog X.w T p ol its.toArray.size (fun i v => its.toArray[i]? = some v) → s.heap.get? p = some ol → wpAny (model X.prog X.w) X.A (call (.type "set") [.ref p]) (EP X pins σ Q) X.xe s := fun its {T ol} rv C hp => by
    have st := strsAre_of rv
    have hlen : its.length = ss.length := strs_len st
    refine call_setS (val := fun i => ss.getD i "") (I.ok.hd hc) C hp (fun i v hv => strs_at st i v (by simpa using hv)) (by rw [List.size_toArray, hlen]; unfold scanBound; omega) fun h' tk x k => ?_
    have kp : ∀ b o, s.heap.get? b = some o → h'.get? b = some o := fun b o e => k b o (Heap.lt_size e) e
    have nd := metS_nd (fun i => ss.getD i "") its.toArray.size
    refine ⟨.ref s.heap.objs.size, _, I.laid (t' := tk) kp (Nat.le_refl _) (setO_mk nd x), rfl, q _ _ (I.hok.fresh (Nat.le_refl _)) nd fun y => ?_⟩
    rw [metS_mem, List.size_toArray, hlen]
    constructor
    · rintro ⟨j, hj, rfl⟩
      rw [show ss.getD j "" = ss[j] by simp [hj]]
      exact List.getElem_mem hj
    · intro hy
      obtain ⟨j, hj, e⟩ := List.mem_iff_getElem.mp hy
      exact ⟨j, hj, by simp [hj, e]⟩
  rcases hq with hq | hq
  · obtain ⟨its, r', pl, hz⟩ := I.list hq
    obtain ⟨o, ho, hcl, n, hd⟩ := pl.isList
    exact fin its r' (src_list hcl ⟨n, hd⟩) ho
  · obtain ⟨its, r', pl, hz⟩ := I.tuple hq
    obtain ⟨o, ho, hcl, n, hd⟩ := pl
    exact fin its r' (src_tup hcl ⟨n, hd⟩) ho
theorem call_lenSet : CallR X (.builtin "len") (fun vs H Q => ∃ (a : Addr) (ds : List Str), vs = [.ref a] ∧ H a = some (SetO X.prog X.w a ds) ∧ Q (.int ds.length) H) := by
  intro pins s σ H vs us Q I r h
  obtain ⟨a, ds, rfl, hq, q⟩ := h
  obtain ⟨u, rfl, rx⟩ := vals1 r
  cases rx
  obtain ⟨⟨nd, o, es, ep, t, ho, hex, hd, hel, hmem, hb, hf, hn, _⟩, _⟩ := (show ObjOk X.prog X.w H s.heap a (SetO X.prog X.w a ds) from I.hok a _ hq)
  refine call_len_set ho hex hd hf (by unfold scanBound at hb; omega) ?_
  rw [← hn] at q
  exact ⟨.int es.size, H, I.tok _, ⟨_, rfl⟩, q⟩
end
end L2
/-! ### a sort of pairs: what comes out is in order -/
namespace L2
open PySem PySem.W PySem.Calls PyProof.Rows
structure Ord (n : Nat) (lt : Nat → Nat → Bool) : Prop where
  tr : ∀ i j k, lt i j = true → lt j k = true → lt i k = true
  tot : ∀ i j, i < n → j < n → i ≠ j → lt i j = false → lt j i = true
def GoodO {α : Type} (n : Nat) (lt : Nat → Nat → Bool) (φ : α → Prop) : KasT α → Prop
  | .ret a => φ a
  | .ask i j k => i < n ∧ j < n ∧ GoodO n lt φ (k (lt i j))
section
variable {α β : Type} {n : Nat} {lt : Nat → Nat → Bool}
theorem GoodO.bind {φ : α → Prop} {ψ : β → Prop} {f : α → KasT β} (g : ∀ a, φ a → GoodO n lt ψ (f a)) : ∀ {t : KasT α}, GoodO n lt φ t → GoodO n lt ψ (t.bind f)
  | .ret a, h => g a h
  | .ask _ _ _, h => ⟨h.1, h.2.1, GoodO.bind g h.2.2⟩
theorem GoodO.wp {φ : α → Prop} {cmp : Nat → Nat → (Bool → Shared → Prop) → Shared → Prop} {Q : α → Shared → Prop} {s : Shared} (hc : ∀ i j C, i < n → j < n → C (lt i j) s → cmp i j C s) : ∀ {t : KasT α}, GoodO n lt φ t → (∀ a, φ a → Q a s) → t.kasWp cmp Q s
  | .ret a, h, q => q a h
  | .ask _ _ _, h, q => hc _ _ _ h.1 h.2.1 (GoodO.wp hc h.2.2 q)
theorem GoodO.mono {φ ψ : α → Prop} (g : ∀ a, φ a → ψ a) : ∀ {t : KasT α}, GoodO n lt φ t → GoodO n lt ψ t
  | .ret a, h => g a h
  | .ask _ _ _, h => ⟨h.1, h.2.1, GoodO.mono g h.2.2⟩
def Asc (lt : Nat → Nat → Bool) (p : Array Nat) (k : Nat) : Prop := ∀ i j, i < j → j < k → lt (p.getD i 0) (p.getD j 0) = true
def Dsc (lt : Nat → Nat → Bool) (p : Array Nat) (k : Nat) : Prop := ∀ i j, i < j → j < k → lt (p.getD j 0) (p.getD i 0) = true
theorem Pm.size {p : Array Nat} (h : Pm n p) : p.size = n := by have := h.length_eq; simpa using this
theorem Pm.ne {p : Array Nat} (h : Pm n p) {i j : Nat} (hi : i < n) (hj : j < n) (e : i ≠ j) : p.getD i 0 ≠ p.getD j 0 := by
  have hs := h.size
  have nd : p.toList.Nodup := h.nodup_iff.mpr List.nodup_range
  intro z
  rw [Array.getD_eq_getD_getElem?, Array.getD_eq_getD_getElem?, Array.getElem?_eq_getElem (by omega), Array.getElem?_eq_getElem (by omega)] at z
  have z2 : p.toList[i]'(by simp; omega) = p.toList[j]'(by simp; omega) := by simpa using z
  exact e ((List.getElem_inj nd).mp z2)
theorem flip_ {p : Array Nat} (O : Ord n lt) (h : Pm n p) {i j : Nat} (hi : i < n) (hj : j < n) (e : i ≠ j) (f : lt (p.getD i 0) (p.getD j 0) = false) : lt (p.getD j 0) (p.getD i 0) = true :=
  O.tot _ _ (h.lt (by omega) i) (h.lt (by omega) j) (h.ne hi hj e) f
theorem Asc.step {p : Array Nat} (O : Ord n lt) {m : Nat} (h1 : 1 ≤ m) (a : Asc lt p m) (l : lt (p.getD (m - 1) 0) (p.getD m 0) = true) : Asc lt p (m + 1) := fun i j hij hj => by
  by_cases e : j < m
  · exact a i j hij e
  · obtain rfl : j = m := by omega
    by_cases e2 : i = j - 1
    · rw [e2]; exact l
    · exact O.tr _ _ _ (a i (j - 1) (by omega) (by omega)) l
theorem Dsc.step {p : Array Nat} (O : Ord n lt) {m : Nat} (h1 : 1 ≤ m) (a : Dsc lt p m) (l : lt (p.getD m 0) (p.getD (m - 1) 0) = true) : Dsc lt p (m + 1) := fun i j hij hj => by
  by_cases e : j < m
  · exact a i j hij e
  · obtain rfl : j = m := by omega
    by_cases e2 : i = j - 1
    · rw [e2]; exact l
    · exact O.tr _ _ _ l (a i (j - 1) (by omega) (by omega))
theorem ord_asc {p : Array Nat} (O : Ord n lt) (h : Pm n p) : ∀ (f m : Nat), 1 ≤ m → m + f ≤ n → Asc lt p m → GoodO n lt (fun r => m ≤ r ∧ r ≤ m + f ∧ Asc lt p r ∧ (r < m + f → lt (p.getD r 0) (p.getD (r - 1) 0) = true)) (kas_asc p f m)
  | 0, m, h1, h2, a => ⟨Nat.le_refl _, Nat.le_refl _, a, fun z => absurd z (by omega)⟩
  | f + 1, m, h1, h2, a => ⟨h.lt (by omega) _, h.lt (by omega) _, by
    cases c : lt (p.getD m 0) (p.getD (m - 1) 0) with
    | true => exact ⟨Nat.le_refl _, by omega, a, fun _ => c⟩
    | false =>
      refine GoodO.mono (fun r hr => ?_) (ord_asc O h f (m + 1) (by omega) (by omega) (a.step O h1 (flip_ O h (by omega) (by omega) (by omega) c)))
      exact ⟨by omega, by omega, hr.2.2.1, fun z => hr.2.2.2 (by omega)⟩⟩
theorem ord_desc {p : Array Nat} (O : Ord n lt) (h : Pm n p) : ∀ (f m : Nat), 1 ≤ m → m + f ≤ n → Dsc lt p m → GoodO n lt (fun r : Array Nat × Nat × Nat => r.1 = p ∧ r.2.2 = 0 ∧ m ≤ r.2.1 ∧ r.2.1 ≤ m + f ∧ Dsc lt p r.2.1) (kas_desc f p m 0)
  | 0, m, h1, h2, a => ⟨rfl, rfl, Nat.le_refl _, Nat.le_refl _, a⟩
  | f + 1, m, h1, h2, a => ⟨h.lt (by omega) _, h.lt (by omega) _, by
    cases c : lt (p.getD m 0) (p.getD (m - 1) 0) with
    | true =>
      show GoodO n lt _ (if 0 > 0 then kas_desc f (kas_rev p (m - (0 + 1)) m) (m + 1) 0 else kas_desc f p (m + 1) 0)
      rw [if_neg (by omega)]
      refine GoodO.mono (fun r hr => ?_) (ord_desc O h f (m + 1) (by omega) (by omega) (a.step O h1 c))
      exact ⟨hr.1, hr.2.1, by omega, by omega, hr.2.2.2.2⟩
    | false =>
      refine ⟨h.lt (by omega) _, h.lt (by omega) _, ?_⟩
      rw [flip_ O h (by omega) (by omega) (by omega) c]
      exact ⟨rfl, rfl, Nat.le_refl _, Nat.le_add_right _ _, a⟩⟩
theorem getD_rev {p : Array Nat} {m : Nat} (hm : m ≤ p.size) (k : Nat) (hk : k < m) : (kas_rev p 0 m).getD k 0 = p.getD (m - 1 - k) 0 := by
  unfold kas_rev
  rw [Array.getD_eq_getD_getElem?, getElem?_mirror_all hm, if_pos ⟨Nat.zero_le _, hk⟩, Array.getD_eq_getD_getElem?, Nat.zero_add]
theorem Dsc.rev {p : Array Nat} {m : Nat} (hm : m ≤ p.size) (a : Dsc lt p m) : Asc lt (kas_rev p 0 m) m := fun i j hij hj => by
  rw [getD_rev hm i (by omega), getD_rev hm j hj]
  exact a _ _ (by omega) (by omega)
def RunOk (n : Nat) (lt : Nat → Nat → Bool) (r : Nat × Array Nat) : Prop := Pm n r.2 ∧ Asc lt r.2 r.1 ∧ 1 ≤ r.1 ∧ r.1 ≤ n
theorem ord_tail3 {p : Array Nat} (O : Ord n lt) (h : Pm n p) {m : Nat} (h1 : 1 ≤ m) (h2 : m ≤ n) (a : Dsc lt p m) : GoodO n lt (RunOk n lt) (kas_tail3 m n p) :=
  GoodO.bind (ψ := RunOk n lt) (f := fun k => .ret (k, kas_rev p 0 m)) (fun r hr => (show RunOk n lt (r, kas_rev p 0 m) from ⟨h.rev _ _, hr.2.2.1, Nat.le_trans h1 hr.1, by have := hr.2.1; show r ≤ n; omega⟩)) (ord_asc O (h.rev 0 m) (n - m) m h1 (by omega) (a.rev (by rw [h.size]; exact h2)))
theorem ord_count {p : Array Nat} (O : Ord n lt) (hn : 2 ≤ n) (h : Pm n p) : GoodO n lt (RunOk n lt) (kas_count n p) :=
  (ord_asc O h (n - 1) 1 (Nat.le_refl _) (by omega) (fun i j hij hj => absurd hj (by omega))).bind fun m hm => by
    obtain ⟨m1, m2, ma, ml⟩ := hm
    show GoodO n lt _ (if (m == n) = true then _ else if m > 1 then _ else _)
    split
    · rename_i e
      have : m = n := by simpa using e
      subst this
      exact ⟨h, ma, m1, Nat.le_refl _⟩
    · rename_i e
      have ne : m ≠ n := by simpa using e
      split
      · rename_i g
        refine ⟨h.lt (by omega) _, h.lt (by omega) _, ?_⟩
        rw [ma 0 (m - 1) (by omega) (by omega)]
        exact ⟨h, ma, m1, by omega⟩
      · obtain rfl : m = 1 := by omega
        have l := ml (by omega)
        have d2 : Dsc lt p 2 := fun i j hij hj => by
          obtain rfl : j = 1 := by omega
          obtain rfl : i = 0 := by omega
          exact l
        refine GoodO.bind (fun r hr => ?_) (ord_desc O h (n - (1 + 1)) (1 + 1) (by omega) (by omega) d2)
        obtain ⟨r1, r2, r3, r4, r5⟩ := hr
        show GoodO n lt _ (if r.2.2 > 0 then _ else _)
        rw [if_neg (by omega), r1]
        exact ord_tail3 O h (by omega) (by omega) r5
theorem ord_place {p : Array Nat} (O : Ord n lt) (h : Pm n p) {k : Nat} (hk : k < n) (a : Asc lt p k) : ∀ (f l r : Nat), r - l ≤ f → l ≤ r → r ≤ k → (∀ i, i < l → lt (p.getD i 0) (p.getD k 0) = true) → (∀ i, r ≤ i → i < k → lt (p.getD k 0) (p.getD i 0) = true) →
    GoodO n lt (fun m => m ≤ k ∧ (∀ i, i < m → lt (p.getD i 0) (p.getD k 0) = true) ∧ ∀ i, m ≤ i → i < k → lt (p.getD k 0) (p.getD i 0) = true) (kas_place p k f l r)
  | 0, l, r, hf, hl, hr, lo, hi => by
    obtain rfl : l = r := by omega
    exact ⟨hr, lo, hi⟩
  | f + 1, l, r, hf, hl, hr, lo, hi => by
    show GoodO n lt _ (if l ≥ r then _ else _)
    split
    · obtain rfl : l = r := by omega
      exact ⟨hr, lo, hi⟩
    · refine ⟨h.lt (by omega) _, h.lt (by omega) _, ?_⟩
      cases c : lt (p.getD k 0) (p.getD ((l + r) / 2) 0) with
      | true =>
        refine ord_place O h hk a f l ((l + r) / 2) (by omega) (by omega) (by omega) lo fun i hi1 hi2 => ?_
        by_cases e : i = (l + r) / 2
        · rw [e]; exact c
        · exact O.tr _ _ _ c (a _ i (by omega) hi2)
      | false =>
        have c2 := flip_ O h (i := k) (j := (l + r) / 2) hk (by omega) (by omega) c
        refine ord_place O h hk a f ((l + r) / 2 + 1) r (by omega) (by omega) hr (fun i hi1 => ?_) hi
        by_cases e : i = (l + r) / 2
        · rw [e]; exact c2
        · exact O.tr _ _ _ (a i _ (by omega) (by omega)) c2
theorem getD_bub {p : Array Nat} {k l : Nat} (hk : k < p.size) (hl : l ≤ k) (i : Nat) : (bubble p k (k - l)).getD i 0 = if i = l then p.getD k 0 else if l < i ∧ i ≤ k then p.getD (i - 1) 0 else p.getD i 0 := by
  rw [Array.getD_eq_getD_getElem?, getElem?_bubble hk (k - l) (by omega)]
  have : k - (k - l) = l := by omega
  rw [this]
  by_cases c1 : i = l
  · rw [if_pos c1, if_pos c1]; exact (Array.getD_eq_getD_getElem? ..).symm
  · rw [if_neg c1, if_neg c1]
    by_cases c2 : l < i ∧ i ≤ k
    · rw [if_pos c2, if_pos c2]; exact (Array.getD_eq_getD_getElem? ..).symm
    · rw [if_neg c2, if_neg c2]; exact (Array.getD_eq_getD_getElem? ..).symm
theorem ord_bin (O : Ord n lt) : ∀ (f : Nat) (p : Array Nat) (k : Nat), k + f = n → Pm n p → Asc lt p k → GoodO n lt (fun r => Pm n r ∧ Asc lt r n) (kas_bin f p k)
  | 0, p, k, e, h, a => by
    obtain rfl : k = n := by omega
    exact ⟨h, a⟩
  | f + 1, p, k, e, h, a => (ord_place O h (by omega) a k 0 k (by omega) (Nat.zero_le _) (Nat.le_refl _) (fun i hi => absurd hi (Nat.not_lt_zero _)) (fun i h1 h2 => absurd h2 (by omega))).bind fun l hl => by
    obtain ⟨l1, l2, l3⟩ := hl
    refine ord_bin O f _ _ (by omega) (h.bub _ _) fun i j hij hj => ?_
    have hsz := h.size
    rw [getD_bub (by omega) l1 i, getD_bub (by omega) l1 j]
    by_cases i1 : i = l
    · rw [if_pos i1, if_neg (by omega), if_pos (by omega)]
      exact l3 _ (by omega) (by omega)
    · rw [if_neg i1]
      by_cases i2 : l < i ∧ i ≤ k
      · rw [if_pos i2, if_neg (by omega), if_pos (by omega)]
        exact a _ _ (by omega) (by omega)
      · rw [if_neg i2]
        by_cases j1 : j = l
        · rw [if_pos j1]; exact l2 i (by omega)
        · rw [if_neg j1]
          by_cases j2 : l < j ∧ j ≤ k
          · rw [if_pos j2]
            exact a _ _ (by omega) (by omega)
          · rw [if_neg j2]
            exact a _ _ hij (by omega)
theorem ord_sort (O : Ord n lt) (hn : 2 ≤ n) : GoodO n lt (fun r => Pm n r ∧ Asc lt r n) (kas_sort n) :=
  (ord_count O hn (List.Perm.refl _)).bind fun r hr => by
    obtain ⟨r1, r2, r3, r4⟩ := hr
    show GoodO n lt _ (if r.1 < n then _ else _)
    split
    · refine ord_bin O _ _ _ (by omega) r1 ?_
      rw [show max r.1 1 = r.1 by omega]; exact r2
    · obtain e : r.1 = n := by omega
      rw [e] at r2
      exact ⟨r1, r2⟩
end
end L2
namespace L2
open PySem PySem.W PySem.Calls PyProof.Rows
def ltS (p q : Str) : Bool := decide (p.cps.toList < q.cps.toList)
theorem ltS_self (p : Str) : ltS p p = false := decide_eq_false (List.lt_irrefl _)
theorem ltS_tr {p q r : Str} (h1 : ltS p q = true) (h2 : ltS q r = true) : ltS p r = true := decide_eq_true (List.lt_trans (of_decide_eq_true h1) (of_decide_eq_true h2))
theorem ltS_tot {p q : Str} (h : p ≠ q) (f : ltS p q = false) : ltS q p = true := by
  refine decide_eq_true ?_
  have h1 : ¬ p.cps.toList < q.cps.toList := of_decide_eq_false f
  have h2 : q.cps.toList ≤ p.cps.toList := List.not_lt.mp h1
  by_cases z : q.cps.toList < p.cps.toList
  · exact z
  · exact absurd (leS_anti (a := p) (b := q) (List.not_lt.mp z) h2) h
theorem lt_pairsO {prog : Program} {w : World} {A : Around} {E : Value → Shared → Prop} {s : Shared} {x y : Addr} {p q : Str} {t u : Tok} {v z : Addr} {C : Bool → Shared → Prop} (hx : IsTup s.heap x #[.str p t, .ref v]) (hy : IsTup s.heap y #[.str q u, .ref z]) (hd : p = q → v = z) (h : C (ltS p q) s) :
    wpAny (model prog w) A (keyLt' (tuples' true) (.ref x) (.ref y)) C E s := by
  obtain ⟨ox, ex, cx, nx, dx⟩ := hx
  obtain ⟨oy, ey, cy, ny, dy⟩ := hy
  refine kat_lt ex dx ey dy (kat_cons (wpAny_eqBool_str ?_))
  by_cases e : p = q
  · rw [decide_eq_true e]
    obtain rfl := hd e
    subst e
    rw [ltS_self] at h
    exact kat_yes (kat_cons (eqBool_ref (kat_yes (kat_nil h))))
  · rw [decide_eq_false e]
    exact kat_no (kas_lt_str h)
theorem getD_pair {α β : Type} {F : α → β → Prop} {l : List α} {m : List β} (h : Paired F l m) (dl : α) (dm : β) (i : Nat) (hi : i < l.length) : F (l.getD i dl) (m.getD i dm) := by
  induction h generalizing i with
  | nil => exact absurd hi (Nat.not_lt_zero _)
  | cons p _ ih =>
    cases i with
    | zero => exact p
    | succ i => exact ih i (Nat.lt_of_succ_lt_succ hi)
theorem paired_map {α β γ : Type} {F : α → β → Prop} {f : γ → α} {g : γ → β} : ∀ {l : List γ}, (∀ x ∈ l, F (f x) (g x)) → Paired F (l.map f) (l.map g)
  | [], _ => .nil
  | x :: l, h => .cons (h x List.mem_cons_self) (paired_map fun y hy => h y (List.mem_cons_of_mem _ hy))
theorem asc_pw {lt : Nat → Nat → Bool} {p : Array Nat} {n : Nat} (hs : p.size = n) (a : Asc lt p n) : p.toList.Pairwise fun i j => lt i j = true := by
  rw [List.pairwise_iff_getElem]
  intro i j hi hj hij
  have h1 : i < p.size := by simpa using hi
  have h2 : j < p.size := by simpa using hj
  have := a i j hij (by omega)
  rw [Array.getD_eq_getD_getElem?, Array.getD_eq_getD_getElem?, Array.getElem?_eq_getElem h1, Array.getElem?_eq_getElem h2] at this
  simpa using this
section
variable {X : Cx}
/-- sorted of a list of pairs, their texts unlike: the same pairs, their texts in order -/
theorem call_sortedPO : CallR X (.builtin "sorted") (fun xs H Q => ∃ (p : Addr) (ys : List V) (kvs : List (Str × V)), xs = [.ref p] ∧ SqL X.K H p ys ∧ PairsV H ys kvs ∧ (∀ q ∈ kvs, ∃ z, q.2 = V.ref z) ∧ (kvs.map (·.1)).Nodup ∧ ys.length ≤ 63 ∧
    ∀ D ys' kvs', H D = none → ys'.Perm ys → PairsV H ys' kvs' → kvs'.Perm kvs → (kvs'.map (·.1)).Pairwise (fun a b => ltS a b = true) → Q (.ref D) (upd H D (.lst ys'))) := by
  intro pins s σ H xs us Q I r ⟨p, ys, kvs, ex, hq, pr, hz2, nd, h63, q⟩
  subst ex
  obtain ⟨u, rfl, rx⟩ := vals1 r
  cases rx
  obtain ⟨its, rv, pl, hz⟩ := I.list hq
  have hl1 : ys.length = kvs.length := Paired.length pr
  have hl2 := rv.length
  have at_ : ∀ (i : Nat), i < its.length → ∃ k a z t, (kvs.map (·.1))[i]? = some k ∧ its[i]? = some (.ref a) ∧ H a = some (.tup [.str k, .ref z]) ∧ IsTup s.heap a #[.str k t, .ref z] := by
    intro i hi
    have hi' : i < ys.length := by omega
    obtain ⟨p', hp', a, ey, ha⟩ := pair_at pr (show ys[i]? = some ys[i] from List.getElem?_eq_getElem hi')
    obtain ⟨z, ez⟩ := hz2 p' (List.mem_of_getElem? hp')
    obtain ⟨u, hu, ru⟩ := rv.get (show ys[i]? = some (V.ref a) by rw [List.getElem?_eq_getElem hi', ey])
    cases ru
    obtain ⟨i2, r2, t2, _⟩ := I.tuple (SqT.of ha)
    obtain ⟨x, y, rfl, rx, ry⟩ := r2.two
    rw [ez] at ry ha
    cases ry
    obtain ⟨t, rfl⟩ : ∃ t, x = .str p'.1 t := rx
    exact ⟨p'.1, a, z, t, by rw [List.getElem?_map, hp']; rfl, hu, ha, t2⟩
  obtain ⟨m, hm, _⟩ := id I.loc
  let lt : Nat → Nat → Bool := fun i j => ltS ((kvs.map (·.1)).getD i "") ((kvs.map (·.1)).getD j "")
  have kl : (kvs.map (·.1)).length = its.length := by rw [List.length_map]; omega
  have O : Ord its.length lt := ⟨fun i j k h1 h2 => ltS_tr h1 h2, fun i j hi hj hij f => ltS_tot (fun e => hij ((List.getElem?_inj (by omega) nd).mp (by
    rw [List.getD_eq_getElem?_getD, List.getD_eq_getElem?_getD, List.getElem?_eq_getElem (by omega), List.getElem?_eq_getElem (by omega)] at e
    rw [List.getElem?_eq_getElem (by omega), List.getElem?_eq_getElem (by omega)]
    exact congrArg some e))) f⟩
  have fin : ∀ (h' : Heap) (D : Addr) (c : Nat) (pa : Array Nat), (∀ b o, b ≠ X.env.locals → s.heap.get? b = some o → h'.get? b = some o) → h'.Ns X.env.locals m → (∀ b o, s.heap.get? b = some o → b ≠ D) → Pm its.length pa → (pa.toList.Pairwise fun i j => lt i j = true) →
      h'.get? D = some (listOf (pa.toList.map fun i => its.getD i Value.none).toArray c) → ∃ v H', Inv X pins σ H' { s with heap := h' } ∧ RelV v (.ref D) ∧ Q v H' := by
    intro h' D c pa k hm' hD hp srt new
    have inb : ∀ i ∈ pa.toList, i < its.length := fun i hi => List.mem_range.mp (hp.mem_iff.mp hi)
    have py : (pa.toList.map fun i => ys.getD i V.non).Perm ys := pm_map V.non (by rw [hl2]; exact hp)
    have hpk : Pm kvs.length pa := by rw [← hl1, hl2]; exact hp
    have pk : (pa.toList.map fun i => kvs.getD i (("", V.non) : Str × V)).Perm kvs := pm_map _ hpk
    have pp : PairsV H (pa.toList.map fun i => ys.getD i V.non) (pa.toList.map fun i => kvs.getD i ("", V.non)) := paired_map fun i hi => getD_pair pr V.non ("", V.non) i (by have := inb i hi; omega)
    have ek : (pa.toList.map fun i => kvs.getD i ("", V.non)).map (·.1) = pa.toList.map fun i => (kvs.map (·.1)).getD i ("" : Str) := by
      rw [List.map_map]
      refine List.map_congr_left fun i hi => ?_
      have : i < kvs.length := by have := inb i hi; omega
      show (kvs.getD i ("", V.non)).1 = _
      rw [List.getD_eq_getElem?_getD, List.getD_eq_getElem?_getD, List.getElem?_map, List.getElem?_eq_getElem this]; rfl
    have rel : Vals (pa.toList.map fun i => ys.getD i V.non) (pa.toList.map fun i => its.getD i Value.none) := vals_maps (fun i => by
      by_cases hi : i < ys.length
      · obtain ⟨u, hu, ru⟩ := rv.get (show ys[i]? = some ys[i] from List.getElem?_eq_getElem hi)
        rw [List.getD_eq_getElem?_getD, List.getD_eq_getElem?_getD, hu, List.getElem?_eq_getElem hi]; exact ru
      · rw [List.getD_eq_getElem?_getD, List.getD_eq_getElem?_getD, List.getElem?_eq_none (by omega), List.getElem?_eq_none (by omega)]; trivial) pa.toList
    obtain ⟨hn, I'⟩ := Inv.sorted (t' := s.toks) I hm hm' k hD new rel (by rw [py.length_eq]; exact hz)
    refine ⟨.ref D, _, I', rfl, q D _ _ hn py pp pk ?_⟩
    rw [ek, List.pairwise_map]; exact srt
  have alls : ∀ v ∈ its, ∃ a k t z, v = Value.ref a ∧ IsTup s.heap a #[.str k t, .ref z] ∧ a ≠ X.env.locals := fun v hv => by
    obtain ⟨i, hi, rfl⟩ := List.getElem_of_mem hv
    obtain ⟨k, a, z, t, _, h2, h3, h4⟩ := at_ i hi
    rw [List.getElem?_eq_getElem hi] at h2
    exact ⟨a, k, t, z, Option.some.inj h2, h4, fun e => by rw [e, I.free] at h3; cases h3⟩
  by_cases h2 : its.length < 2
  · refine sorted_short pl.isList h2 fun D c h' kp hD new => ?_
    obtain ⟨o, es, ep, ho, rr⟩ := id hm
    refine fin h' D c (List.range its.length).toArray (fun b o _ e => kp b o e) ⟨o, es, ep, kp _ _ ho, rr⟩ hD (List.Perm.refl _) ?_ ?_
    · show (List.range its.length).Pairwise _
      have : its.length = 0 ∨ its.length = 1 := by omega
      rcases this with z | z <;> rw [z]
      · exact List.Pairwise.nil
      · exact List.pairwise_singleton _ _
    · have : (List.range its.length).map (fun i => its.getD i Value.none) = its := by
        apply List.ext_getElem
        · simp
        · intro i h1 h2; simp [List.getD, h2]
      show h'.get? D = some (listOf ((List.range its.length).map fun i => its.getD i Value.none).toArray c)
      rw [this]; exact new
  · have h2 : 2 ≤ its.length := by omega
    obtain ⟨g0, hg0, hg1⟩ : ∃ g0 : Heap, g0.objs.size = 0 ∧ ∀ b, g0.get? b = none := ⟨{ s.heap with objs := #[] }, rfl, fun b => Heap.get?_none_of_le (Nat.zero_le _)⟩
    have F : Fr g0 X.env.locals s.heap m := ⟨hm, fun b o e => (by rw [hg1] at e; cases e), by rw [hg0]; exact Nat.zero_le _⟩
    refine kat_sorted F (news_all (g := g0) (L := X.env.locals)) pl.isList h2 (by omega) fun D e1 h' F' N' lt' => ?_
    have kp : ∀ b o, b ≠ X.env.locals → s.heap.get? b = some o → h'.get? b = some o := fun b o n e => (N' (b, o) (List.mem_cons_of_mem _ (mem_allNews n (hg1 b) e))).1
    have tk : ∀ {a : Addr} {k : Str} {t : Tok} {z : Addr}, a ≠ X.env.locals → IsTup s.heap a #[.str k t, .ref z] → IsTup h' a #[.str k t, .ref z] := fun n ⟨o, ho, r⟩ => ⟨o, kp _ o n ho, r⟩
    obtain ⟨fs, hf1, hf2, hf3⟩ := tups_of (h := h') (vs := its) fun v hv => by
      obtain ⟨a, k, t, z, e, h4, n⟩ := alls v hv
      exact ⟨a, k, t, z, e, tk n h4⟩
    refine kat_kind (T := .type "str") hf2 (by omega) (fun f hf => ?_) (by decide) ?_
    · obtain ⟨k, t, rfl⟩ := hf3 f hf
      exact Looks.of_pure rfl
    · have hD : ∀ b o, s.heap.get? b = some o → b ≠ D := fun b o e => by
        by_cases hb : b = X.env.locals
        · rw [hb]; exact Ne.symm (N' _ List.mem_cons_self).2.1
        · exact Nat.ne_of_lt (lt' (b, o) (mem_allNews hb (hg1 b) e))
      refine (ord_sort O h2).wp (fun i j C hi hj hC => ?_) fun pa hp => ?_
      · obtain ⟨k, a, z, t, g1, g2, g3, g4⟩ := at_ i hi
        obtain ⟨k', a', z', t', g1', g2', g3', g4'⟩ := at_ j hj
        unfold kas_ask
        rw [List.getD_eq_getElem?_getD, List.getD_eq_getElem?_getD, g2, g2']
        have el : lt i j = ltS k k' := by show ltS ((kvs.map (·.1)).getD i "") ((kvs.map (·.1)).getD j "") = _; rw [List.getD_eq_getElem?_getD, List.getD_eq_getElem?_getD, g1, g1']; rfl
        rw [el] at hC
        refine lt_pairsO (tk (fun e => by rw [e, I.free] at g3; cases g3) g4) (tk (fun e => by rw [e, I.free] at g3'; cases g3') g4') (fun e => ?_) hC
        subst e
        have hij : i = j := (List.getElem?_inj (by rw [List.length_map]; omega) nd).mp (g1.trans g1'.symm)
        subst hij
        rw [g2] at g2'; cases g2'
        rw [g3] at g3'; cases g3'; rfl
      · refine KasFin.intro F' N' (UpdF.head fun p hp => ?_) fun h'' c F'' N'' => ?_
        · have := of_mem_allNews hp
          exact hD p.1 p.2 this.2.2
        · exact fin h'' D c pa (fun b o n e => (N'' (b, o) (List.mem_cons_of_mem _ (mem_allNews n (hg1 b) e))).1) F''.ns hD hp.1 (asc_pw hp.1.size hp.2) (N'' _ List.mem_cons_self).1
end
end L2
namespace HS
open PySem PySem.Spec PyProof.Rows PySem.W
section
variable {P : Program} {w : World} {A : Around} {E : Value → Shared → Prop} {s : Shared}
/-- a tuple gathered into a list -/
theorem collect_tup {l : Addr} {vs : List Value} {Q : List Value → Shared → Prop} (ht : IsTup s.heap l vs.toArray) (hz : vs.length ≤ sizeLine) (q : ∀ h', (∀ b o, s.heap.get? b = some o → h'.get? b = some o) → Q vs { s with heap := h' }) :
    wpAny (model P w) A (collect (.ref l)) Q E s := by
  obtain ⟨o, ho, hc, n, hd⟩ := id ht
  unfold collect
  refine wpAny_bind (wpAny_runValue (codeAny_builtin PySem.F.entry_proto_collect ?_)); rw [Around.under_plainId PySem.F.plain_proto_collect _]
  show wpAny _ A.in1 (newList [] >>= fun z => again (.builtin "list.__iadd__" ⟨[z, .ref l], []⟩)) _ _ s
  refine wpAny_bind (wpAny_newList (wpAny_pure ⟨plainId_quiet PySem.F.plain_list_iadd _, codeAny_builtin PySem.F.entry_list_iadd ?_⟩)); rw [Around.under_plainId PySem.F.plain_list_iadd _]
  show wpAny _ _ (Builtin.List.listExtendWith (.ref s.heap.objs.size) (.ref l) (.ref s.heap.objs.size)) _ _ { s with heap := s.heap.push (seqObj "list" #[] 0) }
  unfold Builtin.List.listExtendWith
  have ho2 : (s.heap.push (seqObj "list" #[] 0)).get? l = some o := Heap.get?_push_of_some _ ho
  refine wpAny_bind (wpAny_typeOf (T := "tuple") ⟨o, ho2, hc⟩ ?_)
  have t1 : (Value.type "tuple" == Value.type "tuple") = true := by rfl
  rw [if_pos (by rw [t1]; simp)]
  refine wpAny_bind (listItems_at ho2 hd (wpAny_bind (listItems_at (xs := #[]) (n := 0) (Heap.get?_push_size _ rfl) rfl ?_)))
  rw [if_neg (by simp)]
  refine wpAny_bind (listUpdate_at (xs := #[]) (n := 0) (Heap.get?_push_size _ rfl) rfl (wpAny_pure ?_) (Nat.zero_le _) (by show (#[] ++ vs.toArray).size ≤ sizeLine + 1; simp only [Array.size_append, List.size_toArray, List.length_nil]; omega))
  show wpAny (model P w) A (load s.heap.objs.size >>= _) Q E { s with heap := (s.heap.push (seqObj "list" #[] 0)).update s.heap.objs.size (Obj.mapSeq (· ++ vs.toArray)) }
  refine wpAny_bind (wpAny_load (get?_update_seq (Heap.get?_push_size _ rfl) _) ?_)
  show wpAny _ _ (pure ((#[] : Array Value) ++ vs.toArray).toList) Q E _
  rw [show ((#[] : Array Value) ++ vs.toArray).toList = vs by simp]
  refine wpAny_pure (q _ fun b ob e => ?_)
  exact (Heap.get?_update_other _ _ (Nat.ne_of_gt (Heap.lt_size e))).trans (Heap.get?_push_of_some _ e)
end
end HS
namespace L2
open PySem PySem.Spec PyProof.Rows PySem.W HS
section
variable {X : Cx}
end
end L2
namespace HT
open PySem PyProof.Rows PySem.W
open PySem.AutoSeq1 (wpAny_loadPart')
/-! ### zip of two tuples, as a loop with a pair as its target walks it -/
section
variable {P : Program} {w : World} {B : Around} {E : Value → Shared → Prop} {s : Shared} {z TI TO i1 i2 l1 l2 : Addr} {k : Nat} {xs ys : Array Value} {x y a b : Value}
end
abbrev ti0 (t : Addr) : Obj := { cls := .type "tuple_iterator", data := .fields #[.ref t, .int 0 0] }
abbrev zt3 (h : Heap) (l1 l2 : Addr) : Heap := ((h.push (ti0 l1)).push (ti0 l2)).push { cls := .type "tuple", data := .seq #[.ref h.objs.size, .ref (h.push (ti0 l1)).objs.size] }
abbrev zt4 (h : Heap) (l1 l2 : Addr) : Heap := (zt3 h l1 l2).push { cls := .type "tuple", data := .seq #[.none, .none] }
abbrev zt5 (h : Heap) (l1 l2 : Addr) : Heap := (zt4 h l1 l2).push { cls := .type "zip", data := .fields #[.none, .bool false, .bool false, .ref ((h.push (ti0 l1)).push (ti0 l2)).objs.size, .ref (zt3 h l1 l2).objs.size] }
end HT
namespace L2
open PySem PySem.Spec PyProof.Rows PySem.W HT
def ItZ (K : Frag) (l1 l2 : Addr) : It :=
  ⟨fun i H => ∃ xs ys x y, SqT K H l1 xs ∧ SqT K H l2 ys ∧ xs[i]? = some x ∧ ys[i]? = some y,
   fun i H v H' => ∃ t x y, H t = none ∧ v = .ref t ∧ (∀ xs, SqT K H l1 xs → xs[i]? = some x) ∧ (∀ ys, SqT K H l2 ys → ys[i]? = some y) ∧ H' = upd H t (.tup [x, y]),
   fun i H => ∃ xs ys, SqT K H l1 xs ∧ SqT K H l2 ys ∧ (xs.length ≤ i ∨ ys.length ≤ i)⟩
section
variable {X : Cx}
def iZipT (K : Frag) (ta : TA) : TI := fun σ H R => ta σ H fun vs H1 => ∃ a b, vs = [.ref a, .ref b] ∧ (∃ xs, SqT K H1 a xs) ∧ (∃ ys, SqT K H1 b ys) ∧ R (ItZ K a b) H1
end
end L2
/-! ### a sort, asked at unlike places -/
namespace L2
open PySem PySem.W PySem.Calls PyProof.Rows
structure OrdD (n : Nat) (lt : Nat → Nat → Bool) : Prop where
  tr : ∀ i j k, i < n → j < n → k < n → lt i j = true → lt j k = true → lt i k = true
  tot : ∀ i j, i < n → j < n → i ≠ j → lt i j = false → lt j i = true
def GoodD {α : Type} (n : Nat) (lt : Nat → Nat → Bool) (φ : α → Prop) : KasT α → Prop
  | .ret a => φ a
  | .ask i j k => i < n ∧ j < n ∧ i ≠ j ∧ GoodD n lt φ (k (lt i j))
section
variable {α β : Type} {n : Nat} {lt : Nat → Nat → Bool}
theorem GoodD.bind {φ : α → Prop} {ψ : β → Prop} {f : α → KasT β} (g : ∀ a, φ a → GoodD n lt ψ (f a)) : ∀ {t : KasT α}, GoodD n lt φ t → GoodD n lt ψ (t.bind f)
  | .ret a, h => g a h
  | .ask _ _ _, h => ⟨h.1, h.2.1, h.2.2.1, GoodD.bind g h.2.2.2⟩
theorem GoodD.wp {φ : α → Prop} {cmp : Nat → Nat → (Bool → Shared → Prop) → Shared → Prop} {Q : α → Shared → Prop} {s : Shared} (hc : ∀ i j C, i < n → j < n → i ≠ j → C (lt i j) s → cmp i j C s) : ∀ {t : KasT α}, GoodD n lt φ t → (∀ a, φ a → Q a s) → t.kasWp cmp Q s
  | .ret a, h, q => q a h
  | .ask _ _ _, h, q => hc _ _ _ h.1 h.2.1 h.2.2.1 (GoodD.wp hc h.2.2.2 q)
theorem GoodD.mono {φ ψ : α → Prop} (g : ∀ a, φ a → ψ a) : ∀ {t : KasT α}, GoodD n lt φ t → GoodD n lt ψ t
  | .ret a, h => g a h
  | .ask _ _ _, h => ⟨h.1, h.2.1, h.2.2.1, GoodD.mono g h.2.2.2⟩
theorem flipD {p : Array Nat} (O : OrdD n lt) (h : Pm n p) {i j : Nat} (hi : i < n) (hj : j < n) (e : i ≠ j) (f : lt (p.getD i 0) (p.getD j 0) = false) : lt (p.getD j 0) (p.getD i 0) = true :=
  O.tot _ _ (h.lt (by omega) i) (h.lt (by omega) j) (h.ne hi hj e) f
theorem ascD_step {p : Array Nat} (O : OrdD n lt) (h : Pm n p) {m : Nat} (h1 : 1 ≤ m) (hm : m < n) (a : Asc lt p m) (l : lt (p.getD (m - 1) 0) (p.getD m 0) = true) : Asc lt p (m + 1) := fun i j hij hj => by
  by_cases e : j < m
  · exact a i j hij e
  · obtain rfl : j = m := by omega
    by_cases e2 : i = j - 1
    · rw [e2]; exact l
    · exact O.tr _ _ _ (h.lt (by omega) _) (h.lt (by omega) _) (h.lt (by omega) _) (a i (j - 1) (by omega) (by omega)) l
theorem dscD_step {p : Array Nat} (O : OrdD n lt) (h : Pm n p) {m : Nat} (h1 : 1 ≤ m) (hm : m < n) (a : Dsc lt p m) (l : lt (p.getD m 0) (p.getD (m - 1) 0) = true) : Dsc lt p (m + 1) := fun i j hij hj => by
  by_cases e : j < m
  · exact a i j hij e
  · obtain rfl : j = m := by omega
    by_cases e2 : i = j - 1
    · rw [e2]; exact l
    · exact O.tr _ _ _ (h.lt (by omega) _) (h.lt (by omega) _) (h.lt (by omega) _) l (a i (j - 1) (by omega) (by omega))
theorem ordD_asc {p : Array Nat} (O : OrdD n lt) (h : Pm n p) : ∀ (f m : Nat), 1 ≤ m → m + f ≤ n → Asc lt p m → GoodD n lt (fun r => m ≤ r ∧ r ≤ m + f ∧ Asc lt p r ∧ (r < m + f → lt (p.getD r 0) (p.getD (r - 1) 0) = true)) (kas_asc p f m)
  | 0, m, h1, h2, a => ⟨Nat.le_refl _, Nat.le_refl _, a, fun z => absurd z (by omega)⟩
  | f + 1, m, h1, h2, a => ⟨h.lt (by omega) _, h.lt (by omega) _, h.ne (by omega) (by omega) (by omega), by
    cases c : lt (p.getD m 0) (p.getD (m - 1) 0) with
    | true => exact ⟨Nat.le_refl _, by omega, a, fun _ => c⟩
    | false =>
      refine GoodD.mono (fun r hr => ?_) (ordD_asc O h f (m + 1) (by omega) (by omega) (ascD_step O h h1 (by omega) a (flipD O h (by omega) (by omega) (by omega) c)))
      exact ⟨by omega, by omega, hr.2.2.1, fun z => hr.2.2.2 (by omega)⟩⟩
theorem ordD_desc {p : Array Nat} (O : OrdD n lt) (h : Pm n p) : ∀ (f m : Nat), 1 ≤ m → m + f ≤ n → Dsc lt p m → GoodD n lt (fun r : Array Nat × Nat × Nat => r.1 = p ∧ r.2.2 = 0 ∧ m ≤ r.2.1 ∧ r.2.1 ≤ m + f ∧ Dsc lt p r.2.1) (kas_desc f p m 0)
  | 0, m, h1, h2, a => ⟨rfl, rfl, Nat.le_refl _, Nat.le_refl _, a⟩
  | f + 1, m, h1, h2, a => ⟨h.lt (by omega) _, h.lt (by omega) _, h.ne (by omega) (by omega) (by omega), by
    cases c : lt (p.getD m 0) (p.getD (m - 1) 0) with
    | true =>
      show GoodD n lt _ (if 0 > 0 then kas_desc f (kas_rev p (m - (0 + 1)) m) (m + 1) 0 else kas_desc f p (m + 1) 0)
      rw [if_neg (by omega)]
      refine GoodD.mono (fun r hr => ?_) (ordD_desc O h f (m + 1) (by omega) (by omega) (dscD_step O h h1 (by omega) a c))
      exact ⟨hr.1, hr.2.1, by omega, by omega, hr.2.2.2.2⟩
    | false =>
      refine ⟨h.lt (by omega) _, h.lt (by omega) _, h.ne (by omega) (by omega) (by omega), ?_⟩
      rw [flipD O h (by omega) (by omega) (by omega) c]
      exact ⟨rfl, rfl, Nat.le_refl _, Nat.le_add_right _ _, a⟩⟩
def RunD (n : Nat) (lt : Nat → Nat → Bool) (r : Nat × Array Nat) : Prop := Pm n r.2 ∧ Asc lt r.2 r.1 ∧ 1 ≤ r.1 ∧ r.1 ≤ n
theorem ordD_tail3 {p : Array Nat} (O : OrdD n lt) (h : Pm n p) {m : Nat} (h1 : 1 ≤ m) (h2 : m ≤ n) (a : Dsc lt p m) : GoodD n lt (RunD n lt) (kas_tail3 m n p) :=
  GoodD.bind (ψ := RunD n lt) (f := fun k => .ret (k, kas_rev p 0 m)) (fun r hr => (show RunD n lt (r, kas_rev p 0 m) from ⟨h.rev _ _, hr.2.2.1, Nat.le_trans h1 hr.1, by have := hr.2.1; show r ≤ n; omega⟩)) (ordD_asc O (h.rev 0 m) (n - m) m h1 (by omega) (a.rev (by rw [h.size]; exact h2)))
theorem ordD_count {p : Array Nat} (O : OrdD n lt) (hn : 2 ≤ n) (h : Pm n p) : GoodD n lt (RunD n lt) (kas_count n p) :=
  (ordD_asc O h (n - 1) 1 (Nat.le_refl _) (by omega) (fun i j hij hj => absurd hj (by omega))).bind fun m hm => by
    obtain ⟨m1, m2, ma, ml⟩ := hm
    show GoodD n lt _ (if (m == n) = true then _ else if m > 1 then _ else _)
    split
    · rename_i e
      have : m = n := by simpa using e
      subst this
      exact ⟨h, ma, m1, Nat.le_refl _⟩
    · rename_i e
      have ne : m ≠ n := by simpa using e
      split
      · rename_i g
        refine ⟨h.lt (by omega) _, h.lt (by omega) _, h.ne (by omega) (by omega) (by omega), ?_⟩
        rw [ma 0 (m - 1) (by omega) (by omega)]
        exact ⟨h, ma, m1, by omega⟩
      · obtain rfl : m = 1 := by omega
        have l := ml (by omega)
        have d2 : Dsc lt p 2 := fun i j hij hj => by
          obtain rfl : j = 1 := by omega
          obtain rfl : i = 0 := by omega
          exact l
        refine GoodD.bind (fun r hr => ?_) (ordD_desc O h (n - (1 + 1)) (1 + 1) (by omega) (by omega) d2)
        obtain ⟨r1, r2, r3, r4, r5⟩ := hr
        show GoodD n lt _ (if r.2.2 > 0 then _ else _)
        rw [if_neg (by omega), r1]
        exact ordD_tail3 O h (by omega) (by omega) r5
theorem ordD_place {p : Array Nat} (O : OrdD n lt) (h : Pm n p) {k : Nat} (hk : k < n) (a : Asc lt p k) : ∀ (f l r : Nat), r - l ≤ f → l ≤ r → r ≤ k → (∀ i, i < l → lt (p.getD i 0) (p.getD k 0) = true) → (∀ i, r ≤ i → i < k → lt (p.getD k 0) (p.getD i 0) = true) →
    GoodD n lt (fun m => m ≤ k ∧ (∀ i, i < m → lt (p.getD i 0) (p.getD k 0) = true) ∧ ∀ i, m ≤ i → i < k → lt (p.getD k 0) (p.getD i 0) = true) (kas_place p k f l r)
  | 0, l, r, hf, hl, hr, lo, hi => by
    obtain rfl : l = r := by omega
    exact ⟨hr, lo, hi⟩
  | f + 1, l, r, hf, hl, hr, lo, hi => by
    show GoodD n lt _ (if l ≥ r then _ else _)
    split
    · obtain rfl : l = r := by omega
      exact ⟨hr, lo, hi⟩
    · refine ⟨h.lt (by omega) _, h.lt (by omega) _, h.ne (by omega) (by omega) (by omega), ?_⟩
      cases c : lt (p.getD k 0) (p.getD ((l + r) / 2) 0) with
      | true =>
        refine ordD_place O h hk a f l ((l + r) / 2) (by omega) (by omega) (by omega) lo fun i hi1 hi2 => ?_
        by_cases e : i = (l + r) / 2
        · rw [e]; exact c
        · exact O.tr _ _ _ (h.lt (by omega) _) (h.lt (by omega) _) (h.lt (by omega) _) c (a _ i (by omega) hi2)
      | false =>
        have c2 := flipD O h (i := k) (j := (l + r) / 2) hk (by omega) (by omega) c
        refine ordD_place O h hk a f ((l + r) / 2 + 1) r (by omega) (by omega) hr (fun i hi1 => ?_) hi
        by_cases e : i = (l + r) / 2
        · rw [e]; exact c2
        · exact O.tr _ _ _ (h.lt (by omega) _) (h.lt (by omega) _) (h.lt (by omega) _) (a i _ (by omega) (by omega)) c2
theorem ordD_bin (O : OrdD n lt) : ∀ (f : Nat) (p : Array Nat) (k : Nat), k + f = n → Pm n p → Asc lt p k → GoodD n lt (fun r => Pm n r ∧ Asc lt r n) (kas_bin f p k)
  | 0, p, k, e, h, a => by
    obtain rfl : k = n := by omega
    exact ⟨h, a⟩
  | f + 1, p, k, e, h, a => (ordD_place O h (by omega) a k 0 k (by omega) (Nat.zero_le _) (Nat.le_refl _) (fun i hi => absurd hi (Nat.not_lt_zero _)) (fun i h1 h2 => absurd h2 (by omega))).bind fun l hl => by
    obtain ⟨l1, l2, l3⟩ := hl
    refine ordD_bin O f _ _ (by omega) (h.bub _ _) fun i j hij hj => ?_
    have hsz := h.size
    rw [getD_bub (by omega) l1 i, getD_bub (by omega) l1 j]
    by_cases i1 : i = l
    · rw [if_pos i1, if_neg (by omega), if_pos (by omega)]
      exact l3 _ (by omega) (by omega)
    · rw [if_neg i1]
      by_cases i2 : l < i ∧ i ≤ k
      · rw [if_pos i2, if_neg (by omega), if_pos (by omega)]
        exact a _ _ (by omega) (by omega)
      · rw [if_neg i2]
        by_cases j1 : j = l
        · rw [if_pos j1]; exact l2 i (by omega)
        · rw [if_neg j1]
          by_cases j2 : l < j ∧ j ≤ k
          · rw [if_pos j2]
            exact a _ _ (by omega) (by omega)
          · rw [if_neg j2]
            exact a _ _ hij (by omega)
theorem ordD_sort (O : OrdD n lt) (hn : 2 ≤ n) : GoodD n lt (fun r => Pm n r ∧ Asc lt r n) (kas_sort n) :=
  (ordD_count O hn (List.Perm.refl _)).bind fun r hr => by
    obtain ⟨r1, r2, r3, r4⟩ := hr
    show GoodD n lt _ (if r.1 < n then _ else _)
    split
    · refine ordD_bin O _ _ _ (by omega) r1 ?_
      rw [show max r.1 1 = r.1 by omega]; exact r2
    · obtain e : r.1 = n := by omega
      rw [e] at r2
      exact ⟨r1, r2⟩
end
end L2
/-! ### a sort of tuples that begin with texts, unlike in these -/
namespace L2
open PySem PySem.W PySem.Calls PyProof.Rows HS
def ltL : List Str → List Str → Bool
  | a :: as, b :: bs => if a = b then ltL as bs else ltS a b
  | _, _ => false
theorem ltL_tr : ∀ {a b c : List Str}, a.length = b.length → b.length = c.length → ltL a b = true → ltL b c = true → ltL a c = true
  | [], _, _, h1, _, h, _ => by unfold ltL at h; cases h
  | a :: as, [], _, h1, _, _, _ => by simp at h1
  | a :: as, b :: bs, [], _, h2, _, _ => by simp at h2
  | a :: as, b :: bs, c :: cs, h1, h2, h3, h4 => by
    unfold ltL at h3 h4 ⊢
    by_cases e1 : a = b
    · rw [if_pos e1] at h3
      subst e1
      by_cases e2 : a = c
      · rw [if_pos e2] at h4 ⊢; exact ltL_tr (by simpa using h1) (by simpa using h2) h3 h4
      · rw [if_neg e2] at h4 ⊢; exact h4
    · rw [if_neg e1] at h3
      by_cases e2 : b = c
      · subst e2
        rw [if_neg e1]; exact h3
      · rw [if_neg e2] at h4
        have t := ltS_tr h3 h4
        by_cases e3 : a = c
        · subst e3; rw [ltS_self] at t; cases t
        · rw [if_neg e3]; exact t
theorem ltL_tot : ∀ {a b : List Str}, a.length = b.length → a ≠ b → ltL a b = false → ltL b a = true
  | [], [], _, h, _ => absurd rfl h
  | [], b :: bs, h, _, _ => by simp at h
  | a :: as, [], h, _, _ => by simp at h
  | a :: as, b :: bs, h1, h2, h3 => by
    unfold ltL at h3 ⊢
    by_cases e : a = b
    · subst e
      rw [if_pos rfl] at h3 ⊢
      exact ltL_tot (by simpa using h1) (fun z => h2 (by rw [z])) h3
    · rw [if_neg e] at h3; rw [if_neg (Ne.symm e)]
      exact ltS_tot e h3
theorem ltL_one (a b : Str) : ltL [a] [b] = ltS a b := by
  unfold ltL
  by_cases e : a = b
  · rw [if_pos e, e, ltS_self]; rfl
  · rw [if_neg e]
section
variable {P : Program} {w : World} {A : Around} {E : Value → Shared → Prop} {s : Shared}
theorem oneLt_gen {a b : Str} {t u : Tok} {c : Bool} {Q : Bool → Shared → Prop} (h : Q (ltS a b) s) : wpAny (model P w) A (oneLt' c (.str a t) (.str b u)) Q E s := by
  cases c with
  | true => exact oneLt_str h
  | false =>
    rw [oneLt'_eq]
    simp only [Bool.false_eq_true, if_false]
    exact wpAny_bind (PyProof.Rows.lt_str (wpAny_truthy_bool h))
theorem lex_texts {b fin : Bool} {Q : Bool → Shared → Prop} : ∀ {as bs : List Str} {us vs : List Value} {ru rv : List Value} (i : Nat), StrsAre us as → StrsAre vs bs → as.length = bs.length → as ≠ bs → Q (ltL as bs) s → KatLex P w A b fin Q ((us ++ ru).zip (vs ++ rv)) i s
  | [], [], _, _, _, _, _, _, _, _, h, _ => absurd rfl h
  | [], _ :: _, _, _, _, _, _, _, _, h, _, _ => by simp at h
  | _ :: _, [], _, _, _, _, _, _, _, h, _, _ => by simp at h
  | a :: as, b' :: bs, _, _, ru, rv, i, .cons _ t h1, .cons _ u h2, hl, hne, q => by
    unfold ltL at q
    refine kat_cons (wpAny_eqBool_str ?_)
    by_cases e : a = b'
    · rw [decide_eq_true e]
      rw [if_pos e] at q
      exact kat_yes (lex_texts (i + 1) h1 h2 (by simpa using hl) (fun z => hne (by rw [e, z])) q)
    · rw [decide_eq_false e]
      rw [if_neg e] at q
      exact kat_no (oneLt_gen q)
end
/-- tuples that begin with texts -/
def KeyedV (H : Hp) (m : Nat) (vs : List V) (kvs : List (List Str × List V)) : Prop := Paired (fun y p => ∃ a, y = V.ref a ∧ H a = some (.tup (p.1.map V.str ++ p.2)) ∧ p.1.length = m) vs kvs
theorem KeyedV.same {H H' : Hp} {m : Nat} {vs : List V} {kvs : List (List Str × List V)} (h : KeyedV H m vs kvs) (s : Same H H') : KeyedV H' m vs kvs := Paired.imp' (fun _ _ ⟨a, e, q, l⟩ => ⟨a, e, s _ _ q, l⟩) h
theorem strs_split {H : Hp} : ∀ {ks : List Str} {rest : List V} {its : List Value}, Vals (ks.map V.str ++ rest) its → ∃ us ru, its = us ++ ru ∧ StrsAre us ks
  | [], rest, its, h => ⟨[], its, rfl, .nil⟩
  | k :: ks, rest, its, h => by
    cases h with
    | cons r t =>
      obtain ⟨tk, rfl⟩ := r
      obtain ⟨us, ru, e, st⟩ := strs_split (H := H) t
      exact ⟨.str k tk :: us, ru, by rw [e]; rfl, .cons k tk st⟩
section
variable {X : Cx}
theorem call_sortedG : CallR X (.builtin "sorted") (fun xs H Q => ∃ (p : Addr) (ys : List V) (kvs : List (List Str × List V)) (m : Nat), xs = [.ref p] ∧ (SqL X.K H p ys ∨ SqT X.K H p ys) ∧ KeyedV H m ys kvs ∧ 1 ≤ m ∧ (kvs.map (·.1)).Nodup ∧ ys.length ≤ 63 ∧
    ∀ D ys' kvs', H D = none → ys'.Perm ys → KeyedV H m ys' kvs' → kvs'.Perm kvs → (kvs'.map (·.1)).Pairwise (fun a b => ltL a b = true) → Q (.ref D) (upd H D (.lst ys'))) := by
  intro pins s σ H xs us Q I r ⟨p, ys, kvs, mm, ex, hq, pr, hm1, nd, h63, q⟩
  subst ex
  obtain ⟨u, rfl, rx⟩ := vals1 r
  cases rx
  obtain ⟨its, rv, hz, col⟩ : ∃ its : List Value, Vals ys its ∧ ys.length ≤ sizeLine ∧ ∀ (A : Around) (E : Value → Shared → Prop) (Q' : List Value → Shared → Prop), (∀ h', (∀ b o, s.heap.get? b = some o → h'.get? b = some o) → Q' its { s with heap := h' }) → wpAny (model X.prog X.w) A (collect (.ref p)) Q' E s := by
    rcases hq with hq | hq
    · obtain ⟨its, rv, pl, hz⟩ := I.list hq
      have := rv.length
      refine ⟨its, rv, hz, fun A E Q' q' => collect_list pl.isList (q' _ fun b o e => ?_) (by rw [sizeLine_eq]; omega)⟩
      exact (Heap.get?_update_other _ _ (Nat.ne_of_gt (Heap.lt_size e))).trans (Heap.get?_push_of_some _ e)
    · obtain ⟨its, rv, pl, hz⟩ := I.tuple hq
      have := rv.length
      exact ⟨its, rv, hz, fun A E Q' q' => collect_tup pl (by rw [sizeLine_eq]; omega) q'⟩
  have hl1 : ys.length = kvs.length := Paired.length pr
  have hl2 := rv.length
  have at_ : ∀ (i : Nat), i < its.length → ∃ (ks : List Str) (a : Addr) (tu ru : List Value), (kvs.map (·.1))[i]? = some ks ∧ its[i]? = some (.ref a) ∧ a ≠ X.env.locals ∧ IsTup s.heap a (tu ++ ru).toArray ∧ StrsAre tu ks ∧ ks.length = mm := by
    intro i hi
    have hi' : i < ys.length := by omega
    obtain ⟨p', hp', a, ey, ha, hlm⟩ := pair_at pr (show ys[i]? = some ys[i] from List.getElem?_eq_getElem hi')
    obtain ⟨u, hu, ru⟩ := rv.get (show ys[i]? = some (V.ref a) by rw [List.getElem?_eq_getElem hi', ey])
    cases ru
    obtain ⟨i2, r2, t2, _⟩ := I.tuple (SqT.of ha)
    obtain ⟨tu, ru, e, st⟩ := strs_split (H := H) r2
    rw [e] at t2
    exact ⟨p'.1, a, tu, ru, by rw [List.getElem?_map, hp']; rfl, hu, (fun z => by rw [z, I.free] at ha; cases ha), t2, st, hlm⟩
  obtain ⟨m, hm, _⟩ := id I.loc
  let lt : Nat → Nat → Bool := fun i j => ltL ((kvs.map (·.1)).getD i []) ((kvs.map (·.1)).getD j [])
  have kl : (kvs.map (·.1)).length = its.length := by rw [List.length_map]; omega
  have klen : ∀ i, i < its.length → ((kvs.map (·.1)).getD i []).length = mm := fun i hi => by
    obtain ⟨ks, _, _, _, h1, _, _, _, _, h2⟩ := at_ i hi
    rw [List.getD_eq_getElem?_getD, h1]; exact h2
  have kne : ∀ i j, i < its.length → j < its.length → i ≠ j → (kvs.map (·.1)).getD i [] ≠ (kvs.map (·.1)).getD j [] := fun i j hi hj hij e => hij ((List.getElem?_inj (by omega) nd).mp (by
    rw [List.getD_eq_getElem?_getD, List.getD_eq_getElem?_getD, List.getElem?_eq_getElem (by omega), List.getElem?_eq_getElem (by omega)] at e
    rw [List.getElem?_eq_getElem (by omega), List.getElem?_eq_getElem (by omega)]
    exact congrArg some e))
  have O : OrdD its.length lt := ⟨fun i j k hi hj hk h1 h2 => ltL_tr ((klen i hi).trans (klen j hj).symm) ((klen j hj).trans (klen k hk).symm) h1 h2, fun i j hi hj hij f => ltL_tot ((klen i hi).trans (klen j hj).symm) (kne i j hi hj hij) f⟩
  have fin : ∀ (h' : Heap) (D : Addr) (c : Nat) (pa : Array Nat), (∀ b o, b ≠ X.env.locals → s.heap.get? b = some o → h'.get? b = some o) → h'.Ns X.env.locals m → (∀ b o, s.heap.get? b = some o → b ≠ D) → Pm its.length pa → (pa.toList.Pairwise fun i j => lt i j = true) →
      h'.get? D = some (listOf (pa.toList.map fun i => its.getD i Value.none).toArray c) → ∃ v H', Inv X pins σ H' { s with heap := h' } ∧ RelV v (.ref D) ∧ Q v H' := by
    intro h' D c pa k hm' hD hp srt new
    have inb : ∀ i ∈ pa.toList, i < its.length := fun i hi => List.mem_range.mp (hp.mem_iff.mp hi)
    have py : (pa.toList.map fun i => ys.getD i V.non).Perm ys := pm_map V.non (by rw [hl2]; exact hp)
    have hpk : Pm kvs.length pa := by rw [← hl1, hl2]; exact hp
    have pk : (pa.toList.map fun i => kvs.getD i (([], []) : List Str × List V)).Perm kvs := pm_map _ hpk
    have pp : KeyedV H mm (pa.toList.map fun i => ys.getD i V.non) (pa.toList.map fun i => kvs.getD i ([], [])) := paired_map fun i hi => getD_pair pr V.non ([], []) i (by have := inb i hi; omega)
    have ek : (pa.toList.map fun i => kvs.getD i ([], [])).map (·.1) = pa.toList.map fun i => (kvs.map (·.1)).getD i [] := by
      rw [List.map_map]
      refine List.map_congr_left fun i hi => ?_
      have : i < kvs.length := by have := inb i hi; omega
      show (kvs.getD i ([], [])).1 = _
      rw [List.getD_eq_getElem?_getD, List.getD_eq_getElem?_getD, List.getElem?_map, List.getElem?_eq_getElem this]; rfl
    have rel : Vals (pa.toList.map fun i => ys.getD i V.non) (pa.toList.map fun i => its.getD i Value.none) := vals_maps (fun i => by
      by_cases hi : i < ys.length
      · obtain ⟨u, hu, ru⟩ := rv.get (show ys[i]? = some ys[i] from List.getElem?_eq_getElem hi)
        rw [List.getD_eq_getElem?_getD, List.getD_eq_getElem?_getD, hu, List.getElem?_eq_getElem hi]; exact ru
      · rw [List.getD_eq_getElem?_getD, List.getD_eq_getElem?_getD, List.getElem?_eq_none (by omega), List.getElem?_eq_none (by omega)]; trivial) pa.toList
    obtain ⟨hn, I'⟩ := Inv.sorted (t' := s.toks) I hm hm' k hD new rel (by rw [py.length_eq]; exact hz)
    refine ⟨.ref D, _, I', rfl, q D _ _ hn py pp pk ?_⟩
    rw [ek, List.pairwise_map]; exact srt
  refine Calls.call_function_entry kind_sorted plain_sorted entry_sorted (args_sorted1 _) ?_
  unfold Builtin.«sorted»
  refine wpAny_bind (m := checkCount "sorted" 1 1 _) (wpAny_pure (wpAny_bind (col _ _ _ fun h1 k1 => ?_)))
  refine wpAny_bind (wpAny_newList ?_ (by rw [sizeLine_eq]; omega))
  have at1 : (h1.push (seqObj "list" its.toArray 0)).get? h1.objs.size = some (seqObj "list" its.toArray 0) := Heap.get?_push_size _ rfl
  have hD : ∀ b o, s.heap.get? b = some o → b ≠ h1.objs.size := fun b o e => Nat.ne_of_lt (Heap.lt_size (k1 b o e))
  refine wpAny_bind (wpAny_holding (wpAny_call_entry slot_list_sort ⟨_, at1, rfl⟩ entry_list_sort ?_ (args_list_sort _)))
  have keep : ∀ b o, s.heap.get? b = some o → (h1.push (seqObj "list" its.toArray 0)).get? b = some o := fun b o e => Heap.get?_push_of_some _ (k1 b o e)
  by_cases h2 : its.length < 2
  · refine sort_idle at1 h2 fun c g kg new => ⟨_, rfl, wpAny_pure ⟨_, rfl, ?_⟩⟩
    refine fin g _ c (List.range its.length).toArray (fun b o _ e => kg b o (hD b o e) (keep b o e)) (hm.at' fun o e => kg _ o (hD _ o e) (keep _ o e)) hD (List.Perm.refl _) ?_ ?_
    · show (List.range its.length).Pairwise _
      have : its.length = 0 ∨ its.length = 1 := by omega
      rcases this with z | z <;> rw [z]
      · exact List.Pairwise.nil
      · exact List.pairwise_singleton _ _
    · have : (List.range its.length).map (fun i => its.getD i Value.none) = its := by
        apply List.ext_getElem
        · simp
        · intro i h1 h2; simp [List.getD, h2]
      show g.get? h1.objs.size = some (listOf ((List.range its.length).map fun i => its.getD i Value.none).toArray c)
      rw [this]; exact new
  · have h2 : 2 ≤ its.length := by omega
    obtain ⟨g0, hg0, hg1⟩ : ∃ g0 : Heap, g0.objs.size = 0 ∧ ∀ b, g0.get? b = none := ⟨{ s.heap with objs := #[] }, rfl, fun b => Heap.get?_none_of_le (Nat.zero_le _)⟩
    have F : Fr g0 X.env.locals s.heap m := ⟨hm, fun b o e => (by rw [hg1] at e; cases e), by rw [hg0]; exact Nat.zero_le _⟩
    have N := news_all (g := g0) (L := X.env.locals) (h := s.heap)
    have hLo : ∃ o, s.heap.get? X.env.locals = some o := let ⟨o, _, _, e, _⟩ := hm; ⟨o, e⟩
    obtain ⟨oL, eL⟩ := hLo
    refine kat_list_sort (s := { s with heap := h1.push (seqObj "list" its.toArray 0) }) (F.kept keep) (N.grown keep) at1 (Ne.symm (hD _ _ eL)) (hg1 _) (fun p hp => hD p.1 p.2 (of_mem_allNews hp).2.2) h2 (by omega) fun e1 h' F' N' => ?_
    have kp : ∀ b o, b ≠ X.env.locals → s.heap.get? b = some o → h'.get? b = some o := fun b o n e => (N' (b, o) (List.mem_cons_of_mem _ (mem_allNews n (hg1 b) e))).1
    have tk : ∀ {a : Addr} {zs : Array Value}, a ≠ X.env.locals → IsTup s.heap a zs → IsTup h' a zs := fun n ⟨o, ho, r⟩ => ⟨o, kp _ o n ho, r⟩
    have ft : ∀ (vs : List Value), (∀ v ∈ vs, ∃ a tu ru ks, v = Value.ref a ∧ IsTup h' a (tu ++ ru).toArray ∧ StrsAre tu ks ∧ ks.length = mm) → ∃ fs, fs.length = vs.length ∧ KatTups h' vs fs ∧ ∀ f ∈ fs, ∃ k t, f = Value.str k t := by
      intro vs
      induction vs with
      | nil => intro _; exact ⟨[], rfl, KatTups.nil, fun f hf => (by cases hf)⟩
      | cons v vs ih =>
        intro hv
        obtain ⟨fs, f1, f2, f3⟩ := ih fun v' h' => hv v' (List.mem_cons_of_mem _ h')
        obtain ⟨a, tu, ru, ks, rfl, ⟨o, ho, hc, n, hd⟩, st, hkm⟩ := hv v List.mem_cons_self
        cases st with
        | nil => simp at hkm; omega
        | cons k t r =>
          refine ⟨.str k t :: fs, by rw [List.length_cons, List.length_cons, f1], KatTups.cons ho hc hd (by simp) f2, fun f hf => ?_⟩
          rcases List.mem_cons.mp hf with z | z
          · exact ⟨k, t, z⟩
          · exact f3 f z
    obtain ⟨fs, hf1, hf2, hf3⟩ := ft its fun v hv => by
      obtain ⟨i, hi, rfl⟩ := List.getElem_of_mem hv
      obtain ⟨ks, a, tu, ru, _, g2, g3, g4, g5, g6⟩ := at_ i hi
      rw [List.getElem?_eq_getElem hi] at g2
      exact ⟨a, tu, ru, ks, Option.some.inj g2, tk g3 g4, g5, g6⟩
    refine kat_kind (T := .type "str") hf2 (by omega) (fun f hf => ?_) (by decide) ?_
    · obtain ⟨k, t, rfl⟩ := hf3 f hf
      exact Looks.of_pure rfl
    · refine (ordD_sort O h2).wp (fun i j C hi hj hij hC => ?_) fun pa hp => ?_
      · obtain ⟨k, a, tu, ru, g1, g2, g3, g4, g5, g6⟩ := at_ i hi
        obtain ⟨k', a', tu', ru', g1', g2', g3', g4', g5', g6'⟩ := at_ j hj
        unfold kas_ask
        rw [List.getD_eq_getElem?_getD, List.getD_eq_getElem?_getD, g2, g2']
        have ei : (kvs.map (·.1)).getD i [] = k := by rw [List.getD_eq_getElem?_getD, g1]; rfl
        have ej : (kvs.map (·.1)).getD j [] = k' := by rw [List.getD_eq_getElem?_getD, g1']; rfl
        have el : lt i j = ltL k k' := by show ltL ((kvs.map (·.1)).getD i []) ((kvs.map (·.1)).getD j []) = _; rw [ei, ej]
        have ne := kne i j hi hj hij
        rw [ei, ej] at ne
        rw [el] at hC
        obtain ⟨ox, hx, _, nx, dx⟩ := tk g3 g4
        obtain ⟨oy, hy, _, ny, dy⟩ := tk g3' g4'
        exact kat_lt hx dx hy dy (lex_texts 0 g5 g5' (g6.trans g6'.symm) ne hC)
      · refine KasFin.intro F' N' (UpdF.head fun p hp => ?_) fun h'' c F'' N'' => ?_
        · exact hD p.1 p.2 (of_mem_allNews hp).2.2
        · refine ⟨_, rfl, wpAny_pure ⟨_, rfl, ?_⟩⟩
          exact fin h'' _ c pa (fun b o n e => (N'' (b, o) (List.mem_cons_of_mem _ (mem_allNews n (hg1 b) e))).1) F''.ns hD hp.1 (asc_pw hp.1.size hp.2) (N'' _ List.mem_cons_self).1
end
end L2
/-! ### t.index(x), t a tuple of texts; max of a list of ints -/
namespace HS
open PySem PySem.Spec PyProof.Rows PySem.W
section
variable {P : Program} {w : World} {A : Around} {E : Value → Shared → Prop} {s : Shared}
theorem idx_loop {vs : List Value} {ys : List Str} {y : Str} {t : Tok} {j : Nat} {Q : Option PySem.Fin × Unit → Shared → Prop} (st : StrsAre vs ys) (hj : ys[j]? = some y) (hno : ∀ m, m < j → ys[m]? ≠ some y) (q : ∀ tk, Q (some (.done (.ret (.int j tk))), ()) { s with toks := s.toks + 1 }) :
    ∀ (k i : Nat), i ≤ j → j < i + k → wpAny (model P w) A (forIn (m := Sem) (List.range' i k) ((none, ()) : Option PySem.Fin × Unit) fun (i : Nat) __s => match vs.toArray[i]? with
            | some y' => do
              let b ← eqBool y' (.str y t)
              if b = true then do
                  let r ← retInt (i : Int)
                  pure (ForInStep.done (some r, ()))
                else pure (ForInStep.yield (none, ()))
            | _ => pure (ForInStep.yield (none, ()))) Q E s
  | 0, i, h1, h2 => absurd h2 (by omega)
  | k + 1, i, h1, h2 => by
    rw [List.range'_succ, List.forIn_cons]
    have hlen := strs_len st
    have hjl : j < ys.length := (List.getElem?_eq_some_iff.mp hj).1
    have hi : i < vs.length := by omega
    obtain ⟨tk, ev⟩ := L2.strs_at st i vs[i] (List.getElem?_eq_getElem hi)
    have hiy : i < ys.length := by omega
    have e1 : vs.toArray[i]? = some (.str ys[i] tk) := by
      rw [List.getElem?_toArray, List.getElem?_eq_getElem hi, ev]; simp [hiy]
    rw [e1]
    dsimp only
    refine wpAny_bind (wpAny_bind (wpAny_eqBool_str ?_))
    by_cases e : ys[i] = y
    · rw [decide_eq_true e, if_pos rfl]
      have : i = j := by
        by_cases z : i < j
        · exact absurd (by rw [List.getElem?_eq_getElem hiy, e]) (hno i z)
        · omega
      subst this
      refine wpAny_bind ?_; unfold retInt
      exact wpAny_bind (wpAny_mkInt (wpAny_pure (wpAny_pure (wpAny_pure (q _)))))
    · rw [decide_eq_false e, if_neg Bool.false_ne_true]
      refine wpAny_pure ?_
      refine idx_loop st hj hno q k (i + 1) ?_ (by omega)
      by_cases z : i = j
      · subst z
        rw [List.getElem?_eq_getElem hiy] at hj
        exact absurd (Option.some.inj hj) e
      · omega
theorem index_tup {l : Addr} {vs : List Value} {ys : List Str} {y : Str} {t : Tok} {j : Nat} {Q : Value → Shared → Prop} (ht : IsTup s.heap l vs.toArray) (st : StrsAre vs ys) (hj : ys[j]? = some y) (hno : ∀ m, m < j → ys[m]? ≠ some y) (q : ∀ tk, Q (.int j tk) { s with toks := s.toks + 1 }) :
    wpAny (model P w) A (call (.builtin "tuple.index") [.ref l, .str y t]) Q E s := by
  obtain ⟨o, ho, hc, n, hd⟩ := ht
  have hjl : j < ys.length := (List.getElem?_eq_some_iff.mp hj).1
  have hlen := strs_len st
  refine wpAny_call_entry PySem.F.slot_tuple_index ⟨o, ho, hc⟩ PySem.F.entry_tuple_index ?_ (PySem.F.args_tuple_index_2 _ _)
  unfold Builtin.«tuple.index»
  refine wpAny_bind (wpAny_pure ?_)
  dsimp only
  refine wpAny_bind ?_; unfold Builtin.Tuple.tupleItemsOf seqItems?
  refine wpAny_bind (wpAny_bind (wpAny_load ho ?_))
  rw [hd]
  refine wpAny_pure (wpAny_pure ?_)
  refine wpAny_bind (wpAny_pure (wpAny_bind (wpAny_pure ?_)))
  rw [Std.Legacy.Range.forIn_eq_forIn_range']
  refine wpAny_bind ?_
  have e2 : ([0:min vs.toArray.size vs.toArray.size] : Std.Legacy.Range).size = vs.length := by simp [Std.Legacy.Range.size]
  rw [e2]
  refine idx_loop st hj hno (fun tk => ?_) vs.length 0 (Nat.zero_le _) (by omega)
  exact wpAny_pure ⟨_, rfl, q tk⟩
end
end HS
namespace L2
open PySem PySem.Spec PyProof.Rows PySem.W HS
section
variable {X : Cx}
def rIndexT (K : Frag) : V → List V → Hp → VK → Prop := fun x vs H Q => ∃ (l : Addr) (ys : List Str) (y : Str) (j : Nat), x = .ref l ∧ vs = [.str y] ∧ SqT K H l (ys.map V.str) ∧ ys[j]? = some y ∧ (∀ m, m < j → ys[m]? ≠ some y) ∧ Q (.int j) H
theorem mt_indexT : MtM X "tuple.index" (rIndexT X.K) := by
  intro pins s σ H x vs v us Q I rx rv h
  obtain ⟨l, ys, y, j, rfl, rfl, hH, hj, hno, q⟩ := h
  cases rx
  obtain ⟨u, rfl, t, rfl⟩ := rv.one
  obtain ⟨its, r, pl, hz⟩ := I.tuple hH
  exact index_tup pl (strsAre_of r) hj hno fun tk => ⟨.int j, H, I.tok _, ⟨tk, rfl⟩, q⟩
theorem mt_indexT_K (K : Frag) (h : X.K = K) : MtM X "tuple.index" (rIndexT K) := by subst h; exact mt_indexT
theorem call_maxI (hc : X.calm = true) : CallR X (.builtin "max") (fun xs H Q => ∃ (p : Addr) (ns : List Int), xs = [.ref p] ∧ SqL X.K H p (ns.map V.int) ∧ ns ≠ [] ∧ ∀ m, m ∈ ns → (∀ a ∈ ns, a ≤ m) → Q (.int m) H) := by
  intro pins s σ H xs us Q I r ⟨p, ns, ex, hq, hne, q⟩
  subst ex
  obtain ⟨u, rfl, rx⟩ := vals1 r
  cases rx
  obtain ⟨its, rv, pl, hz⟩ := I.list hq
  have whole : IntsAre its ns := intsAre_of rv
  obtain ⟨zs, same⟩ := whole.allInts.items
  have all : ns = zs.toList.map (·.1) := by rw [← nums_intItems, ← same, whole.numsOf]
  have size : zs.size = ns.length := by rw [all]; simp
  have some_ : 0 < zs.size := by rw [size]; exact List.length_pos_iff.mpr hne
  refine max_intList (I.ok.hd hc) (same ▸ pl.isList) some_ fun v h' tk hv keep => ?_
  obtain ⟨t, rfl⟩ := intItems_at hv
  obtain ⟨le, best⟩ := argBest_gt (numAt zs) (zs.size - 1)
  refine ⟨.int _, H, I.kept (t' := tk) keep, ⟨t, rfl⟩, q _ (by rw [all, numAt_eq]; exact getD_mem (by rw [List.length_map, Array.length_toList]; exact Nat.lt_of_le_of_lt le (by omega))) fun m hm => ?_⟩
  rw [all] at hm
  obtain ⟨j, hj, rfl⟩ := mem_getD hm
  exact numAt_eq (xs := zs) j ▸ best j (by simp at hj; omega)
end
end L2
namespace L2
open PySem PySem.W PySem.Spec PyProof.Rows
section
variable {X : Cx}
theorem pe_bm_K (K : Frag) (hK : X.K = K) {o e : Expr} {es : List Expr} {to : TE} {t : TA} {name : Str} {apos cpos : Pos} {T id : String} {r : V → List V → Hp → VK → Prop} (pa : PlainAttrs T) (slot : Slot T name id) (hty : typeOf (.builtin id) = pure (.type "method_descriptor")) (hm : MtR X id r) (ho : PE X o to) (ha : PA X (e :: es) t)
    (hbase : attributeBase o name X.env (eval o X.env) = eval o X.env := by rfl)
    (hfew : ((backTo cpos (starEach (e :: es) X.env)).all (fun x => !x.1) && (backToKw cpos (keywordEach [] X.env)).all (fun x => x.1.isSome) && decide ((e :: es).length + ([] : List Keyword).length + (if ([] : List Keyword).isEmpty then 0 else 1) < 30)) = true := by rfl)
    (hline : (apos.endLine == cpos.line) = true := by rfl) (hs : starEach (e :: es) X.env = (false, eval e X.env) :: starEach es X.env := by rfl) (hplain : (backTo cpos (starEach es X.env)).any (·.1) = false := by rfl) :
    PE X (.Call (.Attribute o name apos) (e :: es) [] cpos) (tBM K T r to t) := by subst hK; exact pe_bm pa slot hty hm ho ha hbase hfew hline hs hplain
theorem call_listDR (hc : X.calm = true) : CallR X (.type "list") (fun xs H Q => ∃ d kvs, xs = [.ref d] ∧ Rd H d (.dK kvs) ∧ ∀ l, H l = none → Q (.ref l) (upd H l (.lst (kvs.map fun kv => kV kv.1)))) := by
  intro pins s σ H xs us Q I r h
  obtain ⟨d, kvs, rfl, hd, q⟩ := h
  obtain ⟨u, rfl, rx⟩ := vals1 r
  cases rx
  obtain ⟨hz, lo, vs, kv, dd⟩ := dk_rd I.hok hd
  obtain ⟨ep, da⟩ := dd.dictAt
  have hlen : kvs.length = vs.length := kv.length
  refine kdl_call (kdl_dict (kvs := vs) (ep := ep) lo) (I.ok.hd hc) da (by rw [← hlen]; exact hz) fun h' tk acc c kp e it => ?_
  refine ⟨.ref s.heap.objs.size, _, I.laid (t' := tk) kp (Nat.le_refl _) (show ObjOk X.prog X.w _ h' _ (.lst (kvs.map fun kv => kV kv.1)) from ⟨by rw [List.length_map]; exact hz, acc.toList, c, ?_, by rw [Array.toArray_toList]; exact e⟩), rfl, q _ (I.hok.fresh (Nat.le_refl _))⟩
  refine vals_at (by rw [List.length_map, Array.length_toList]; exact hlen.trans it.1.symm) fun i x v hx hv => ?_
  obtain ⟨k, y, hk, hi⟩ := it.2 i v (by rw [← Array.getElem?_toList]; exact hv)
  obtain ⟨kv', hkv, rfl⟩ := Option.map_eq_some_iff.mp (by rw [← List.getElem?_map]; exact hx)
  have e : kv'.1 = k := by
    clear it hx hv hlen da dd q hz hd
    induction kv generalizing i with
    | nil => simp at hkv
    | cons p _ ih =>
      cases i with
      | zero =>
        simp at hkv hk
        subst hkv
        rw [p.1, hk]
      | succ i => exact ih i (by simpa using hk) (by simpa using hkv)
  rw [e]
  exact key_rel hi
end
end L2
namespace L2
open PySem
/-! ### rows of names: the pure side -/
/-- the first wish, from the k-th row on, that another name stand ahead of n -/
def wishFrom (k : Nat) : List (List Str) → Str → Option (Nat × Str)
  | [], _ => none
  | [] :: rest, n => wishFrom (k + 1) rest n
  | (x :: r) :: rest, n => if n ∈ x :: r ∧ x ≠ n then some (k, x) else wishFrom (k + 1) rest n
theorem wishFrom_miss {k : Nat} {r : List Str} {rest : List (List Str)} {n : Str} (h : ¬ (n ∈ r ∧ r.head? ≠ some n)) : wishFrom k (r :: rest) n = wishFrom (k + 1) rest n := by
  cases r with
  | nil => rfl
  | cons x r => exact if_neg fun z => h ⟨z.1, by simpa using z.2⟩
theorem wishFrom_hit {k : Nat} {x : Str} {r : List Str} {rest : List (List Str)} {n : Str} (h : n ∈ x :: r ∧ x ≠ n) : wishFrom k ((x :: r) :: rest) n = some (k, x) := by
  exact if_pos h
/-- the earliest free head -/
def freeFrom (all : List (List Str)) : List (List Str) → Option Str
  | [] => none
  | [] :: rest => freeFrom all rest
  | (x :: _) :: rest => if (wishFrom 0 all x).isNone then some x else freeFrom all rest
def leastFree (rest : List (List Str)) : Option Str := freeFrom rest rest
def without (n : Str) (rest : List (List Str)) : List (List Str) := rest.map fun r => r.filter fun y => !decide (y = n)
def total (rest : List (List Str)) : Nat := (rest.map List.length).sum
def mergeG : Nat → List (List Str) → Option (List Str)
  | 0, _ => some []
  | k + 1, rest => if (rest.any fun r => !r.isEmpty) = true then (match leastFree rest with | none => none | some n => (mergeG k (without n rest)).map (n :: ·)) else some []
theorem freeFrom_head {all : List (List Str)} {n : Str} : ∀ {rest : List (List Str)}, freeFrom all rest = some n → ∃ r ∈ rest, r.head? = some n
  | [], h => by cases h
  | [] :: rest, h => let ⟨r, hr, e⟩ := freeFrom_head (rest := rest) h; ⟨r, List.mem_cons_of_mem _ hr, e⟩
  | (x :: t) :: rest, h => by
    have h : (if (wishFrom 0 all x).isNone then some x else freeFrom all rest) = some n := h
    split at h
    · cases h; exact ⟨n :: t, List.mem_cons_self, rfl⟩
    · obtain ⟨r, hr, e⟩ := freeFrom_head (rest := rest) h
      exact ⟨r, List.mem_cons_of_mem _ hr, e⟩
theorem total_without_le (n : Str) : ∀ rest : List (List Str), total (without n rest) ≤ total rest
  | [] => Nat.le_refl _
  | r :: rest => by
    have h1 := total_without_le n rest
    have h2 := List.length_filter_le (fun y => !decide (y = n)) r
    simp only [total, without, List.map_cons, List.sum_cons] at *
    omega
theorem total_without_lt {n : Str} : ∀ {rest : List (List Str)}, (∃ r ∈ rest, n ∈ r) → total (without n rest) < total rest
  | [], ⟨_, h, _⟩ => by simp at h
  | r :: rest, ⟨q, hq, hn⟩ => by
    have h1 := total_without_le n rest
    have h2 := List.length_filter_le (fun y => !decide (y = n)) r
    rcases List.mem_cons.mp hq with rfl | hq
    · have h3 : (q.filter fun y => !decide (y = n)).length < q.length := by
        exact List.length_filter_lt_length_iff_exists.mpr ⟨n, hn, by simp⟩
      simp only [total, without, List.map_cons, List.sum_cons] at *
      omega
    · have h3 := total_without_lt ⟨q, hq, hn⟩
      simp only [total, without, List.map_cons, List.sum_cons] at *
      omega
theorem le_total {r : List Str} : ∀ {rest : List (List Str)}, r ∈ rest → r.length ≤ total rest
  | [], h => by simp at h
  | q :: rest, h => by
    have e : total (q :: rest) = q.length + total rest := by simp [total]
    rcases List.mem_cons.mp h with rfl | h
    · omega
    · have := le_total h
      omega
theorem total_pos {rest : List (List Str)} (h : (rest.any fun r => !r.isEmpty) = true) : 0 < total rest := by
  obtain ⟨r, hr, e⟩ := List.any_eq_true.mp h
  have h1 : 0 < r.length := by cases r with
    | nil => simp at e
    | cons _ _ => simp
  have h2 : r.length ≤ total rest := le_total hr
  omega

/-! ### rows on the heap -/
def RowsV (H : Hp) (vs : List V) (rows : List (List Str)) : Prop := Paired (fun y r => ∃ a, y = V.ref a ∧ H a = some (.tup (r.map V.str))) vs rows
theorem RowsV.same {H H' : Hp} {vs : List V} {rows : List (List Str)} (h : RowsV H vs rows) (s : Same H H') : RowsV H' vs rows := Paired.imp' (fun _ _ ⟨a, e, q⟩ => ⟨a, e, s _ _ q⟩) h
theorem RowsV.length {H : Hp} {vs : List V} {rows : List (List Str)} (h : RowsV H vs rows) : vs.length = rows.length := Paired.length h
theorem RowsV.get {H : Hp} : ∀ {vs : List V} {rows : List (List Str)} {i : Nat} {v : V}, RowsV H vs rows → vs[i]? = some v → ∃ a r, v = V.ref a ∧ rows[i]? = some r ∧ H a = some (.tup (r.map V.str))
  | _, _, i, v, .nil, e => by simp at e
  | _, _, 0, v, .cons p _, e => by
    obtain ⟨a, rfl, q⟩ := p
    simp at e; subst e
    exact ⟨a, _, rfl, rfl, q⟩
  | _, _, i + 1, v, .cons _ t, e => by
    obtain ⟨a, r, e1, e2, q⟩ := RowsV.get (i := i) t (by simpa using e)
    exact ⟨a, r, e1, by simpa using e2, q⟩
theorem RowsV.append {H : Hp} {vs : List V} {rows : List (List Str)} {a : Addr} {r : List Str} : RowsV H vs rows → H a = some (.tup (r.map V.str)) → RowsV H (vs ++ [.ref a]) (rows ++ [r])
  | .nil, q => .cons ⟨a, rfl, q⟩ .nil
  | .cons p t, q => .cons p (RowsV.append t q)
end L2
namespace K29
open PySem L2 PySem.W
def top (i : Nat) : Stmt := PySem.Challenge.pw_parentlines_k29_whole_a_forebear_named_l.main.body.getD i (.Pass ⟨0, 0, 0, 0⟩)
abbrev sRing : Stmt := inClass (top 4) 0
abbrev sIsName : Stmt := top 7
abbrev sMerged : Stmt := top 9
abbrev sLeast : Stmt := top 10
abbrev sWish : Stmt := top 11
abbrev sRingW : Stmt := top 12
abbrev sIsRow : Stmt := top 13
abbrev sIsKind : Stmt := top 16
abbrev sAreP : Stmt := top 17
abbrev sCheckK : Stmt := top 18
abbrev sLines : Stmt := top 19
abbrev sLineFrom : Stmt := top 20
abbrev sLineOf : Stmt := top 21
abbrev sWay : Stmt := top 22
abbrev sChanged : Stmt := top 24
abbrev sCheckP : Stmt := top 25
abbrev sWith : Stmt := top 26
abbrev sWithout : Stmt := top 27
abbrev sPot : Stmt := top 29
abbrev sDigit : Stmt := top 30
abbrev sNames : Stmt := top 31
abbrev sLMerged : Stmt := top 32
abbrev sLLine : Stmt := top 33
abbrev sLParents : Stmt := top 34
abbrev sLFamily : Stmt := top 35
abbrev sLIsRow : Stmt := top 36
abbrev sBehind : Stmt := top 37
abbrev sLast : Stmt := top 38
abbrev sOneP : Stmt := top 39
abbrev sLaw : Stmt := top 40
structure Blt (mg : Str → Option Value) : Prop where
  len : mg "len" = none
  max : mg "max" = none
  min : mg "min" = none
  abs : mg "abs" = none
  range : mg "range" = none
  any : mg "any" = none
  all : mg "all" = none
  list : mg "list" = none
  tuple : mg "tuple" = none
  enu : mg "enumerate" = none
theorem at0 {y : Str} {r : List Str} : atI ((y :: r).map V.str) 0 = some (V.str y) := (show atI ((y :: r).map V.str) ((0 : Nat) : Int) = some (V.str y) from atI_nat rfl)
theorem same_new {H : Hp} {q : Addr} {o : HO} (hq : H q = none) : Same H (upd H q o) := fun b u e => by rw [upd_ne (ne_of_none e hq)]; exact e
theorem for_enum {K : Frag} {a : Addr} {xs : List V} {g : TG} {tb : TS} {D : Ends} {σ : St} {H : Hp} (Pv : Nat → St → Hp → Prop) (h0 : Pv 0 σ H) (hl : ∀ i σ H, i ≤ xs.length → Pv i σ H → SqL K H a xs)
    (hs : ∀ i x σ H t, xs[i]? = some x → Pv i σ H → H t = none → g (.ref t) σ (upd H t (.tup [.int i, x])) fun σ2 H2 => tb { D with nx := Pv (i + 1), ct := Pv (i + 1), bk := D.nx } σ2 H2) (hd : ∀ σ H, Pv xs.length σ H → D.nx σ H) :
    ∃ W : Nat → Nat → St → Hp → Prop, (∃ m, W 0 m σ H) ∧ ∀ i m σ H, W i m σ H →
      ((Ite K a).stop i H ∧ D.nx σ H) ∨ ((Ite K a).go i H ∧ ∃ N : St → Hp → Prop, (∀ σ' H', N σ' H' → ∃ m', m' < m ∧ W (i + 1) m' σ' H') ∧ ∀ x H', (Ite K a).yld i H x H' → g x σ H' fun σ2 H2 => tb { D with nx := N, ct := N, bk := D.nx } σ2 H2) := by
  refine ⟨fun i m σ H => m = xs.length - i ∧ i ≤ xs.length ∧ Pv i σ H, ⟨xs.length, by simp, Nat.zero_le _, h0⟩, ?_⟩
  rintro i m σ H ⟨rfl, hi, p⟩
  have q := hl i σ H hi p
  by_cases hlt : i < xs.length
  · refine .inr ⟨⟨xs, xs[i], q, by simp [hlt]⟩, Pv (i + 1), fun σ' H' p' => ⟨xs.length - (i + 1), by omega, rfl, hlt, p'⟩, fun x H' y => ?_⟩
    obtain ⟨t, v, ht, rfl, hv, rfl⟩ := y
    exact hs i v σ _ t (hv xs q) p ht
  · have e : i = xs.length := by omega
    subst e
    exact .inl ⟨⟨xs, q, Nat.le_refl _⟩, hd σ H p⟩
section
variable {P : Program} {w : World} {K : Frag} {mg : Str → Option Value} {base : Heap} {f : Addr} {fd : FuncData}
@[irreducible] def spWish : Sp := fun vs H Q _ => ∃ (l : Addr) (ws : List V) (rows : List (List Str)) (n : Str), vs = [.ref l, .str n] ∧ H l = some (.lst ws) ∧ RowsV H ws rows ∧
  (wishFrom 0 rows n = none → ∀ H', Same H H' → Q .non H') ∧ (∀ i x, wishFrom 0 rows n = some (i, x) → ∀ p H', H p = none → Same H H' → H' p = some (.tup [.int i, .str x, .str n]) → Q (.ref p) H')
theorem scWish : FnScope ["rest", "name", "at", "row"] ["rest", "name"] (defScope sWish) := ⟨rfl, rfl, rfl, by decide +kernel, rfl, by decide +kernel, by decide +kernel⟩
theorem ok_wish (F : Fun K "wish_against" "wish_against" sWish f fd) (B : Blt mg) : FnOk P w K mg base CX0 1 f fd ["rest", "name"] spWish := by
  refine F.ok scWish (fun vs H Q E h => ?_) (fun cdv A outer s H vs Q E hr h => ?_)
  · unfold spWish at h; obtain ⟨l, ws, rows, n, rfl, _⟩ := h; rfl
  · unfold spWish at h
    obtain ⟨l, ws, rows, n, rfl, hl, hR, qn, qs⟩ := h
    refine ⟨_, pss_cons (ps_for PassesOwn.never rfl (pi_enum rfl B.enu (pa_cons (pv 0) pa_nil)) (pg_tup rfl (pgs_cons (pg_name (i := 2) scWish.nd rfl (Or.inl rfl)) (pgs_cons (pg_name (i := 3) scWish.nd rfl (Or.inl rfl)) pgs_nil)))
        (pss_one (ps_if (PW.pt (pw_and (pt_cmpR op_in_seq (pv 1) (pv 3) rfl) (pw_and1 (pt_cmpR op_ne (pe_ix ix_tup (pv 3) pe_int (fun _ _ => rfl)) (pv 1) (nomark _)))))
          (pss_one (ps_ret (pe_tup (pa_cons (pv 2) (pa_cons (pe_ix ix_tup (pv 3) pe_int (fun _ _ => rfl)) (pa_cons (pv 1) pa_nil)))))) pss_nil)))
      (pss_one (ps_ret pe_non)), ?_⟩
    refine ⟨_, rfl, l, rfl, ⟨_, SqL.of hl⟩, for_enum (xs := ws) (fun i σ H1 => ∃ v2 v3 : Option V, σ = [some (.ref l), some (.str n), v2, v3] ∧ Same H H1 ∧ wishFrom i (rows.drop i) n = wishFrom 0 rows n) ⟨none, none, rfl, Same.refl _, by simp⟩ (fun i σ H1 _ ⟨_, _, _, z, _⟩ => SqL.of (z _ _ hl)) ?_ ?_⟩
    · rintro i x σ H1 t hx ⟨v2, v3, rfl, S1, hw⟩ ht
      obtain ⟨a, r, rfl, hri, har⟩ := hR.get hx
      have S2 : Same H (upd H1 t (.tup [.int i, .ref a])) := S1.trans (same_new ht)
      have ha2 := S2 _ _ har
      have hdr : rows.drop i = r :: rows.drop (i + 1) := by
        have hi := (List.getElem?_eq_some_iff.mp hri)
        obtain ⟨hi1, rfl⟩ := hi
        exact List.drop_eq_getElem_cons hi1
      rw [hdr] at hw
      refine ⟨t, _, rfl, SqT.of upd_same, rfl, _, _, rfl, _, _, rfl, rfl, ?_⟩
      refine ⟨_, rfl, _, rfl, a, _, rfl, .inr (SqT.of ha2), rfl, flat_strs _, _, rfl, ?_⟩
      rw [if_neg Bool.false_ne_true, inV_strs]
      refine ite2 (fun hin => ?_) (fun hin => ?_)
      · have hin' : n ∈ r := by simpa using hin
        cases r with
        | nil => simp at hin'
        | cons y r =>
          refine ⟨_, rfl, a, _, 0, .str y, rfl, rfl, SqT.of ha2, at0, _, rfl, rfl, _, rfl, ?_⟩
          refine ite2 (fun hne => ?_) (fun hne => ?_)
          · have hne' : y ≠ n := fun z => by subst z; simp at hne
            refine ⟨_, rfl, _, rfl, a, _, 0, .str y, rfl, rfl, SqT.of ha2, at0, _, rfl, by show 3 ≤ sizeLine; rw [sizeLine_eq]; decide, fun p hp => ?_⟩
            rw [wishFrom_hit ⟨hin', hne'⟩] at hw
            exact qs i y hw.symm p _ (S2.free hp) (S2.trans (same_new hp)) upd_same
          · have hy : y = n := by
              by_cases z : y = n
              · exact z
              · exact absurd (by simp [z]) hne
            refine ⟨_, _, rfl, S2, ?_⟩
            rw [← hw, wishFrom_miss fun z => z.2 (by rw [hy]; rfl)]
      · refine ⟨_, _, rfl, S2, ?_⟩
        rw [← hw, wishFrom_miss fun z => hin (by simpa using z.1)]
    · rintro σ H1 ⟨v2, v3, rfl, S1, hw⟩
      rw [hR.length, List.drop_length] at hw
      exact qn hw.symm H1 S1
theorem wish_sp {l : Addr} {ws : List V} {rows : List (List Str)} {n : Str} {H : Hp} {Q : VK} {E : XK} (hl : H l = some (.lst ws)) (hR : RowsV H ws rows) (qn : wishFrom 0 rows n = none → ∀ H', Same H H' → Q .non H')
    (qs : ∀ i x, wishFrom 0 rows n = some (i, x) → ∀ p H', H p = none → Same H H' → H' p = some (.tup [.int i, .str x, .str n]) → Q (.ref p) H') : spWish [.ref l, .str n] H Q E := by
  unfold spWish; exact ⟨l, ws, rows, n, rfl, hl, hR, qn, qs⟩
end
end K29
namespace K29
open PySem L2 PySem.W
section
variable {P : Program} {w : World} {K : Frag} {mg : Str → Option Value} {base : Heap} {f : Addr} {fd : FuncData}
def optV : Option Str → V
  | none => .non
  | some n => .str n
@[irreducible] def spLeast : Sp := fun vs H Q _ => ∃ (l : Addr) (ws : List V) (rows : List (List Str)), vs = [.ref l] ∧ H l = some (.lst ws) ∧ RowsV H ws rows ∧ ∀ H', Same H H' → Q (optV (leastFree rows)) H'
theorem scLeast : FnScope ["rest", "row"] ["rest"] (defScope sLeast) := ⟨rfl, rfl, rfl, by decide +kernel, rfl, by decide +kernel, by decide +kernel⟩
theorem ok_least {fW : Addr} {fdW : FuncData} (F : Fun K "least_free" "least_free" sLeast f fd) (B : Blt mg) (FW : Fun K "wish_against" "wish_against" sWish fW fdW) (bW : Binds K fdW ["rest", "name"] []) (mW : mg "wish_against" = some (.ref fW)) :
    FnOk P w K mg base CX0 2 f fd ["rest"] spLeast := by
  have GW : FnOk P w K mg base CX0 1 fW fdW ["rest", "name"] spWish := ok_wish FW B
  refine F.ok scLeast (fun vs H Q E h => ?_) (fun cdv A outer s H vs Q E hr h => ?_)
  · unfold spLeast at h; obtain ⟨l, ws, rows, rfl, _⟩ := h; rfl
  · unfold spLeast at h
    obtain ⟨l, ws, rows, rfl, hl, hR, q⟩ := h
    have hr1 : Room 1 _ := hr
    refine ⟨_, pss_cons (ps_for PassesOwn.never rfl (pi_list (pv 0)) (pg_name (i := 1) scLeast.nd rfl (Or.inl rfl))
        (pss_one (ps_if (PW.pt (pw_and (pt_truth (pv 1) (fun _ => rfl)) (pw_and1 (pt_cmpR op_isN (pe_call GW hr1 rfl mW FW.kp bW .nil pass0 (pa_cons (pv 0) (pa_cons (pe_ix ix_tup (pv 1) pe_int (fun _ _ => rfl)) pa_nil))) pe_non (nomark _)))))
          (pss_one (ps_ret (pe_ix ix_tup (pv 1) pe_int (fun _ _ => rfl)))) pss_nil)))
      (pss_one (ps_ret pe_non)), ?_⟩
    refine ⟨_, rfl, l, rfl, ⟨_, SqL.of hl⟩, for_list (xs := ws) (fun i σ H1 => ∃ v1 : Option V, σ = [some (.ref l), v1] ∧ Same H H1 ∧ freeFrom rows (rows.drop i) = leastFree rows) ⟨none, rfl, Same.refl _, by simp [leastFree]⟩ (fun i σ H1 _ ⟨_, _, z, _⟩ => SqL.of (z _ _ hl)) ?_ ?_⟩
    · rintro i x σ H1 hx ⟨v1, rfl, S1, hw⟩
      obtain ⟨a, r, rfl, hri, har⟩ := hR.get hx
      have ha1 := S1 _ _ har
      have hdr : rows.drop i = r :: rows.drop (i + 1) := by
        obtain ⟨hi1, rfl⟩ := List.getElem?_eq_some_iff.mp hri
        exact List.drop_eq_getElem_cons hi1
      rw [hdr] at hw
      refine ⟨_, rfl, !(r.map V.str).isEmpty, .inr (.inl ⟨_, SqT.of ha1, rfl⟩), ?_⟩
      cases r with
      | nil => exact ⟨_, rfl, S1, hw⟩
      | cons y r =>
        have hw : (if (wishFrom 0 rows y).isNone then some y else freeFrom rows (rows.drop (i + 1))) = leastFree rows := hw
        refine ⟨_, rfl, _, rfl, a, _, 0, .str y, rfl, rfl, SqT.of ha1, at0, ?_⟩
        refine wish_sp (S1 _ _ hl) (hR.same S1) (fun en H2 S2 => ?_) (fun j z es p H2 hp S2 h2 => ?_)
        · refine ⟨rfl, _, rfl, ?_⟩
          refine ⟨_, rfl, a, _, 0, .str y, rfl, rfl, SqT.of (S2 _ _ ha1), at0, ?_⟩
          rw [en] at hw
          have e : leastFree rows = some y := hw.symm
          have := q H2 (S1.trans S2)
          rw [e] at this
          exact this
        · refine ⟨rfl, _, rfl, ?_⟩
          rw [es] at hw
          exact ⟨_, rfl, S1.trans S2, hw⟩
    · rintro σ H1 ⟨v1, rfl, S1, hw⟩
      rw [hR.length, List.drop_length] at hw
      have e : leastFree rows = none := hw.symm
      have := q H1 S1
      rw [e] at this
      exact this
theorem least_sp {l : Addr} {ws : List V} {rows : List (List Str)} {H : Hp} {Q : VK} {E : XK} (hl : H l = some (.lst ws)) (hR : RowsV H ws rows) (q : ∀ H', Same H H' → Q (optV (leastFree rows)) H') : spLeast [.ref l] H Q E := by
  unfold spLeast; exact ⟨l, ws, rows, rfl, hl, hR, q⟩
end
end K29
namespace K29
open PySem L2 PySem.W
/-- a wish on the heap -/
def WishV (H : Hp) (v : V) : Prop := ∃ (a : Addr) (i : Nat) (x n : Str), v = .ref a ∧ H a = some (.tup [.int i, .str x, .str n]) ∧ i < 10 ∧ Nm x ∧ Nm n
theorem WishV.same {H H' : Hp} {v : V} (h : WishV H v) (s : Same H H') : WishV H' v := let ⟨a, i, x, n, e, q, r⟩ := h; ⟨a, i, x, n, e, s _ _ q, r⟩
/-- the names that head a row -/
def heads (rows : List (List Str)) : List Str := rows.filterMap List.head?
theorem mem_heads {rows : List (List Str)} {n : Str} : n ∈ heads rows ↔ ∃ r ∈ rows, r.head? = some n := by
  unfold heads; rw [List.mem_filterMap]
theorem freeFrom_none {all : List (List Str)} : ∀ {rest : List (List Str)}, freeFrom all rest = none → ∀ n ∈ heads rest, wishFrom 0 all n ≠ none
  | [], _, n, hn => by simp [heads] at hn
  | [] :: rest, h, n, hn => freeFrom_none (rest := rest) h n hn
  | (y :: r) :: rest, h, n, hn => by
    have h : (if (wishFrom 0 all y).isNone then some y else freeFrom all rest) = none := h
    split at h
    · cases h
    next hy =>
      have hn : n ∈ y :: heads rest := hn
      rcases List.mem_cons.mp hn with rfl | hn
      · intro z; rw [z] at hy; exact hy rfl
      · exact freeFrom_none h n hn
end K29
namespace K29
open PySem L2 PySem.W
def forBody (s : Stmt) : List Stmt := match s with | .For _ _ b _ _ => b | _ => []
def whileBody (s : Stmt) : List Stmt := match s with | .While _ b _ _ => b | _ => []
def bodyAt (l : List Stmt) (i : Nat) : Stmt := l.getD i (.Pass ⟨0, 0, 0, 0⟩)
def asgV (s : Stmt) : Expr := match s with | .Assign _ v _ => v | _ => .Constant .none 0 ⟨0, 0, 0, 0⟩
def retV (s : Stmt) : Expr := match s with | .Return (some v) _ => v | _ => .Constant .none 0 ⟨0, 0, 0, 0⟩
def arg0 (e : Expr) : Expr := match e with | .Call _ (a :: _) _ _ => a | _ => .Constant .none 0 ⟨0, 0, 0, 0⟩
def subV (e : Expr) : Expr := match e with | .Subscript a _ _ => a | _ => .Constant .none 0 ⟨0, 0, 0, 0⟩
def eltOf (e : Expr) : Expr := match e with | .ListComp x _ _ _ => x | _ => .Constant .none 0 ⟨0, 0, 0, 0⟩
def compSc (e : Expr) : Scope := match e with | .ListComp _ _ sc _ => sc | _ => { kind := .function, names := [], isGenerator := false, isCoroutine := false }
theorem boot_tuple : bootBuiltins "tuple" = some (.type "tuple") := by decide +kernel
theorem boot_list : bootBuiltins "list" = some (.type "list") := by decide +kernel
section
variable {P : Program} {w : World} {K : Frag} {mg : Str → Option Value} {base : Heap} {f : Addr} {fd : FuncData}
/-- small rows of names -/
structure Small (rows : List (List Str)) : Prop where
  few : rows.length ≤ 10
  short : ∀ r ∈ rows, r.length ≤ 20
  nm : ∀ r ∈ rows, ∀ n ∈ r, Nm n
theorem Small.head {rows : List (List Str)} (S : Small rows) {n : Str} (h : n ∈ heads rows) : Nm n := by
  obtain ⟨r, hr, e⟩ := mem_heads.mp h
  exact S.nm r hr n (List.mem_of_head? e)
@[irreducible] def spRingW : Sp := fun vs H Q _ => ∃ (l : Addr) (ws : List V) (rows : List (List Str)), vs = [.ref l] ∧ H l = some (.lst ws) ∧ RowsV H ws rows ∧ Small rows ∧ leastFree rows = none ∧ (rows.any fun r => !r.isEmpty) = true ∧
  ∀ p H', Same H H' → FmtOk H' (.ref p) → Q (.ref p) H'
abbrev nRingW : List Str := ["rest", "name", "passed", "wishes", "wish", "around"]
abbrev scR1 : Scope := compSc (subV (asgV (bodyAt (defBody sRingW) 0)))
/-- the walk's word -/
structure RingInv (H : Hp) (rows : List (List Str)) (l pa wa : Addr) (m : Nat) (σ : St) (H1 : Hp) (nm : Str) (ps : List Str) (wv : List V) : Prop where
  st : ∃ v4 : Option V, σ = [some (.ref l), some (.str nm), some (.ref pa), some (.ref wa), v4, none]
  mm : m = rows.length - ps.length
  hn : nm ∈ heads rows
  hp : ∀ n ∈ ps, n ∈ heads rows
  nd : ps.Nodup
  pa : H1 pa = some (.lst (ps.map V.str))
  wa : H1 wa = some (.lst wv)
  ln : wv.length = ps.length
  wv : ∀ v ∈ wv, WishV H1 v
  sm : Same H H1
theorem few_of {ps hs : List Str} (nd : ps.Nodup) (h : ∀ n ∈ ps, n ∈ hs) : ps.length ≤ hs.length := by
  by_cases z : ps.length ≤ hs.length
  · exact z
  · obtain ⟨y, hy, hn⟩ := pigeon (found := hs) nd (by omega)
    exact absurd (h y hy) hn
end
end K29
namespace K29
open PySem L2 PySem.W
/-! ### pure: fuel -/
theorem total_zero {rest : List (List Str)} (h : total rest = 0) : (rest.any fun r => !r.isEmpty) = false := by
  cases e : rest.any fun r => !r.isEmpty with
  | false => rfl
  | true => have := total_pos e; omega
theorem least_mem {rest : List (List Str)} {n : Str} (h : leastFree rest = some n) : ∃ r ∈ rest, n ∈ r := by
  obtain ⟨r, hr, e⟩ := freeFrom_head h
  exact ⟨r, hr, List.mem_of_head? e⟩
theorem merge_fuel : ∀ (k : Nat) (r : List (List Str)), total r ≤ k → ∀ j, total r ≤ j → mergeG k r = mergeG j r
  | 0, r, h, j, _ => by
    have z := total_zero (show total r = 0 by omega)
    cases j with
    | zero => rfl
    | succ j => unfold mergeG; rw [if_neg (by rw [z]; exact Bool.false_ne_true)]
  | k + 1, r, h, 0, hj => by
    have z := total_zero (show total r = 0 by omega)
    unfold mergeG; rw [if_neg (by rw [z]; exact Bool.false_ne_true)]
  | k + 1, r, h, j + 1, hj => by
    unfold mergeG
    split
    · cases e : leastFree r with
      | none => rfl
      | some n =>
        have := total_without_lt (least_mem e)
        show Option.map _ _ = Option.map _ _
        rw [merge_fuel k (without n r) (by omega) j (by omega)]
    · rfl
theorem merge_stop {r : List (List Str)} (h : (r.any fun r => !r.isEmpty) = false) : mergeG (total r) r = some [] := by
  cases total r with
  | zero => rfl
  | succ k => unfold mergeG; rw [if_neg (by rw [h]; exact Bool.false_ne_true)]
theorem merge_none {r : List (List Str)} (h : (r.any fun r => !r.isEmpty) = true) (e : leastFree r = none) : mergeG (total r) r = none := by
  have := total_pos h
  cases q : total r with
  | zero => omega
  | succ k => unfold mergeG; rw [if_pos h, e]
theorem merge_some {r : List (List Str)} {n : Str} (h : (r.any fun r => !r.isEmpty) = true) (e : leastFree r = some n) : mergeG (total r) r = (mergeG (total (without n r)) (without n r)).map (n :: ·) := by
  have := total_without_lt (least_mem e)
  cases q : total r with
  | zero => omega
  | succ k =>
    show (if (r.any fun r => !r.isEmpty) = true then _ else _) = _
    rw [if_pos h, e]
    show Option.map _ _ = _
    rw [merge_fuel k (without n r) (by omega) _ (Nat.le_refl _)]
/-! ### a block within a block -/
theorem relabel_cell {env : Env} : ∀ {names : List (Str × NameKind)} {x : Str}, names.lookup x = some .cell →
    (names.map fun (n, k) => if (k == NameKind.free && env.scope.kind == .function && env.kindOf n == some .cell) then (n, NameKind.cell) else (n, k)).lookup x = some .cell
  | [], _, h => by simp at h
  | (n, k0) :: r, x, h => by
    have ih := @relabel_cell env r x
    show List.lookup x ((if (k0 == NameKind.free && env.scope.kind == .function && env.kindOf n == some .cell) = true then (n, NameKind.cell) else (n, k0)) :: _) = _
    rw [List.lookup_cons] at h
    cases hx : x == n with
    | true =>
      rw [hx] at h
      cases h
      rw [if_neg (by simp), List.lookup_cons, hx]
    | false =>
      rw [hx] at h
      by_cases hc : (k0 == NameKind.free && env.scope.kind == .function && env.kindOf n == some .cell) = true
      · rw [if_pos hc, List.lookup_cons, hx]; exact ih h
      · rw [if_neg hc, List.lookup_cons, hx]; exact ih h
theorem nest {N N' : List Str} {ixs : List (Option Nat)} {scO sc : Scope} {env : Env} (kind : sc.kind = .function) (keys : (sc.names.map (·.1)).Nodup) (nd : N'.Nodup) (len : ixs.length = N'.length) (fv : fvOk N N' ixs sc = true)
    (free : ∀ p ∈ sc.names, p.2 = .free → scO.names.lookup p.1 = some .cell ∨ scO.names.lookup p.1 = some .free) : CompScope N (relabel scO env) N' ixs sc :=
  ⟨kind, keys, nd, len, fv_of fv, fun p hp e => by
    rcases free p hp e with z | z
    · exact .inl (relabel_cell z)
    · exact lookup_relabel_of z⟩
theorem call_tuple_K {X : Cx} (K : Frag) (h : X.K = K) : CallR X (.type "tuple") (fun xs H Q => ∃ p ys, xs = [.ref p] ∧ ((SqL K H p ys ∧ ∀ l, H l = none → Q (.ref l) (upd H l (.tup ys))) ∨ (SqT K H p ys ∧ Q (.ref p) H))) := by subst h; exact call_tuple_of
theorem boot_any : bootBuiltins "any" = some (.builtin "any") := by decide +kernel
/-! ### Ring -/
def xclsOk (K : Frag) (C : Addr) : Bool :=
  findIn K (.ref C) "__getattribute__" == some (some (.builtin "BaseException.__getattribute__")) && (findIn K (.ref C) "__getattr__" == some none && (findIn K (.ref C) "__setattr__" == some (some (.builtin "object.__setattr__")) && (hasDictIn K C &&
  (((clsIn K C).any fun cd => overE cd.mro) && (mroIn K C (.type "BaseException") == some true && (mroIn K C (.type "ValueError") == some true && (mroIn K C (.type "object") == some true && (findIn K (.ref C) "__class__" == some (some (.builtin "object.__class__")) &&
  (specialIn K (.builtin "object.__class__") "__get__" == some (some (.builtin "getset_descriptor.__get__")) && takesIn K (.builtin "object.__class__") == some true)))))))))
def Keep (a : Addr) (H H' : Hp) : Prop := ∀ b o, H b = some o → b ≠ a → H' b = some o
@[irreducible] def spTwo (K : Frag) (f g : Str) : Sp := fun vs H Q _ => ∃ (a C : Addr) (k r : V) (i : Option Value), vs = [.ref a, k, r] ∧ H a = some (ExcO C none a) ∧ XCls K C ∧ excInI K C i = true ∧ FmtOk H k ∧ FmtOk H r ∧ findIn K (.ref C) f = some none ∧ findIn K (.ref C) g = some none ∧
  ∀ d H', H d = none → d ≠ a → H' a = some (ExcO C (some d) a) → H' d = some (ExcD d [(f, k), (g, r)]) → Keep a H H' → Q .non H'
section
variable {P : Program} {w : World} {K : Frag} {mg : Str → Option Value} {base : Heap} {B : Addr} {f : Addr} {fd : FuncData}
end
end K29
namespace K29
open PySem L2 PySem.W
abbrev nMerged : List Str := ["rows", "order", "rest", "name"]
theorem scMerged : FnScope nMerged ["rows"] (defScope sMerged) := ⟨rfl, rfl, rfl, by decide +kernel, rfl, by decide +kernel, by decide +kernel⟩
abbrev eOut : Expr := asgV (bodyAt (whileBody (bodyAt (defBody sMerged) 2)) 3)
abbrev scO : Scope := compSc eOut
abbrev scI : Scope := compSc (arg0 (eltOf eOut))
theorem csO : CompScope nMerged (defScope sMerged) ["row", "name"] [none, some 3] scO := ⟨rfl, by decide +kernel, by decide +kernel, rfl, fv_of (by decide +kernel), by decide +kernel⟩
theorem csI {env : Env} : CompScope ["row", "name"] (relabel scO env) ["other", "name"] [none, some 1] scI := nest rfl (by decide +kernel) (by decide +kernel) rfl (by decide +kernel) (by decide +kernel)
theorem ndI : (["other", "name"] : List Str).Nodup := by decide +kernel
theorem rows_keep {H H' : Hp} {vs : List V} {rows : List (List Str)} (h : RowsV H vs rows) (s : ∀ b xs, H b = some (.tup xs) → H' b = some (.tup xs)) : RowsV H' vs rows := Paired.imp' (fun _ _ ⟨a, e, q⟩ => ⟨a, e, s _ _ q⟩) h
theorem without_small {rest : List (List Str)} {n : Str} (S : Small rest) : Small (without n rest) := by
  refine ⟨by unfold L2.without; rw [List.length_map]; exact S.few, fun r hr => ?_, fun r hr y hy => ?_⟩
  · obtain ⟨q, hq, rfl⟩ := List.mem_map.mp hr
    exact Nat.le_trans (List.length_filter_le _ _) (S.short q hq)
  · obtain ⟨q, hq, rfl⟩ := List.mem_map.mp hr
    exact S.nm q hq y (List.mem_filter.mp hy).1
/-- the walk's word -/
structure MInv (H : Hp) (rows : List (List Str)) (t oa : Addr) (m : Nat) (σ : St) (H1 : Hp) (rest : List (List Str)) (ws : List V) (acc : List Str) (rl : Addr) : Prop where
  st : ∃ v3 : Option V, σ = [some (.ref t), some (.ref oa), some (.ref rl), v3]
  mm : m = total rest
  hoa : H1 oa = some (.lst (acc.map V.str))
  hrl : H1 rl = some (.lst ws)
  rr : RowsV H1 ws rest
  sm : Small rest
  ne : rl ≠ oa
  same : Same H H1
  lim : acc.length + total rest ≤ 1000
  eq : mergeG (total rows) rows = (mergeG (total rest) rest).map (acc ++ ·)
theorem small_total : ∀ {rows : List (List Str)}, (∀ r ∈ rows, r.length ≤ 20) → total rows ≤ 20 * rows.length
  | [], _ => Nat.zero_le _
  | r :: rows, h => by
    have h1 := small_total fun q hq => h q (List.mem_cons_of_mem _ hq)
    have h2 := h r List.mem_cons_self
    have e : total (r :: rows) = r.length + total rows := by simp [total]
    rw [e, List.length_cons]; omega
theorem pairs_of {K : Frag} {H : Hp} {ws : List V} {rows : List (List Str)} (h : RowsV H ws rows) : Paired (fun y r => ∃ a, y = V.ref a ∧ SqT K H a r) ws (rows.map fun r => r.map V.str) := by
  induction h with
  | nil => exact .nil
  | cons p _ ih => obtain ⟨a, e, q⟩ := p; exact .cons ⟨a, e, SqT.of q⟩ ih
theorem any_map (rows : List (List Str)) : ((rows.map fun r => r.map V.str).any fun r => !r.isEmpty) = rows.any fun r => !r.isEmpty := by
  rw [List.any_map]; congr 1; funext r; cases r <;> rfl
section
variable {P : Program} {w : World} {K : Frag} {mg : Str → Option Value} {base : Heap} {f : Addr} {fd : FuncData}
@[irreducible] def spMerged : Sp := fun vs H Q _ => ∃ (t : Addr) (ws : List V) (rows : List (List Str)) (o : List Str), vs = [.ref t] ∧ H t = some (.tup ws) ∧ RowsV H ws rows ∧ Small rows ∧ mergeG (total rows) rows = some o ∧
  ∀ p H', H p = none → Same H H' → H' p = some (.tup (o.map V.str)) → Q (.ref p) H'
theorem merged_sp {t : Addr} {ws : List V} {rows : List (List Str)} {o : List Str} {H : Hp} {Q : VK} {E : XK} (ht : H t = some (.tup ws)) (hR : RowsV H ws rows) (hS : Small rows) (hm : mergeG (total rows) rows = some o)
    (q : ∀ p H', H p = none → Same H H' → H' p = some (.tup (o.map V.str)) → Q (.ref p) H') : spMerged [.ref t] H Q E := by
  unfold spMerged; exact ⟨t, ws, rows, o, rfl, ht, hR, hS, hm, q⟩
theorem ok_merged {fL fW : Addr} {fdL fdW : FuncData} (F : Fun K "merged" "merged" sMerged f fd) (Bl : Blt mg)
    (FW : Fun K "wish_against" "wish_against" sWish fW fdW) (bW : Binds K fdW ["rest", "name"] []) (mW : mg "wish_against" = some (.ref fW))
    (FL : Fun K "least_free" "least_free" sLeast fL fdL) (bL : Binds K fdL ["rest"] []) (mL : mg "least_free" = some (.ref fL)) :
    FnOk P w K mg base CX0 3 f fd ["rows"] spMerged := by
  have GL : FnOk P w K mg base CX0 2 fL fdL ["rest"] spLeast := ok_least FL Bl FW bW mW
  refine F.ok scMerged (fun vs H Q E h => ?_) (fun cdv A outer s H vs Q E hr h => ?_)
  · unfold spMerged at h; obtain ⟨t, ws, rows, o, rfl, _⟩ := h; rfl
  · unfold spMerged at h
    obtain ⟨t, ws, rows, o, rfl, ht, hR, hS, hm, qs⟩ := h
    have hr2 : Room 2 _ := hr
    refine ⟨_, pss_cons (ps_set (i := 1) scMerged.nd rfl (Or.inl rfl) (pe_lst pa_nil))
      (pss_cons (ps_set (i := 2) scMerged.nd rfl (Or.inl rfl) (pe_callTy call_list_of rfl Bl.list boot_list (pa_cons (pv 0) pa_nil)))
      (pss_cons (ps_while PassesOwn.never (pt_truth (pe_callB (call_anyT rfl) rfl Bl.any boot_any (pa_cons (pv 2) pa_nil)) (fun _ => rfl))
        (pss_cons (ps_set (i := 3) scMerged.nd rfl (Or.inr rfl) (pe_call GL hr2 rfl mL FL.kp bL .nil pass0 (pa_cons (pv 2) pa_nil)))
        (pss_cons (ps_if (pt_cmpR op_isN (pv 3) pe_non (nomark _)) (pss_one ps_never) pss_nil)
        (pss_cons (ps_expr (pe_bm PySem.F.plainAttrs_list PySem.F.slot_list_append PySem.F.type_list_append mt_append (pv 1) (pa_cons (pv 3) pa_nil)))
        (pss_one (ps_setComp (i := 2) rfl csO scMerged.nd rfl rfl (pi_list (pv 2)) (fun s H fp => ⟨pg_name (i := 0) csO.nd rfl (Or.inl rfl), pifs_nil,
          pe_callTy (call_tuple_K K rfl) rfl Bl.tuple boot_tuple (pa_cons (pe_comp rfl csI (pi_tup_K K rfl (pv 0)) (fun s H fp => ⟨pg_name (i := 0) ndI rfl (Or.inl rfl), pifs_one (pt_cmpR op_ne (pv 0) (pv 1) rfl), pv 0⟩)) pa_nil)⟩)))))))
      (pss_one (ps_ret (pe_callTy call_tuple_of rfl Bl.tuple boot_tuple (pa_cons (pv 1) pa_nil)))))), ?_⟩
    refine ⟨Nat.zero_le _, fun oa hoa => ⟨_, rfl, t, ws, rfl, .inr (SqT.of (by rw [upd_ne (ne_of_none ht hoa)]; exact ht)), fun rl hrl => ?_⟩⟩
    have hoa1 : (upd (upd H oa (.lst [])) rl (.lst ws)) oa = some (.lst []) := by rw [upd_ne (ne_of_none upd_same hrl)]; exact upd_same
    have S1 : Same H (upd (upd H oa (.lst [])) rl (.lst ws)) := (same_new hoa).trans (same_new hrl)
    refine ⟨fun m σ H1 => ∃ rest ws' acc rl, MInv H rows t oa m σ H1 rest ws' acc rl, ⟨_, rows, ws, [], rl, ⟨none, rfl⟩, rfl, hoa1, upd_same, hR.same S1, hS, Ne.symm (ne_of_none upd_same hrl), S1, by have := small_total hS.short; have := hS.few; simp only [List.length_nil]; omega, by cases mergeG (total rows) rows <;> rfl⟩, ?_⟩
    rintro m σ H1 ⟨rest, ws', acc, rl, R⟩
    obtain ⟨v3, rfl⟩ := R.st
    refine ⟨_, rfl, rl, ws', _, rfl, SqL.of R.hrl, pairs_of R.rr, _, rfl, ?_⟩
    rw [any_map]
    refine ite2 (fun hA => ?_) (fun hA => ?_)
    · refine ⟨fun σ' H' => ∃ m', m' < m ∧ ∃ rest ws' acc rl, MInv H rows t oa m' σ' H' rest ws' acc rl, fun _ _ z => z, ?_⟩
      refine ⟨_, rfl, least_sp R.hrl R.rr fun H2 S2 => ?_⟩
      have hpos := total_pos hA
      cases e : leastFree rest with
      | none =>
        refine ⟨_, rfl, rfl, _, rfl, ?_⟩
        rw [R.eq, merge_none hA e] at hm
        cases hm
      | some n =>
        refine ⟨_, rfl, rfl, _, rfl, ?_⟩
        have hoa2 : H2 oa = some (.lst (acc.map V.str)) := S2 _ _ R.hoa
        refine ⟨_, rfl, .inl ⟨rfl, _, SqL.of hoa2⟩, _, rfl, oa, _, _, rfl, rfl, hoa2, by have := R.lim; rw [List.length_map, sizeLine_eq]; omega, ?_⟩
        generalize hH3 : upd H2 oa (.lst (acc.map V.str ++ [optV (some n)])) = H3
        have S3 : Same H H3 := fun b o eb => by rw [← hH3, upd_ne (ne_of_none eb hoa)]; exact S2 _ _ (R.same b o eb)
        have nro : rl ≠ oa := R.ne
        have hrl3 : H3 rl = some (.lst ws') := by rw [← hH3, upd_ne nro]; exact S2 _ _ R.hrl
        have hR3 : RowsV H3 ws' rest := rows_keep R.rr fun b xs hb => by rw [← hH3, upd_ne (ne_of (S2 _ _ hb) hoa2 (by intro z; cases z))]; exact S2 _ _ hb
        have hoa3 : H3 oa = some (.lst ((acc ++ [n]).map V.str)) := by rw [← hH3, upd_same, List.map_append]; rfl
        refine ⟨_, rfl, rl, rfl, ⟨_, SqL.of hrl3⟩, fun a1 ha1 => ?_⟩
        have n1o : a1 ≠ oa := fun z => by rw [z, hoa3] at ha1; cases ha1
        refine comp_list (xs := ws') (fun i ys τ H4 => ∃ t0 : Option V, τ = [t0, some (.str n)] ∧ H4 a1 = some (.lst ys) ∧ Same H3 H4 ∧ RowsV H4 ys (L2.without n (rest.take i))) ⟨none, rfl, upd_same, same_new ha1, .nil⟩ (fun i ys τ H4 ⟨_, _, h1, h2, _⟩ => ⟨h1, SqL.of (h2 _ _ hrl3)⟩) ?_ ?_
        · rintro i x ys τ H4 hx ⟨t0, rfl, h41, S4, hR4⟩
          obtain ⟨a, r, rfl, hri, har⟩ := hR3.get hx
          have hlt : i < ws'.length := (List.getElem?_eq_some_iff.mp hx).1
          have tk : rest.take (i + 1) = rest.take i ++ [r] := by rw [List.take_succ, hri]; rfl
          refine ⟨_, rfl, a, rfl, ⟨_, SqT.of (S4 _ _ har)⟩, fun b1 hb1 => ?_⟩
          have hab : (upd H4 b1 (.lst [])) a = some (.tup (r.map V.str)) := by rw [upd_ne (ne_of_none (S4 _ _ har) hb1)]; exact S4 _ _ har
          have nab : a ≠ b1 := ne_of_none (S4 _ _ har) hb1
          refine comp_tup (xs := r.map V.str) (fun j zs τ' H5 => ∃ t1 : Option V, τ' = [t1, some (.str n)] ∧ zs = ((r.take j).filter fun y => !decide (y = n)).map V.str ∧ H5 = upd H4 b1 (.lst zs)) ⟨none, rfl, rfl, rfl⟩ (fun j zs τ' H5 ⟨_, _, _, z⟩ => by rw [z]; exact ⟨upd_same, SqT.of (by rw [upd_ne nab]; exact S4 _ _ har)⟩) ?_ ?_
          · rintro j x zs τ' H5 hx' ⟨t1, rfl, rfl, rfl⟩
            have hjl : j < (r.map V.str).length := (List.getElem?_eq_some_iff.mp hx').1
            have hjr : j < r.length := by simpa using hjl
            obtain rfl : V.str r[j] = x := by simpa [hjr] using hx'
            have tkj : r.take (j + 1) = r.take j ++ [r[j]] := by rw [List.take_succ, List.getElem?_eq_getElem hjr]; rfl
            refine ⟨_, rfl, _, rfl, rfl, _, rfl, ?_⟩
            refine ite2 (fun hne => ?_) (fun hne => ?_)
            · have hne' : r[j] ≠ n := fun z => by rw [z] at hne; simp at hne
              refine ⟨_, rfl, upd_same, ?_, cw_next hjl ⟨_, rfl, ?_, by rw [upd_upd]⟩⟩
              · have h1 := List.length_filter_le (fun y => !decide (y = n)) (r.take j)
                have h2 : (r.take j).length ≤ r.length := by rw [List.length_take]; omega
                have h3 := R.sm.short r (List.mem_of_getElem? hri)
                rw [List.length_map, sizeLine_eq]; omega
              · rw [tkj, List.filter_append, List.map_append, List.filter_cons_of_pos (by simpa using hne')]; rfl
            · have hy : r[j] = n := by
                by_cases z : r[j] = n
                · exact z
                · exact absurd (by simp [z]) hne
              refine cw_next hjl ⟨_, rfl, ?_, rfl⟩
              rw [tkj]; simp [hy]
          · rintro zs τ' H5 ⟨t1, rfl, rfl, rfl⟩
            rw [List.length_map, List.take_length]
            refine ⟨b1, _, rfl, .inl ⟨SqL.of upd_same, fun l hl => ?_⟩⟩
            have n1b : a1 ≠ b1 := ne_of_none h41 hb1
            have Sb : Same H4 (upd (upd H4 b1 (.lst ((r.filter fun y => !decide (y = n)).map V.str))) l (.tup ((r.filter fun y => !decide (y = n)).map V.str))) := (same_new hb1).trans (same_new hl)
            have n1l : a1 ≠ l := ne_of_none (by rw [upd_ne n1b]; exact h41) hl
            refine ⟨Sb _ _ h41, ?_, cw_next hlt ⟨_, rfl, upd_same, fun b o hb => ?_, ?_⟩⟩
            · have h1 := hR4.length
              have h2 : (L2.without n (rest.take i)).length ≤ rest.length := by unfold L2.without; rw [List.length_map, List.length_take]; omega
              have h3 := R.sm.few
              rw [sizeLine_eq]; omega
            · rw [upd_ne (ne_of_none hb ha1)]; exact Sb _ _ (S4 b o hb)
            · have e1 : L2.without n (rest.take (i + 1)) = L2.without n (rest.take i) ++ [r.filter fun y => !decide (y = n)] := by rw [tk]; unfold L2.without; rw [List.map_append]; rfl
              rw [e1]
              refine RowsV.append (rows_keep hR4 fun b xs hb => ?_) ?_
              · rw [upd_ne (ne_of hb h41 (by intro z; cases z))]; exact Sb _ _ hb
              · rw [upd_ne (Ne.symm n1l)]; exact upd_same
        · rintro ys τ H4 ⟨t0, rfl, h41, S4, hR4⟩
          rw [hR3.length, List.take_length] at hR4
          have lt := total_without_lt (least_mem e)
          refine ⟨_, by rw [R.mm]; exact lt, L2.without n rest, ys, acc ++ [n], a1, ⟨_, rfl⟩, rfl, S4 _ _ hoa3, h41, hR4, without_small R.sm, n1o, S3.trans S4, ?_, ?_⟩
          · have := R.lim; rw [List.length_append, List.length_singleton]; omega
          · rw [R.eq, merge_some hA e, Option.map_map]
            congr 1
            funext z
            simp
    · refine ⟨_, rfl, oa, _, rfl, .inl ⟨SqL.of R.hoa, fun p hp => ?_⟩⟩
      rw [R.eq, merge_stop (by simpa using hA)] at hm
      have e : acc ++ [] = o := Option.some.inj hm
      rw [List.append_nil] at e
      subst e
      exact qs p _ (R.same.free hp) (R.same.trans (same_new hp)) upd_same
end
end K29
namespace K29
open PySem L2
theorem boot_max : bootBuiltins "max" = some (.builtin "max") := by decide +kernel
theorem boot_abs : bootBuiltins "abs" = some (.builtin "abs") := by decide +kernel
section
variable {P : Program} {w : World} {K : PySem.W.Frag} {mg : Str → Option Value} {base : Heap}
@[irreducible] def spPot (K : PySem.W.Frag) : Sp := fun vs H Q _ => ∃ (a : Addr) (ns : List Int) (k : Int), vs = [.ref a, .int k] ∧ SqL K H a (ns.map V.int) ∧ 0 ≤ k ∧ k ≤ 100 ∧ ns.length ≤ 63 ∧
  ∀ (p : Addr) (x y : Int), H p = none → 0 ≤ x → 0 ≤ y → y < 4294967296 → Q (.ref p) (upd H p (.lst [.int x, .int y]))
theorem scPot : FnScope ["_law_script", "_law_k", "_law_cell"] ["_law_script", "_law_k"] (defScope sPot) := ⟨rfl, rfl, rfl, by decide +kernel, rfl, by decide +kernel, by decide +kernel⟩
theorem get_int {ns : List Int} {i : Nat} (h : i < ns.length) : ∃ z, (ns.map V.int)[i]? = some (V.int z) := ⟨ns[i], by rw [List.getElem?_map, List.getElem?_eq_getElem h]; rfl⟩
theorem ok_pot {f : Addr} {fd : FuncData} (F : Fun K "_law_pot" "_law_pot" sPot f fd) (B : Blt mg) : FnOk P w K mg base CX0 1 f fd ["_law_script", "_law_k"] (spPot K) := by
  refine F.ok scPot (fun vs H Q E h => ?_) (fun cdv A outer s H vs Q E hr h => ?_)
  · unfold spPot at h; obtain ⟨a, ns, k, rfl, _⟩ := h; rfl
  · unfold spPot at h
    obtain ⟨a, ns, k, rfl, hS, k0, k1, hl, q⟩ := h
    refine ⟨_, pss_cons (ps_set (i := 2) scPot.nd rfl (Or.inl rfl) pe_int)
      (pss_cons (ps_if (pt_cmpR op_lt (pv 1) (pe_callB call_len_seq (by rfl) B.len boot_len (pa_cons (pv 0) pa_nil)) (nomark _))
          (pss_one (ps_set (i := 2) scPot.nd rfl (Or.inl rfl) (pe_ix ix_list (pv 0) (pv 1) (fun _ _ => rfl)))) pss_nil)
      (pss_one (ps_ret (pe_lst (pa_cons (pe_callB (call_max2 rfl) (by rfl) B.max boot_max (pa_cons pe_int (pa_cons (pe_op op_sub (pe_callB call_abs (by rfl) B.abs boot_abs (pa_cons (pv 2) pa_nil)) (pe_op op_pow pe_int pe_int)) pa_nil)))
        (pa_cons (pe_op op_add (pe_op op_add (pe_op op_mod (pe_callB call_abs (by rfl) B.abs boot_abs (pa_cons (pv 2) pa_nil)) pe_int) (pe_op op_mul pe_int (pv 1))) pe_int) pa_nil)))))), ?_⟩
    -- 0; k < len(script)
    refine ⟨_, rfl, _, rfl, a, _, rfl, .inl hS, _, _, rfl, rfl, _, rfl, ?_⟩
    have abs0 : ∀ c : Int, 0 ≤ (if c < 0 then -c else c) := fun c => by split <;> omega
    have fin : ∀ c : Int, ∀ p, H p = none → Q (.ref p) (upd H p (.lst [.int (if (if c < 0 then -c else c) - 10 ^ (18 : Int).toNat > 0 then (if c < 0 then -c else c) - 10 ^ (18 : Int).toNat else 0), .int ((if c < 0 then -c else c) % 2147483587 + 101 * k + 3)])) := fun c p hp => by
      have h1 := Int.emod_nonneg (if c < 0 then -c else c) (show (2147483587 : Int) ≠ 0 by decide)
      have h2 := Int.emod_lt_of_pos (if c < 0 then -c else c) (show (0 : Int) < 2147483587 by decide)
      refine q p _ _ hp ?_ (by omega) (by omega)
      generalize (if c < 0 then -c else c) - 10 ^ (18 : Int).toNat = d
      split <;> omega
    have tail : ∀ c : Int, ∃ (x : V), ([some (.ref a), some (.int k), some (.int c)] : St)[2]? = some (some x) := fun c => ⟨_, rfl⟩
    refine ite2 (fun hk => ?_) (fun hk => ?_)
    · have hk' : k < ((ns.map V.int).length : Int) := of_decide_eq_true hk
      rw [List.length_map] at hk'
      obtain ⟨z, hz⟩ := get_int (ns := ns) (i := k.toNat) (by omega)
      refine ⟨_, rfl, _, rfl, a, _, _, _, rfl, rfl, hS, (by rw [show k = ((k.toNat : Nat) : Int) by omega]; exact atI_nat hz), ?_⟩
      refine ⟨_, rfl, z, rfl, _, _, rfl, rfl, ⟨by decide, by decide, by decide⟩, _, _, rfl, rfl, _, _, rfl, ?_⟩
      refine ⟨_, rfl, z, rfl, _, _, rfl, rfl, (by show (0 : Int) < 2147483587; decide), _, rfl, _, _, rfl, rfl, .inl ⟨by decide, by decide⟩, _, _, rfl, rfl, _, _, rfl, rfl, (by show 2 ≤ sizeLine; rw [sizeLine_eq]; decide), fun p hp => fin z p hp⟩
    · refine ⟨_, rfl, 0, rfl, _, _, rfl, rfl, ⟨by decide, by decide, by decide⟩, _, _, rfl, rfl, _, _, rfl, ?_⟩
      refine ⟨_, rfl, 0, rfl, _, _, rfl, rfl, (by show (0 : Int) < 2147483587; decide), _, rfl, _, _, rfl, rfl, .inl ⟨by decide, by decide⟩, _, _, rfl, rfl, _, _, rfl, rfl, (by show 2 ≤ sizeLine; rw [sizeLine_eq]; decide), fun p hp => fin 0 p hp⟩
@[irreducible] def spDigit : Sp := fun vs H Q _ => ∃ (p : Addr) (m x y : Int), vs = [.ref p, .int m] ∧ H p = some (.lst [.int x, .int y]) ∧ 0 ≤ x ∧ 0 ≤ y ∧ y < 4294967296 ∧ 0 < m ∧ m ≤ 1000 ∧
  ∀ (d x' y' : Int), 0 ≤ d → d < m → 0 ≤ x' → 0 ≤ y' → y' < 4294967296 → Q (.int d) (upd H p (.lst [.int x', .int y']))
theorem scDigit : FnScope ["_law_pot_here", "_law_many", "_law_digit_here"] ["_law_pot_here", "_law_many"] (defScope sDigit) := ⟨rfl, rfl, rfl, by decide +kernel, rfl, by decide +kernel, by decide +kernel⟩
theorem ok_digit {f : Addr} {fd : FuncData} (F : Fun K "_law_digit" "_law_digit" sDigit f fd) : FnOk P w K mg base CX0 1 f fd ["_law_pot_here", "_law_many"] spDigit := by
  refine F.ok scDigit (fun vs H Q E h => ?_) (fun cdv A outer s H vs Q E hr h => ?_)
  · unfold spDigit at h; obtain ⟨p, m, x, y, rfl, _⟩ := h; rfl
  · unfold spDigit at h
    obtain ⟨p, m, x, y, rfl, hp, x0, y0, y1, m0, m1, q⟩ := h
    refine ⟨_, pss_cons (ps_if (pt_cmpR op_gt (pe_ix ix_list (pv 0) pe_int (fun _ _ => rfl)) pe_int (nomark _))
        (pss_cons (ps_set (i := 2) scDigit.nd rfl (Or.inl rfl) (pe_op op_mod (pe_ix ix_list (pv 0) pe_int (fun _ _ => rfl)) (pv 1)))
        (pss_cons (ps_asg (pe_op op_fdiv (pe_ix ix_list (pv 0) pe_int (fun _ _ => rfl)) (pv 1)) (pg_sub (pv 0) pe_int set_list))
        (pss_one (ps_ret (pv 2))))) pss_nil)
      (pss_cons (ps_asg (pe_op op_mod (pe_op op_add (pe_op op_mul (pe_ix ix_list (pv 0) pe_int (fun _ _ => rfl)) pe_int) pe_int) pe_int) (pg_sub (pv 0) pe_int set_list))
      (pss_one (ps_ret (pe_op op_mod (pe_op op_fdiv (pe_op op_mod (pe_op op_mul (pe_ix ix_list (pv 0) pe_int (fun _ _ => rfl)) (pe_ix ix_list (pv 0) pe_int (fun _ _ => rfl))) pe_int) pe_int) (pv 1))))), ?_⟩
    have hl : SqL K H p [.int x, .int y] := SqL.of hp
    refine ⟨_, rfl, p, _, 0, _, rfl, rfl, hl, rfl, _, _, rfl, rfl, _, rfl, ?_⟩
    refine ite2 (fun hx => ?_) (fun hx => ?_)
    · refine ⟨_, rfl, p, _, 0, _, rfl, rfl, hl, rfl, _, rfl, _, _, rfl, rfl, m0, ?_⟩
      refine ⟨_, rfl, p, _, 0, _, rfl, rfl, hl, rfl, _, rfl, _, _, rfl, rfl, ⟨m0, by omega⟩, _, rfl, p, _, 0, 0, rfl, rfl, hp, rfl, ?_⟩
      refine ⟨_, rfl, ?_⟩
      exact q _ _ _ (Int.emod_nonneg _ (by omega)) (Int.emod_lt_of_pos _ m0) (Int.ediv_nonneg x0 (by omega)) y0 y1
    · refine ⟨_, rfl, p, _, 1, _, rfl, rfl, hl, rfl, _, _, rfl, rfl, .inr ⟨by decide, by decide⟩, _, _, rfl, rfl, _, _, rfl, rfl, (by show (0 : Int) < 2147483647; decide), _, rfl, p, _, 1, 1, rfl, rfl, hp, rfl, ?_⟩
      have h1 := Int.emod_nonneg (y * 39373 + 20011) (show (2147483647 : Int) ≠ 0 by decide)
      have h2 := Int.emod_lt_of_pos (y * 39373 + 20011) (show (0 : Int) < 2147483647 by decide)
      refine ⟨_, rfl, p, _, 1, _, rfl, rfl, SqL.of upd_same, rfl, _, rfl, p, _, 1, _, rfl, rfl, SqL.of upd_same, rfl, _, _, rfl, rfl, .inl ⟨Int.lt_of_lt_of_le (by decide) h1, Int.lt_of_lt_of_le h2 (by decide)⟩, _, _, rfl, rfl, (by show (0 : Int) < 2147483563; decide), _, _, rfl, rfl, ⟨by decide, by decide⟩, _, rfl, _, _, rfl, rfl, m0, ?_⟩
      exact q _ x _ (Int.emod_nonneg _ (by omega)) (Int.emod_lt_of_pos _ m0) x0 h1 (by omega)
end
end K29
namespace K29
open PySem L2
/-- the pot at p is in order -/
def PotOk (p : Addr) (H : Hp) : Prop := ∃ x y : Int, H p = some (.lst [.int x, .int y]) ∧ 0 ≤ x ∧ 0 ≤ y ∧ y < 4294967296
/-- from H to H' nothing else was touched -/
structure PotAt (p : Addr) (H H' : Hp) : Prop where
  ok : PotOk p H'
  kp : ∀ b o, H b = some o → b ≠ p → H' b = some o
section
variable {p q : Addr} {H H1 H2 : Hp} {o : HO}
theorem PotAt.refl (h : PotOk p H) : PotAt p H H := ⟨h, fun _ _ e _ => e⟩
theorem PotAt.trans (a : PotAt p H H1) (b : PotAt p H1 H2) : PotAt p H H2 := ⟨b.ok, fun c o e n => b.kp c o (a.kp c o e n) n⟩
theorem PotOk.ne (h : PotOk p H) (hq : H q = none) : p ≠ q := let ⟨_, _, e, _⟩ := h; ne_of_none e hq
theorem PotAt.new (a : PotAt p H H1) (hq : H1 q = none) : PotAt p H (upd H1 q o) := by
  refine ⟨?_, fun b u e n => ?_⟩
  · obtain ⟨x, y, e, r⟩ := id a.ok
    exact ⟨x, y, by rw [upd_ne (a.ok.ne hq)]; exact e, r⟩
  · rw [upd_ne (ne_of_none (a.kp b u e n) hq)]; exact a.kp b u e n
theorem PotAt.free (a : PotAt p H H1) (hq : H1 q = none) : H q = none := by
  cases e : H q with
  | none => rfl
  | some u =>
    by_cases h : q = p
    · subst h; obtain ⟨_, _, z, _⟩ := a.ok; rw [z] at hq; cases hq
    · rw [a.kp q u e h] at hq; cases hq
/-- an own object that the pot's step keeps is written -/
theorem PotAt.write (a : PotAt p H H1) (hq : H q = none) (hp : p ≠ q) : PotAt p H (upd H1 q o) := by
  refine ⟨?_, fun b u e n => ?_⟩
  · obtain ⟨x, y, e, r⟩ := id a.ok
    exact ⟨x, y, by rw [upd_ne hp]; exact e, r⟩
  · rw [upd_ne (ne_of_none e hq)]; exact a.kp b u e n
theorem digit_sp {m : Int} {Q : VK} {E : XK} (h : PotOk p H) (m0 : 0 < m) (m1 : m ≤ 1000) (k : ∀ d H', 0 ≤ d → d < m → PotAt p H H' → Q (.int d) H') : spDigit [.ref p, .int m] H Q E := by
  obtain ⟨x, y, e, x0, y0, y1⟩ := h
  unfold spDigit
  exact ⟨p, m, x, y, rfl, e, x0, y0, y1, m0, m1, fun d x' y' d0 d1 h1 h2 h3 => k d _ d0 d1 ⟨⟨x', y', upd_same, h1, h2, h3⟩, fun b o z n => by rw [upd_ne n]; exact z⟩⟩
end
theorem sum_signs : ∀ cs : List Nat, ((cs.map sign).map (·.length)).sum = cs.length
  | [] => rfl
  | c :: cs => by
    have e : (sign c).length = 1 := rfl
    simp only [List.map_cons, List.sum_cons, sum_signs cs, List.length_cons, e]; omega
abbrev letters : Str := "abcdefghijklmnopqrstuvwxyz"
theorem letter_at {d : Int} (h0 : 0 ≤ d) (h1 : d < 26) : ∃ c : Nat, atI letters.cps.toList d = some c ∧ 97 ≤ c ∧ c ≤ 122 ∧ c = 97 + d.toNat := by
  have all : ∀ i : Nat, i < 26 → letters.cps.toList[i]? = some (97 + i) := by decide +kernel
  refine ⟨97 + d.toNat, ?_, by omega, by omega, rfl⟩
  rw [show d = ((d.toNat : Nat) : Int) by omega]
  exact atI_nat (all d.toNat (by omega))
section
variable {P : Program} {w : World} {K : PySem.W.Frag} {mg : Str → Option Value} {base : Heap}
@[irreducible] def spNames : Sp := fun vs H Q _ => ∃ (p : Addr) (m : Nat), vs = [.ref p, .int m] ∧ PotOk p H ∧ m ≤ 20 ∧
  ∀ (l : Addr) (ys : List Str) (H' : Hp), H l = none → ys.length = m → (∀ y ∈ ys, Nm y) → ys.Nodup → PotAt p H H' → H' l = some (.lst (ys.map V.str)) → Q (.ref l) H'
abbrev nNames : List Str := ["_law_pot_here", "_law_many", "_law_letters", "_law_found", "_law_k", "_law_size", "_law_name", "_law_some"]
theorem scNames : FnScope nNames ["_law_pot_here", "_law_many"] (defScope sNames) := ⟨rfl, rfl, rfl, by decide +kernel, rfl, by decide +kernel, by decide +kernel⟩
/-- what a loop's body is, and a comprehension's scope, by its place -/
def ifBody (s : Stmt) : List Stmt := match s with | .If _ b _ _ => b | _ => []
abbrev scC1 : Scope := compSc (arg0 (asgV (bodyAt (forBody (bodyAt (defBody sNames) 2)) 1)))
abbrev scC2 : Scope := compSc (asgV (bodyAt (ifBody (bodyAt (forBody (bodyAt (defBody sNames) 2)) 2)) 0))
abbrev scC3 : Scope := compSc (subV (asgV (bodyAt (ifBody (bodyAt (forBody (bodyAt (defBody sNames) 2)) 2)) 1)))
theorem cs1 : CompScope nNames (defScope sNames) ["_law_turn", "_law_letters", "_law_pot_here"] [none, some 2, some 0] scC1 := ⟨rfl, by decide +kernel, by decide +kernel, rfl, fv_of (by decide +kernel), by decide +kernel⟩
theorem cs2 : CompScope nNames (defScope sNames) ["_law_turn", "_law_letters", "_law_name"] [none, some 2, some 6] scC2 := ⟨rfl, by decide +kernel, by decide +kernel, rfl, fv_of (by decide +kernel), by decide +kernel⟩
theorem cs3 : CompScope nNames (defScope sNames) ["_law_one", "_law_found"] [none, some 3] scC3 := ⟨rfl, by decide +kernel, by decide +kernel, rfl, fv_of (by decide +kernel), by decide +kernel⟩
theorem ok_names {f fD : Addr} {fd fdD : FuncData} (F : Fun K "_law_names" "_law_names" sNames f fd) (B : Blt mg) (FD : Fun K "_law_digit" "_law_digit" sDigit fD fdD) (bD : Binds K fdD ["_law_pot_here", "_law_many"] []) (mD : mg "_law_digit" = some (.ref fD)) :
    FnOk P w K mg base CX0 3 f fd ["_law_pot_here", "_law_many"] spNames := by
  have GD : FnOk P w K mg base CX0 1 fD fdD ["_law_pot_here", "_law_many"] spDigit := ok_digit FD
  refine F.ok scNames (fun vs H Q E h => ?_) (fun cdv A outer s H vs Q E hr h => ?_)
  · unfold spNames at h; obtain ⟨p, m, rfl, _⟩ := h; rfl
  · unfold spNames at h
    obtain ⟨p, m, rfl, hp, m1, q⟩ := h
    have hr1 : Room 1 _ := hr.mono (by decide)
    refine ⟨_, pss_cons (ps_set (i := 2) scNames.nd rfl (Or.inr rfl) pe_str)
      (pss_cons (ps_set (i := 3) scNames.nd rfl (Or.inr rfl) (pe_lst pa_nil))
      (pss_cons (ps_for PassesOwn.never rfl (pi_range1 rfl B.range (pa_cons (pv 1) pa_nil)) (pg_name (i := 4) scNames.nd rfl (Or.inl rfl))
        (pss_cons (ps_set (i := 5) scNames.nd rfl (Or.inl rfl) (pe_op op_add pe_int (pe_call GD hr1 rfl mD FD.kp bD .nil pass0 (pa_cons (pv 0) (pa_cons (pe_ix ix_list (pe_lst (pa_cons pe_int (pa_cons pe_int (pa_cons pe_int pa_nil))))
            (pe_call GD hr1 rfl mD FD.kp bD .nil pass0 (pa_cons (pv 0) (pa_cons pe_int pa_nil))) (fun _ _ => rfl)) pa_nil)))))
        (pss_cons (ps_set (i := 6) scNames.nd rfl (Or.inr rfl) (pe_bm PySem.F.plainAttrs_str PySem.F.slot_str_join PySem.F.type_str_join mt_join pe_str
            (pa_cons (pe_comp rfl cs1 (pi_range1 rfl B.range (pa_cons (pv 5) pa_nil)) (fun s H fp => ⟨pg_name (i := 0) cs1.nd rfl (Or.inl rfl), pifs_nil, pe_ix ix_str (pv 1) (pe_call GD hr1 rfl mD FD.kp bD .nil pass0 (pa_cons (pv 2) (pa_cons pe_int pa_nil))) (fun _ _ => rfl)⟩)) pa_nil)))
        (pss_cons (ps_if (pt_cmpR op_in_seq (pv 6) (pv 3) rfl)
            (pss_cons (ps_setComp (i := 7) rfl cs2 scNames.nd rfl rfl (pi_range1 rfl B.range (pa_cons (pe_op op_add (pv 1) pe_int) pa_nil)) (fun s H fp => ⟨pg_name (i := 0) cs2.nd rfl (Or.inl rfl), pifs_nil,
                pe_op op_add_str (pe_op op_add_str (pe_slice sl_str (pv 2) po_none (po_some pe_int)) (pe_ix ix_str (pv 1) (pv 0) (fun _ _ => rfl))) pe_str⟩))
            (pss_one (ps_set (i := 6) scNames.nd rfl (Or.inr rfl) (pe_ix ix_list (pe_comp rfl cs3 (pi_list (pv 7)) (fun s H fp => ⟨pg_name (i := 0) cs3.nd rfl (Or.inl rfl), pifs_one (pt_cmpR (op_notIn_K K rfl) (pv 0) (pv 1) rfl), pv 0⟩)) pe_int (fun _ _ => rfl)))))
            pss_nil)
        (pss_one (ps_expr (pe_bm PySem.F.plainAttrs_list PySem.F.slot_list_append PySem.F.type_list_append mt_append (pv 3) (pa_cons (pv 6) pa_nil))))))))
      (pss_one (ps_ret (pv 3))))), ?_⟩
    refine ⟨Nat.zero_le _, fun l hl => ?_⟩
    have hpl : p ≠ l := hp.ne hl
    have em : ((m : Int)).toNat = m := Int.toNat_natCast m
    refine ⟨_, rfl, (m : Int), rfl, by omega, by omega, for_range (fun i σ H1 => ∃ (ys : List Str) (v4 v5 v6 v7 : Option V), σ = [some (.ref p), some (.int m), some (.str letters), some (.ref l), v4, v5, v6, v7] ∧ ys.length = i ∧ (∀ y ∈ ys, Nm y) ∧ ys.Nodup ∧ PotAt p H H1 ∧ H1 l = some (.lst (ys.map V.str)))
      ⟨[], none, none, none, none, rfl, rfl, (fun y hy => by simp at hy), List.nodup_nil, (PotAt.refl hp).new hl, upd_same⟩ ?_ ?_⟩
    · rintro i σ H1 hi ⟨ys, v4, v5, v6, v7, rfl, hlen, hnm, hnd, pa, hl1⟩
      rw [em] at hi
      -- size = 1 + digit(pot, [1, 2, 8][digit(pot, 3)])
      refine ⟨_, rfl, by show 3 ≤ sizeLine; rw [sizeLine_eq]; decide, fun a hq => ⟨_, rfl, ?_⟩⟩
      have nqp : a ≠ p := Ne.symm (pa.ok.ne hq)
      refine digit_sp (p := p) (m := 3) ((PotAt.refl pa.ok).new hq).ok (by decide) (by decide) fun d H2 d0 d1 pb => ?_
      obtain ⟨mv, hat, mv0, mv1⟩ : ∃ mv : Int, atI [V.int 1, V.int 2, V.int 8] d = some (V.int mv) ∧ 0 < mv ∧ mv ≤ 8 := by
        have : d = 0 ∨ d = 1 ∨ d = 2 := by omega
        rcases this with rfl | rfl | rfl
        · exact ⟨1, rfl, by decide, by decide⟩
        · exact ⟨2, rfl, by decide, by decide⟩
        · exact ⟨8, rfl, by decide, by decide⟩
      refine ⟨a, _, d, _, rfl, rfl, SqL.of (pb.kp a _ upd_same nqp), hat, ?_⟩
      refine digit_sp (p := p) (m := mv) pb.ok mv0 (by omega) fun e H3 e0 e1 pc => ⟨_, _, rfl, rfl, ?_⟩
      have pd : PotAt p H1 H3 := (((PotAt.refl pa.ok).new hq).trans pb).trans pc
      have hl3 : H3 l = some (.lst (ys.map V.str)) := pd.kp l _ hl1 (Ne.symm hpl)
      -- name = ''.join([letters[digit(pot, 26)] for turn in range(size)])
      refine ⟨rfl, _, rfl, 1 + e, rfl, by omega, by omega, fun a1 ha1 => ?_⟩
      have na1 : p ≠ a1 := pc.ok.ne ha1
      refine comp_range (fun i zs τ H4 => ∃ (cs : List Nat) (t0 : Option V), zs = (cs.map sign).map V.str ∧ cs.length = i ∧ (∀ c ∈ cs, 97 ≤ c ∧ c ≤ 122) ∧ τ = [t0, some (.str letters), some (.ref p)] ∧ PotAt p H3 H4 ∧ H4 a1 = some (.lst zs))
        ⟨[], none, rfl, rfl, (fun c hc => by simp at hc), rfl, (PotAt.refl pc.ok).new ha1, upd_same⟩ (fun i zs τ H4 ⟨_, _, _, _, _, _, _, z⟩ => z) ?_ ?_
      · rintro j zs τ H4 hj ⟨cs, t0, rfl, hcl, haz, rfl, pe, hz⟩
        refine ⟨_, rfl, _, rfl, digit_sp (p := p) (m := 26) pe.ok (by decide) (by decide) fun d H5 d0 d1 pf => ?_⟩
        obtain ⟨c, hc, c0, c1, _⟩ := letter_at d0 d1
        have hz5 : H5 a1 = _ := pf.kp a1 _ hz (Ne.symm na1)
        refine ⟨letters, d, c, rfl, rfl, (by rw [sizeLine_eq]; decide +kernel), hc, hz5, ?_, cw_next hj ⟨cs ++ [c], _, ?_, ?_, ?_, rfl, ?_, upd_same⟩⟩
        · rw [List.length_map, List.length_map, hcl, sizeLine_eq]; omega
        · rw [List.map_append, List.map_append]; rfl
        · rw [List.length_append, hcl]; rfl
        · intro x hx
          rcases List.mem_append.mp hx with h | h
          · exact haz x h
          · have : x = c := by simpa using h
            rw [this]; exact ⟨c0, c1⟩
        · exact (pe.trans pf).write ((PotAt.refl pc.ok).free ha1) na1
      · rintro zs τ H4 ⟨cs, t0, rfl, hcl, haz, rfl, pe, hz⟩
        have hsl : ((cs.map sign).map (·.length)).sum = cs.length := by
          exact sum_signs cs
        refine ⟨("" : Str), a1, cs.map sign, rfl, rfl, .inl (SqL.of hz), ?_, ?_⟩
        · have : (Str.length ("" : Str)) = 0 := rfl
          rw [hsl, this, hcl]; omega
        rw [join_signs]
        generalize hnme : (⟨cs.toArray⟩ : Str) = nm
        have nmOk : Nm nm := by
          have el : nm.length = cs.length := by rw [← hnme]; show cs.toArray.size = _; simp
          refine ⟨by omega, by omega, fun c hc => haz c ?_⟩
          rw [← hnme] at hc; simpa using hc
        have pg : PotAt p H1 H4 := pd.trans pe
        have hl4 : H4 l = some (.lst (ys.map V.str)) := pe.kp l _ hl3 (Ne.symm hpl)
        -- if name in found
        refine ⟨_, rfl, _, rfl, l, _, rfl, .inl (SqL.of hl4), rfl, flat_strs _, _, rfl, ?_⟩
        rw [if_neg Bool.false_ne_true, inV_strs]
        refine ite2 (fun hin => ?_) (fun hin => ?_)
        · -- some = [..]
          refine ⟨_, rfl, _, _, rfl, rfl, (m : Int) + 1, rfl, by omega, by omega, fun a2 ha2 => ?_⟩
          refine comp_range (fun i zs τ H5 => ∃ t0 : Option V, zs = ((List.range i).map fun j => Txt.slice nm none (some 6) ++ sign (97 + j) ++ ("q" : Str)).map V.str ∧ τ = [t0, some (.str letters), some (.str nm)] ∧ H5 = upd H4 a2 (.lst zs))
            ⟨none, rfl, rfl, rfl⟩ (fun i zs τ H5 ⟨_, _, _, z⟩ => by rw [z]; exact upd_same) ?_ ?_
          · rintro j zs τ H5 hj ⟨t0, rfl, rfl, rfl⟩
            have hj' : j < m + 1 := by omega
            obtain ⟨c, hc, c0, c1, hce⟩ := letter_at (d := 0 + (j : Int)) (by omega) (by omega)
            have hce' : c = 97 + j := by rw [hce]; omega
            have l1 : (Txt.slice nm none (some 6)).length ≤ 6 := slice6_len nm
            refine ⟨_, rfl, _, rfl, nm, rfl, by have := nmOk.hi; omega, _, rfl, _, rfl, letters, _, c, rfl, rfl, (by rw [sizeLine_eq]; decide +kernel), hc, _, _, rfl, rfl, ?_, _, _, rfl, rfl, ?_, upd_same, ?_, cw_next hj ⟨_, ?_, rfl, ?_⟩⟩
            · show _ + 1 ≤ sizeLine; rw [sizeLine_eq]; omega
            · have e1 : (Txt.slice nm none (some 6) ++ (⟨#[c]⟩ : Str)).length = (Txt.slice nm none (some 6)).length + 1 := by
                show (_ ++ #[c] : Array Nat).size = _; rw [Array.size_append]; rfl
              have e2 : (("q" : Str)).length = 1 := by decide +kernel
              show (Txt.slice nm none (some 6) ++ (⟨#[c]⟩ : Str)).length + _ ≤ sizeLine
              rw [e1, e2, sizeLine_eq]; omega
            · rw [List.length_map, List.length_map, List.length_range, sizeLine_eq]; omega
            · rw [List.range_succ, List.map_append, List.map_append, hce']; rfl
            · rw [upd_upd]
          · rintro zs τ H5 ⟨t0, rfl, rfl, rfl⟩
            have em1 : ((m : Int) + 1).toNat = m + 1 := by omega
            generalize hcd : (List.range ((m : Int) + 1).toNat).map (fun j => Txt.slice nm none (some 6) ++ sign (97 + j) ++ ("q" : Str)) = cands
            have cnd : cands.Nodup := by
              rw [← hcd]
              refine List.Pairwise.map _ (fun a b hab h => hab ?_) List.nodup_range
              have := cand_inj h
              omega
            have cnm : ∀ y ∈ cands, Nm y := by
              intro y hy
              rw [← hcd] at hy
              obtain ⟨j, hj, rfl⟩ := List.mem_map.mp hy
              have := List.mem_range.mp hj
              exact cand_nm nmOk.az ⟨by omega, by omega⟩
            have clen : cands.length = m + 1 := by rw [← hcd, List.length_map, List.length_range, em1]
            have hl5 : upd H4 a2 (.lst (cands.map V.str)) l = some (.lst (ys.map V.str)) := by rw [upd_ne (ne_of_none hl4 ha2)]; exact hl4
            -- name = [one for one in some if one not in found][0]
            refine ⟨_, rfl, a2, rfl, ⟨_, SqL.of upd_same⟩, fun a3 ha3 => ?_⟩
            refine comp_list (xs := cands.map V.str) (fun i zs τ H6 => ∃ t0 : Option V, zs = ((cands.take i).filter (fun y => !decide (y ∈ ys))).map V.str ∧ τ = [t0, some (.ref l)] ∧ H6 = upd (upd H4 a2 (.lst (cands.map V.str))) a3 (.lst zs))
              ⟨none, rfl, rfl, rfl⟩ (fun i zs τ H6 ⟨_, _, _, z⟩ => by rw [z]; exact ⟨upd_same, SqL.of (by rw [upd_ne (ne_of_none upd_same ha3)]; exact upd_same)⟩) ?_ ?_
            · rintro j x zs τ H6 hx ⟨t0, rfl, rfl, rfl⟩
              rw [List.getElem?_map] at hx
              obtain ⟨y, hy, rfl⟩ := Option.map_eq_some_iff.mp hx
              have hjl : j < (cands.map V.str).length := by rw [List.length_map]; exact (List.getElem?_eq_some_iff.mp hy).1
              have tk : cands.take (j + 1) = cands.take j ++ [y] := by rw [List.take_succ, hy]; rfl
              have hl6 : (upd (upd H4 a2 (.lst (cands.map V.str))) a3 (.lst (((cands.take j).filter (fun y => !decide (y ∈ ys))).map V.str))) l = some (.lst (ys.map V.str)) := by rw [upd_ne (ne_of_none hl5 ha3)]; exact hl5
              refine ⟨_, rfl, _, rfl, l, _, rfl, .inl (SqL.of hl6), rfl, flat_strs _, _, rfl, ?_⟩
              rw [if_pos rfl, inV_strs]
              refine ite2 (fun hn => ?_) (fun hn => ?_)
              · refine ⟨_, rfl, upd_same, ?_, cw_next hjl ⟨_, ?_, rfl, ?_⟩⟩
                · have h1 := List.length_filter_le (fun y => !decide (y ∈ ys)) (cands.take j)
                  have h2 : (cands.take j).length ≤ cands.length := by rw [List.length_take]; omega
                  rw [List.length_map, sizeLine_eq]; omega
                · rw [tk, List.filter_append, List.map_append, List.filter_cons, if_pos hn]; rfl
                · rw [upd_upd]
              · refine cw_next hjl ⟨_, ?_, rfl, rfl⟩
                rw [tk, List.filter_append, List.filter_cons, if_neg hn, List.filter_nil, List.append_nil]
            · rintro zs τ H6 ⟨t0, rfl, rfl, rfl⟩
              rw [List.length_map, List.take_length]
              obtain ⟨y0, hy0, hyn⟩ := pigeon (found := ys) cnd (by omega)
              have hmem : y0 ∈ cands.filter (fun y => !decide (y ∈ ys)) := List.mem_filter.mpr ⟨hy0, by simpa using hyn⟩
              cases hf : cands.filter (fun y => !decide (y ∈ ys)) with
              | nil => rw [hf] at hmem; simp at hmem
              | cons z1 zr =>
                have hz1 : z1 ∈ cands.filter (fun y => !decide (y ∈ ys)) := by rw [hf]; exact List.mem_cons_self
                obtain ⟨zc, zn⟩ := List.mem_filter.mp hz1
                have zn' : z1 ∉ ys := by simpa using zn
                have hl6 : (upd (upd H4 a2 (.lst (cands.map V.str))) a3 (.lst ((z1 :: zr).map V.str))) l = some (.lst (ys.map V.str)) := by rw [upd_ne (ne_of_none hl5 ha3)]; exact hl5
                have ph : PotAt p H (upd (upd H4 a2 (.lst (cands.map V.str))) a3 (.lst ((z1 :: zr).map V.str))) := ((pa.trans pg).new ha2).new ha3
                refine ⟨a3, _, 0, V.str z1, rfl, rfl, SqL.of upd_same, (show atI ((z1 :: zr).map V.str) ((0 : Nat) : Int) = some (V.str z1) from atI_nat rfl), ?_⟩
                refine ⟨_, rfl, .inl ⟨rfl, _, SqL.of hl6⟩, _, rfl, l, _, _, rfl, rfl, hl6, ?_, ?_⟩
                · rw [List.length_map, sizeLine_eq]; omega
                · refine ⟨ys ++ [z1], _, _, _, _, rfl, by rw [List.length_append, hlen]; rfl, ?_, ?_, ?_, ?_⟩
                  · intro y hy
                    rcases List.mem_append.mp hy with h | h
                    · exact hnm y h
                    · have : y = z1 := by simpa using h
                      rw [this]; exact cnm z1 zc
                  · rw [List.nodup_append]
                    exact ⟨hnd, by simp, fun a ha b hb => by have : b = z1 := by simpa using hb
                                                             rw [this]; exact fun h => zn' (h ▸ ha)⟩
                  · exact ph.write hl hpl
                  · rw [upd_same, List.map_append]; rfl
        · have hn' : nm ∉ ys := by simpa using hin
          have ph : PotAt p H H4 := pa.trans pg
          refine ⟨_, rfl, .inl ⟨rfl, _, SqL.of hl4⟩, _, rfl, l, _, _, rfl, rfl, hl4, ?_, ?_⟩
          · rw [List.length_map, sizeLine_eq]; omega
          · refine ⟨ys ++ [nm], _, _, _, _, rfl, by rw [List.length_append, hlen]; rfl, ?_, ?_, ?_, ?_⟩
            · intro y hy
              rcases List.mem_append.mp hy with h | h
              · exact hnm y h
              · have : y = nm := by simpa using h
                rw [this]; exact nmOk
            · rw [List.nodup_append]
              exact ⟨hnd, by simp, fun a ha b hb => by have : b = nm := by simpa using hb
                                                       rw [this]; exact fun h => hn' (h ▸ ha)⟩
            · exact ph.write hl hpl
            · rw [upd_same, List.map_append]; rfl
    · rintro σ H1 ⟨ys, v4, v5, v6, v7, rfl, hlen, hnm, hnd, pa, hl1⟩
      rw [em] at hlen
      exact ⟨_, rfl, q l ys H1 hl hlen hnm hnd pa hl1⟩
end
end K29
namespace K29
open PySem L2 PySem.W HT
theorem call_list_K {X : Cx} (K : Frag) (h : X.K = K) : CallR X (.type "list") (fun xs H Q => ∃ p ys, xs = [.ref p] ∧ (SqL K H p ys ∨ SqT K H p ys) ∧ ∀ l, H l = none → Q (.ref l) (upd H l (.lst ys))) := by subst h; exact call_list_of
theorem call_anyB_K {X : Cx} (K : Frag) (h : X.K = K) (hc : X.calm = true) : CallR X (.builtin "any") (fun xs H Q => ∃ (p : Addr) (bs : List Bool), xs = [.ref p] ∧ SqL K H p (bs.map V.bl) ∧ Q (.bl (bs.any id)) H) := by subst h; exact call_anyB hc
theorem sl_list_K {X : Cx} (K : Frag) (h : X.K = K) : SlR X (rSlL K) := by subst h; exact sl_list
/-- rows that are lists -/
def RowsA (av : Addr → Prop) (H : Hp) (vs : List V) (rows : List (List Str)) : Prop := Paired (fun y r => ∃ a, y = V.ref a ∧ av a ∧ H a = some (.lst (r.map V.str))) vs rows
theorem rowsA_get {av : Addr → Prop} {H : Hp} : ∀ {vs : List V} {rows : List (List Str)} {i : Nat} {v : V}, RowsA av H vs rows → vs[i]? = some v → ∃ a r, v = V.ref a ∧ rows[i]? = some r ∧ av a ∧ H a = some (.lst (r.map V.str))
  | _, _, i, v, .nil, e => by simp at e
  | _, _, 0, v, .cons p _, e => by
    obtain ⟨a, rfl, n, q⟩ := p
    simp at e; subst e
    exact ⟨a, _, rfl, rfl, n, q⟩
  | _, _, i + 1, v, .cons _ t, e => by
    obtain ⟨a, r, e1, e2, n, q⟩ := rowsA_get (i := i) t (by simpa using e)
    exact ⟨a, r, e1, by simpa using e2, n, q⟩
theorem rowsA_mono {av av' : Addr → Prop} {H H' : Hp} {vs : List V} {rows : List (List Str)} (h : RowsA av H vs rows) (f : ∀ a xs, av a → H a = some (.lst xs) → av' a ∧ H' a = some (.lst xs)) : RowsA av' H' vs rows :=
  Paired.imp' (fun _ _ ⟨a, e, n, q⟩ => ⟨a, e, (f a _ n q).1, (f a _ n q).2⟩) h
theorem rowsA_append {av : Addr → Prop} {H : Hp} {vs : List V} {rows : List (List Str)} {a : Addr} {r : List Str} : RowsA av H vs rows → av a → H a = some (.lst (r.map V.str)) → RowsA av H (vs ++ [.ref a]) (rows ++ [r])
  | .nil, n, q => .cons ⟨a, rfl, n, q⟩ .nil
  | .cons p t, n, q => .cons p (rowsA_append t n q)
theorem rowsA_length {av : Addr → Prop} {H : Hp} {vs : List V} {rows : List (List Str)} (h : RowsA av H vs rows) : vs.length = rows.length := Paired.length h
/-! ### data -/
theorem nm_ok {x : Str} (h : Nm x) : PyData.strOk x = true := by
  unfold PyData.strOk
  rw [← Array.all_toList, List.all_eq_true]; intro c hc; have := (h.az c hc).2; exact decide_eq_true (by omega)
theorem strs_rep (H : Hp) : ∀ xs : List Str, RepAll H (xs.map V.str) (xs.map PyData.str)
  | [] => .nil
  | x :: xs => .cons (.str x) (strs_rep H xs)
theorem strs_lay : ∀ {xs : List Str}, (∀ x ∈ xs, Nm x) → PyData.canLayAll0 (xs.map PyData.str) = true
  | [], _ => rfl
  | x :: xs, h => by
    show (PyData.strOk x && PyData.canLayAll0 (xs.map PyData.str)) = true
    rw [nm_ok (h x List.mem_cons_self), strs_lay fun y hy => h y (List.mem_cons_of_mem _ hy)]; rfl
theorem strs_depth : ∀ xs : List Str, PyData.depthAll (xs.map PyData.str) = 0
  | [] => rfl
  | x :: xs => by rw [List.map_cons]; simp only [PyData.depthAll, PyData.depth, strs_depth xs, Nat.max_self]
/-- a list of texts against [] -/
theorem ne_nil {H : Hp} {a b : Addr} {xs : List Str} {Q : VK} (ha : H a = some (.lst (xs.map V.str))) (hb : H b = some (.lst [])) (hn : ∀ x ∈ xs, Nm x) (q : Q (.bl (!xs.isEmpty)) H) : rNeD (.ref a) (.ref b) H Q := by
  refine ⟨.list (xs.map PyData.str), .list [], .lst ha (strs_rep _ _), .lst hb .nil, strs_lay hn, rfl, by show PyData.depthAll _ + 1 ≤ 60; rw [strs_depth]; decide, ?_⟩
  cases xs with
  | nil => exact q
  | cons x xs => exact q
theorem eq_nil {H : Hp} {a b : Addr} {xs : List Str} {Q : VK} (ha : H a = some (.lst (xs.map V.str))) (hb : H b = some (.lst [])) (hn : ∀ x ∈ xs, Nm x) (q : Q (.bl xs.isEmpty) H) : rEqD (.ref a) (.ref b) H Q := by
  refine ⟨.list (xs.map PyData.str), .list [], .lst ha (strs_rep _ _), .lst hb .nil, strs_lay hn, rfl, by show PyData.depthAll _ + 1 ≤ 60; rw [strs_depth]; decide, ?_⟩
  cases xs with
  | nil => exact q
  | cons x xs => exact q
theorem cut_from (xs : List V) (k : Nat) : cutV xs (some (k : Int)) none = xs.drop k := by
  unfold cutV; rw [HT.sIx_none, HT.sIx_nat]
  by_cases h : k ≤ xs.length
  · rw [Nat.min_eq_left h, List.take_of_length_le (by rw [List.length_drop]; omega)]
  · rw [Nat.min_eq_right (by omega), List.drop_length, List.drop_of_length_le (by omega)]; simp
/-! ### the law's own merging: pure -/
def busy (rest : List (List Str)) (x : Str) : Bool := rest.any fun o => decide (x ∈ o.drop 1)
def freeL (all : List (List Str)) : List (List Str) → List Str
  | [] => []
  | [] :: rest => freeL all rest
  | (x :: _) :: rest => if busy all x then freeL all rest else x :: freeL all rest
theorem wish_none {n : Str} : ∀ {k : Nat} {rest : List (List Str)}, wishFrom k rest n = none ↔ ∀ r ∈ rest, n ∈ r → r.head? = some n
  | k, [] => by simp [wishFrom]
  | k, [] :: rest => by
    show wishFrom (k + 1) rest n = none ↔ _
    rw [wish_none (k := k + 1) (rest := rest)]; simp
  | k, (x :: r) :: rest => by
    show (if n ∈ x :: r ∧ x ≠ n then some (k, x) else wishFrom (k + 1) rest n) = none ↔ _
    by_cases h : n ∈ x :: r ∧ x ≠ n
    · rw [if_pos h]
      constructor
      · intro z; cases z
      · intro z
        have := z _ List.mem_cons_self h.1
        exact absurd (by simpa using this) h.2
    · rw [if_neg h, wish_none (k := k + 1) (rest := rest)]
      constructor
      · intro z q hq hn
        rcases List.mem_cons.mp hq with rfl | hq
        · by_cases e : x = n
          · rw [e]; rfl
          · exact absurd ⟨hn, e⟩ h
        · exact z q hq hn
      · exact fun z q hq => z q (List.mem_cons_of_mem _ hq)
theorem busy_iff {all : List (List Str)} (hnd : ∀ r ∈ all, r.Nodup) (x : Str) : busy all x = false ↔ wishFrom 0 all x = none := by
  rw [wish_none]
  unfold busy
  rw [List.any_eq_false]
  constructor
  · intro h q hq hx
    have h1 := h q hq
    cases q with
    | nil => simp at hx
    | cons y t =>
      rcases List.mem_cons.mp hx with rfl | hx
      · rfl
      · exact absurd (by simpa using hx) h1
  · intro h r hr
    cases r with
    | nil => simp
    | cons y t =>
      intro hx
      have hx : x ∈ t := by simpa using hx
      obtain rfl : y = x := by simpa using h _ hr (List.mem_cons_of_mem _ hx)
      exact (List.nodup_cons.mp (hnd _ hr)).1 hx
theorem freeL_head {all : List (List Str)} (hnd : ∀ r ∈ all, r.Nodup) : ∀ rest : List (List Str), (freeL all rest).head? = freeFrom all rest
  | [] => rfl
  | [] :: rest => freeL_head hnd rest
  | (x :: t) :: rest => by
    show (if busy all x then freeL all rest else x :: freeL all rest).head? = if (wishFrom 0 all x).isNone then some x else freeFrom all rest
    cases hb : busy all x with
    | false => rw [(busy_iff hnd x).mp hb]; rfl
    | true =>
      have hn : (wishFrom 0 all x).isNone = false := by
        cases z : wishFrom 0 all x with
        | none => rw [(busy_iff hnd x).mpr z] at hb; cases hb
        | some _ => rfl
      rw [hn]
      exact freeL_head hnd rest
theorem freeL_snoc (all : List (List Str)) (r : List Str) : ∀ rest : List (List Str), freeL all (rest ++ [r]) = freeL all rest ++ freeL all [r]
  | [] => rfl
  | [] :: rest => freeL_snoc all r rest
  | (x :: t) :: rest => by
    show (if busy all x then freeL all (rest ++ [r]) else x :: freeL all (rest ++ [r])) = (if busy all x then freeL all rest else x :: freeL all rest) ++ freeL all [r]
    rw [freeL_snoc all r rest]
    split <;> rfl
theorem freeL_len (all : List (List Str)) : ∀ rest : List (List Str), (freeL all rest).length ≤ rest.length
  | [] => Nat.le_refl _
  | [] :: rest => Nat.le_succ_of_le (freeL_len all rest)
  | (x :: t) :: rest => by
    have := freeL_len all rest
    show (if busy all x then freeL all rest else x :: freeL all rest).length ≤ rest.length + 1
    split
    · omega
    · rw [List.length_cons]; omega
theorem freeL_mem {all : List (List Str)} {n : Str} : ∀ {rest : List (List Str)}, n ∈ freeL all rest → ∃ r ∈ rest, n ∈ r
  | [], h => by simp [freeL] at h
  | [] :: rest, h => let ⟨r, hr, e⟩ := freeL_mem (rest := rest) h; ⟨r, List.mem_cons_of_mem _ hr, e⟩
  | (x :: t) :: rest, h => by
    have h : n ∈ (if busy all x then freeL all rest else x :: freeL all rest) := h
    split at h
    · obtain ⟨r, hr, e⟩ := freeL_mem (rest := rest) h
      exact ⟨r, List.mem_cons_of_mem _ hr, e⟩
    · rcases List.mem_cons.mp h with rfl | h
      · exact ⟨_, List.mem_cons_self, List.mem_cons_self⟩
      · obtain ⟨r, hr, e⟩ := freeL_mem (rest := rest) h
        exact ⟨r, List.mem_cons_of_mem _ hr, e⟩
theorem nd_without {n : Str} {rest : List (List Str)} (h : ∀ r ∈ rest, r.Nodup) : ∀ r ∈ L2.without n rest, r.Nodup := by
  intro r hr
  obtain ⟨q, hq, rfl⟩ := List.mem_map.mp hr
  exact (h q hq).filter _
/-- the walk's word -/
structure LInv (H : Hp) (rows : List (List Str)) (l fa : Addr) (m : Nat) (σ : St) (H1 : Hp) (rest : List (List Str)) (lv : List V) (acc : List Str) (la : Addr) : Prop where
  st : ∃ v3 : Option V, σ = [some (.ref l), some (.ref la), some (.ref fa), v3]
  mm : m = total rest
  hla : H1 la = some (.lst lv)
  rr : RowsA (fun a => a ≠ fa) H1 lv rest
  ne : la ≠ fa
  hfa : H1 fa = some (.lst (acc.map V.str))
  sm : Small rest
  nd : ∀ r ∈ rest, r.Nodup
  same : Same H H1
  lim : acc.length + total rest ≤ 1000
  eq : mergeG (total rows) rows = (mergeG (total rest) rest).map (acc ++ ·)
abbrev nLM : List Str := ["_law_rows", "_law_left", "_law_found", "_law_free"]
theorem scLM : FnScope nLM ["_law_rows"] (defScope sLMerged) := ⟨rfl, rfl, rfl, by decide +kernel, rfl, by decide +kernel, by decide +kernel⟩
def whileTest (s : Stmt) : Expr := match s with | .While t _ _ _ => t | _ => .Constant .none 0 ⟨0, 0, 0, 0⟩
def compIf (e : Expr) : Expr := match e with | .ListComp _ (⟨_, _, i :: _, _⟩ :: _) _ _ => i | _ => .Constant .none 0 ⟨0, 0, 0, 0⟩
def boolAt (e : Expr) (i : Nat) : Expr := match e with | .BoolOp _ es _ => es.getD i (.Constant .none 0 ⟨0, 0, 0, 0⟩) | _ => .Constant .none 0 ⟨0, 0, 0, 0⟩
def notV (e : Expr) : Expr := match e with | .UnaryOp _ x _ => x | _ => .Constant .none 0 ⟨0, 0, 0, 0⟩
abbrev sW : Stmt := bodyAt (defBody sLMerged) 2
abbrev eA : Expr := asgV (bodyAt (defBody sLMerged) 0)
abbrev eB : Expr := arg0 (whileTest sW)
abbrev eC : Expr := asgV (bodyAt (whileBody sW) 0)
abbrev eD : Expr := arg0 (notV (boolAt (compIf eC) 1))
abbrev eE : Expr := asgV (bodyAt (whileBody sW) 3)
theorem csA : CompScope nLM (defScope sLMerged) ["_law_row"] [none] (compSc eA) := ⟨rfl, by decide +kernel, by decide +kernel, rfl, fv_of (by decide +kernel), by decide +kernel⟩
theorem csB : CompScope nLM (defScope sLMerged) ["_law_row"] [none] (compSc eB) := ⟨rfl, by decide +kernel, by decide +kernel, rfl, fv_of (by decide +kernel), by decide +kernel⟩
theorem csC : CompScope nLM (defScope sLMerged) ["_law_row", "_law_left"] [none, some 1] (compSc eC) := ⟨rfl, by decide +kernel, by decide +kernel, rfl, fv_of (by decide +kernel), by decide +kernel⟩
theorem csD {env : Env} : CompScope ["_law_row", "_law_left"] (relabel (compSc eC) env) ["_law_other", "_law_row"] [none, some 0] (compSc eD) := nest rfl (by decide +kernel) (by decide +kernel) rfl (by decide +kernel) (by decide +kernel)
theorem ndD : (["_law_other", "_law_row"] : List Str).Nodup := by decide +kernel
theorem csE : CompScope nLM (defScope sLMerged) ["_law_row", "_law_free"] [none, some 3] (compSc eE) := ⟨rfl, by decide +kernel, by decide +kernel, rfl, fv_of (by decide +kernel), by decide +kernel⟩
theorem csG {env : Env} : CompScope ["_law_row", "_law_free"] (relabel (compSc eE) env) ["_law_name", "_law_free"] [none, some 1] (compSc (eltOf eE)) := nest rfl (by decide +kernel) (by decide +kernel) rfl (by decide +kernel) (by decide +kernel)
theorem ndG : (["_law_name", "_law_free"] : List Str).Nodup := by decide +kernel
section
variable {P : Program} {w : World} {K : Frag} {mg : Str → Option Value} {base : Heap} {f : Addr} {fd : FuncData}
@[irreducible] def spLM : Sp := fun vs H Q _ => ∃ (l : Addr) (ws : List V) (rows : List (List Str)), vs = [.ref l] ∧ H l = some (.lst ws) ∧ RowsA (fun _ => True) H ws rows ∧ Small rows ∧ (∀ r ∈ rows, r.Nodup) ∧
  (mergeG (total rows) rows = none → ∀ H', Same H H' → Q .non H') ∧ (∀ o, mergeG (total rows) rows = some o → ∀ p H', H p = none → Same H H' → H' p = some (.lst (o.map V.str)) → Q (.ref p) H')
theorem ok_lm (F : Fun K "_law_merged" "_law_merged" sLMerged f fd) (B : Blt mg) : FnOk P w K mg base CX0 1 f fd ["_law_rows"] spLM := by
  refine F.ok scLM (fun vs H Q E h => ?_) (fun cdv A outer s H vs Q E hr h => ?_)
  · unfold spLM at h; obtain ⟨l, ws, rows, rfl, _⟩ := h; rfl
  · unfold spLM at h
    obtain ⟨l, ws, rows, rfl, hl, hR, hS, hnd, qn, qs⟩ := h
    have hu := hr.units
    refine ⟨_, pss_cons (ps_set (i := 1) scLM.nd rfl (Or.inr rfl) (pe_comp rfl csA (pi_list (pv 0)) (fun s H fp => ⟨pg_name (i := 0) csA.nd rfl (Or.inl rfl), pifs_nil, pe_callTy (call_list_K K rfl) rfl B.list boot_list (pa_cons (pv 0) pa_nil)⟩)))
      (pss_cons (ps_set (i := 2) scLM.nd rfl (Or.inl rfl) (pe_lst pa_nil))
      (pss_cons (ps_while PassesOwn.never (pt_truth (pe_callB (call_anyB rfl) rfl B.any boot_any (pa_cons (pe_comp rfl csB (pi_list (pv 1)) (fun s H fp => ⟨pg_name (i := 0) csB.nd rfl (Or.inl rfl), pifs_nil, pe_cmpR (op_neD hu) (pv 0) (pe_lst pa_nil) (nomark _)⟩)) pa_nil)) (fun _ => rfl))
        (pss_cons (ps_set (i := 3) scLM.nd rfl (Or.inr rfl) (pe_comp rfl csC (pi_list (pv 1)) (fun s H fp => ⟨pg_name (i := 0) csC.nd rfl (Or.inr rfl),
            pifs_one (PW.pt (pw_and (pt_cmpR (op_neD hu) (pv 0) (pe_lst pa_nil) (nomark _)) (pw_and1 (pt_not (pt_val (pe_callB (call_anyB_K K rfl rfl) rfl B.any boot_any (pa_cons (pe_comp rfl csD (pi_list_K K rfl (pv 1)) (fun s H fp => ⟨pg_name (i := 0) ndD rfl (Or.inl rfl), pifs_nil, pe_cmpR (op_in_K K rfl) (pe_ix (ix_list_K K rfl) (pv 1) pe_int (fun _ _ => rfl)) (pe_slice (sl_list_K K rfl) (pv 0) (po_some pe_int) po_none) rfl⟩)) pa_nil))))))),
            pe_ix (ix_list_K K rfl) (pv 0) pe_int (fun _ _ => rfl)⟩)))
        (pss_cons (ps_if (pt_cmpR (op_eqD hu) (pv 3) (pe_lst pa_nil) (nomark _)) (pss_one (ps_ret pe_non)) pss_nil)
        (pss_cons (ps_expr (pe_bm PySem.F.plainAttrs_list PySem.F.slot_list_append PySem.F.type_list_append mt_append (pv 2) (pa_cons (pe_ix ix_list (pv 3) pe_int (fun _ _ => rfl)) pa_nil)))
        (pss_one (ps_set (i := 1) scLM.nd rfl (Or.inr rfl) (pe_comp rfl csE (pi_list (pv 1)) (fun s H fp => ⟨pg_name (i := 0) csE.nd rfl (Or.inl rfl), pifs_nil,
            pe_comp rfl csG (pi_list_K K rfl (pv 0)) (fun s H fp => ⟨pg_name (i := 0) ndG rfl (Or.inl rfl), pifs_one (pt_cmpR op_ne (pv 0) (pe_ix (ix_list_K K rfl) (pv 1) pe_int (fun _ _ => rfl)) (nomark _)), pv 0⟩)⟩))))))))
      (pss_one (ps_ret (pv 2))))), ?_⟩
    refine ⟨_, rfl, l, rfl, ⟨_, SqL.of hl⟩, fun la0 hla0 => ?_⟩
    refine comp_list (xs := ws) (fun i ys τ H1 => ∃ t0 : Option V, τ = [t0] ∧ H1 la0 = some (.lst ys) ∧ Same H H1 ∧ RowsA (fun a => a ≠ la0) H1 ys (rows.take i)) ⟨none, rfl, upd_same, same_new hla0, .nil⟩ (fun i ys τ H1 ⟨_, _, z1, z2, _⟩ => ⟨z1, SqL.of (z2 _ _ hl)⟩) ?_ ?_
    · rintro i x ys τ H1 hx ⟨t0, rfl, h1, S1, hR1⟩
      obtain ⟨a, r, rfl, hri, _, har⟩ := rowsA_get hR hx
      have hlt : i < ws.length := (List.getElem?_eq_some_iff.mp hx).1
      have tk : rows.take (i + 1) = rows.take i ++ [r] := by rw [List.take_succ, hri]; rfl
      refine ⟨_, rfl, a, _, rfl, .inl (SqL.of (S1 _ _ har)), fun c hc => ?_⟩
      have Sc := same_new (o := .lst (r.map V.str)) hc
      have ncl : c ≠ la0 := Ne.symm (ne_of_none h1 hc)
      refine ⟨Sc _ _ h1, ?_, cw_next hlt ⟨_, rfl, upd_same, fun b o hb => ?_, ?_⟩⟩
      · have h2 := rowsA_length hR1
        have h3 := hS.few
        rw [List.length_take] at h2
        rw [sizeLine_eq]; omega
      · rw [upd_ne (ne_of_none hb hla0)]; exact Sc _ _ (S1 b o hb)
      · rw [tk]
        refine rowsA_append (rowsA_mono hR1 fun b xs nb hb => ⟨nb, by rw [upd_ne nb]; exact Sc _ _ hb⟩) ncl ?_
        rw [upd_ne ncl]; exact upd_same
    · rintro lv0 τ H1 ⟨t0, rfl, h1, S1, hR1⟩
      rw [rowsA_length hR, List.take_length] at hR1
      refine ⟨Nat.zero_le _, fun fa hfa => ?_⟩
      have Sf := same_new (o := .lst []) hfa
      have hfaH : H fa = none := S1.free hfa
      refine ⟨fun m σ H2 => ∃ rest lv acc la, LInv H rows l fa m σ H2 rest lv acc la, ⟨_, rows, lv0, [], la0, ⟨none, rfl⟩, rfl, Sf _ _ h1, rowsA_mono hR1 fun b xs nb hb => ⟨ne_of_none hb hfa, Sf _ _ hb⟩, ne_of_none h1 hfa, upd_same, hS, hnd, S1.trans Sf, by have := small_total hS.short; have := hS.few; simp only [List.length_nil]; omega, by cases mergeG (total rows) rows <;> rfl⟩, ?_⟩
      rintro m σ H2 ⟨rest, lv, acc, la, R⟩
      obtain ⟨v3, rfl⟩ := R.st
      refine ⟨_, rfl, la, rfl, ⟨_, SqL.of R.hla⟩, fun pb hpb => ?_⟩
      refine comp_list (xs := lv) (fun i ys τ H3 => ∃ t0 : Option V, τ = [t0] ∧ ys = ((rest.take i).map fun r => !r.isEmpty).map V.bl ∧ H3 pb = some (.lst ys) ∧ Same H2 H3) ⟨none, rfl, rfl, upd_same, same_new hpb⟩ (fun i ys τ H3 ⟨_, _, _, z1, z2⟩ => ⟨z1, SqL.of (z2 _ _ R.hla)⟩) ?_ ?_
      · rintro i x ys τ H3 hx ⟨t0, rfl, rfl, h3, S3⟩
        obtain ⟨a, r, rfl, hri, _, har⟩ := rowsA_get R.rr hx
        have hlt : i < lv.length := (List.getElem?_eq_some_iff.mp hx).1
        have tk : rest.take (i + 1) = rest.take i ++ [r] := by rw [List.take_succ, hri]; rfl
        have hrm := List.mem_of_getElem? hri
        refine ⟨_, rfl, Nat.zero_le _, fun z hz => ?_⟩
        have Sz := same_new (o := .lst []) hz
        refine ne_nil (Sz _ _ (S3 _ _ har)) upd_same (R.sm.nm r hrm) ?_
        refine ⟨Sz _ _ h3, ?_, cw_next hlt ⟨_, rfl, by rw [tk, List.map_append, List.map_append]; rfl, upd_same, fun b o hb => by rw [upd_ne (ne_of_none hb hpb)]; exact Sz _ _ (S3 b o hb)⟩⟩
        have h4 := R.sm.few
        rw [List.length_map, List.length_map, List.length_take, sizeLine_eq]; omega
      · rintro bs τ H3 ⟨t0, rfl, rfl, h3, S3⟩
        rw [rowsA_length R.rr, List.take_length] at h3
        refine ⟨pb, _, rfl, SqL.of h3, _, rfl, ?_⟩
        have ean : ((rest.map fun r => !r.isEmpty).any id) = rest.any fun r => !r.isEmpty := by rw [List.any_map]; rfl
        rw [ean]
        have hla3 := S3 _ _ R.hla
        have hfa3 := S3 _ _ R.hfa
        have rr3 : RowsA (fun a => a ≠ fa) H3 lv rest := rowsA_mono R.rr fun b xs nb hb => ⟨nb, S3 _ _ hb⟩
        have SH3 := R.same.trans S3
        refine ite2 (fun hA => ?_) (fun hA => ?_)
        · refine ⟨fun σ' H' => ∃ m', m' < m ∧ ∃ rest lv acc la, LInv H rows l fa m' σ' H' rest lv acc la, fun _ _ z => z, ?_⟩
          refine ⟨_, rfl, la, rfl, ⟨_, SqL.of hla3⟩, fun pc hpc => ?_⟩
          refine comp_list (xs := lv) (fun i ys τ H4 => ∃ t0 : Option V, τ = [t0, some (.ref la)] ∧ ys = (freeL rest (rest.take i)).map V.str ∧ H4 pc = some (.lst ys) ∧ Same H3 H4) ⟨none, rfl, rfl, upd_same, same_new hpc⟩ (fun i ys τ H4 ⟨_, _, _, z1, z2⟩ => ⟨z1, SqL.of (z2 _ _ hla3)⟩) ?_ ?_
          · rintro i x ys τ H4 hx ⟨t0, rfl, rfl, h4, S4⟩
            obtain ⟨a, r, rfl, hri, _, har⟩ := rowsA_get rr3 hx
            have hlt : i < lv.length := (List.getElem?_eq_some_iff.mp hx).1
            have tk : rest.take (i + 1) = rest.take i ++ [r] := by rw [List.take_succ, hri]; rfl
            have hrm := List.mem_of_getElem? hri
            have har4 := S4 _ _ har
            refine ⟨_, rfl, Nat.zero_le _, fun z hz => ?_⟩
            have Sz := same_new (o := .lst []) hz
            refine ne_nil (Sz _ _ har4) upd_same (R.sm.nm r hrm) ⟨_, rfl, ?_⟩
            have h5 := Sz _ _ h4
            cases r with
            | nil => exact cw_next hlt ⟨_, rfl, by rw [tk, freeL_snoc]; show _ = (_ ++ []).map _; rw [List.append_nil], h5, S4.trans Sz⟩
            | cons y t =>
              refine ⟨_, rfl, la, rfl, ⟨_, SqL.of (Sz _ _ (S4 _ _ hla3))⟩, fun pd hpd => ?_⟩
              have npd : pc ≠ pd := ne_of_none h5 hpd
              refine comp_list (xs := lv) (fun j ys τ H6 => ∃ t1 : Option V, τ = [t1, some (.ref a)] ∧ ys = ((rest.take j).map fun o => decide (y ∈ o.drop 1)).map V.bl ∧ H6 pd = some (.lst ys) ∧ Same (upd H4 z (.lst [])) H6) ⟨none, rfl, rfl, upd_same, same_new hpd⟩ (fun j ys τ H6 ⟨_, _, _, z1, z2⟩ => ⟨z1, SqL.of (z2 _ _ (Sz _ _ (S4 _ _ hla3)))⟩) ?_ ?_
              · rintro j x ys τ H6 hxj ⟨t1, rfl, rfl, h6, S6⟩
                obtain ⟨b, o, rfl, hoj, _, hob⟩ := rowsA_get rr3 hxj
                have hjl : j < lv.length := (List.getElem?_eq_some_iff.mp hxj).1
                have tkj : rest.take (j + 1) = rest.take j ++ [o] := by rw [List.take_succ, hoj]; rfl
                have S36 := S4.trans (Sz.trans S6)
                refine ⟨_, rfl, a, _, 0, .str y, rfl, rfl, SqL.of (S36 _ _ har), at0, ?_⟩
                refine ⟨_, rfl, _, rfl, b, _, rfl, SqL.of (S36 _ _ hob), fun p2 hp2 => ?_⟩
                have ec : cutV (o.map V.str) (some 1) none = (o.drop 1).map V.str := by
                  rw [show (1 : Int) = ((1 : Nat) : Int) from rfl, cut_from, List.map_drop]
                rw [ec]
                have S7 := same_new (o := .lst ((o.drop 1).map V.str)) hp2
                refine ⟨p2, _, rfl, .inl (SqL.of upd_same), rfl, flat_strs _, ?_⟩
                rw [if_neg Bool.false_ne_true, inV_strs]
                refine ⟨S7 _ _ h6, ?_, cw_next hjl ⟨_, rfl, by rw [tkj, List.map_append, List.map_append]; rfl, upd_same, fun c u hc => by rw [upd_ne (ne_of_none hc hpd)]; exact S7 _ _ (S6 c u hc)⟩⟩
                have h8 := R.sm.few
                rw [List.length_map, List.length_map, List.length_take, sizeLine_eq]; omega
              · rintro bs2 τ H6 ⟨t1, rfl, rfl, h6, S6⟩
                rw [rowsA_length rr3, List.take_length] at h6
                refine ⟨pd, _, rfl, SqL.of h6, _, rfl, ?_⟩
                have eb : ((rest.map fun o => decide (y ∈ o.drop 1)).any id) = busy rest y := by unfold busy; rw [List.any_map]; rfl
                rw [eb]
                have S46 := Sz.trans S6
                cases hb : busy rest y with
                | true =>
                  refine cw_next hlt ⟨_, rfl, ?_, S6 _ _ h5, S4.trans S46⟩
                  rw [tk, freeL_snoc]
                  show _ = (_ ++ (if busy rest y then freeL rest [] else y :: freeL rest [])).map _
                  rw [hb]; show _ = (_ ++ []).map _; rw [List.append_nil]
                | false =>
                  refine ⟨_, rfl, a, _, 0, .str y, rfl, rfl, SqL.of (S46 _ _ har4), at0, S6 _ _ h5, ?_, cw_next hlt ⟨_, rfl, ?_, upd_same, fun c u hc => by rw [upd_ne (ne_of_none hc hpc)]; exact S46 _ _ (S4 c u hc)⟩⟩
                  · have h8 := freeL_len rest (rest.take i)
                    have h9 := R.sm.few
                    rw [List.length_take] at h8
                    rw [List.length_map, sizeLine_eq]; omega
                  · rw [tk, freeL_snoc]
                    show _ = (_ ++ (if busy rest y then freeL rest [] else y :: freeL rest [])).map _
                    rw [hb, List.map_append]; rfl
          · rintro fr τ H4 ⟨t0, rfl, rfl, h4, S4⟩
            rw [rowsA_length rr3, List.take_length] at h4
            have fnm : ∀ x ∈ freeL rest rest, Nm x := fun x hx => by
              obtain ⟨r, hr, e⟩ := freeL_mem hx
              exact R.sm.nm r hr x e
            have hfh := freeL_head R.nd rest
            refine ⟨_, rfl, Nat.zero_le _, fun z hz => ?_⟩
            have Sz := same_new (o := .lst []) hz
            refine eq_nil (Sz _ _ h4) upd_same fnm ⟨_, rfl, ?_⟩
            have hlf : leastFree rest = (freeL rest rest).head? := hfh.symm
            have SH5 := SH3.trans (S4.trans Sz)
            have h5 := Sz _ _ h4
            have hla5 := Sz _ _ (S4 _ _ hla3)
            have hfa5 := Sz _ _ (S4 _ _ hfa3)
            generalize freeL rest rest = fr at hlf h5 fnm ⊢
            cases fr with
            | nil =>
              refine qn ?_ _ SH5
              rw [R.eq, merge_none hA hlf]; rfl
            | cons n ft =>
              have e : leastFree rest = some n := hlf
              have lt := total_without_lt (least_mem e)
              generalize hG : upd H4 z (.lst []) = G at SH5 h5 hla5 hfa5 Sz ⊢
              have rrG : RowsA (fun a => a ≠ fa) G lv rest := rowsA_mono rr3 fun b xs nb hb => ⟨nb, Sz _ _ (S4 _ _ hb)⟩
              refine ⟨_, rfl, .inl ⟨rfl, _, SqL.of hfa5⟩, _, rfl, pc, _, 0, .str n, rfl, rfl, SqL.of h5, at0, fa, _, _, rfl, rfl, hfa5, by have := R.lim; rw [List.length_map, sizeLine_eq]; omega, ?_⟩
              have npf : pc ≠ fa := Ne.symm (ne_of_none hfa3 hpc)
              have h6 : (upd G fa (.lst (acc.map V.str ++ [.str n]))) pc = some (.lst ((n :: ft).map V.str)) := by rw [upd_ne npf]; exact h5
              have hla6 : (upd G fa (.lst (acc.map V.str ++ [.str n]))) la = some (.lst lv) := by rw [upd_ne R.ne]; exact hla5
              have hfa6 : (upd G fa (.lst (acc.map V.str ++ [.str n]))) fa = some (.lst ((acc ++ [n]).map V.str)) := by rw [upd_same, List.map_append]; rfl
              have SH6 : Same H (upd G fa (.lst (acc.map V.str ++ [.str n]))) := fun b o hb => by rw [upd_ne (ne_of_none hb hfaH)]; exact SH5 b o hb
              have rr6 : RowsA (fun a => a ≠ fa) (upd G fa (.lst (acc.map V.str ++ [.str n]))) lv rest := rowsA_mono rrG fun b xs nb hb => ⟨nb, by rw [upd_ne nb]; exact hb⟩
              generalize upd G fa (.lst (acc.map V.str ++ [.str n])) = G6 at h6 hla6 hfa6 SH6 rr6 ⊢
              refine ⟨_, rfl, la, rfl, ⟨_, SqL.of hla6⟩, fun le hle => ?_⟩
              have nle : le ≠ fa := Ne.symm (ne_of_none hfa6 hle)
              refine comp_list (xs := lv) (fun i ys τ H7 => ∃ t0 : Option V, τ = [t0, some (.ref pc)] ∧ H7 le = some (.lst ys) ∧ Same G6 H7 ∧ RowsA (fun a => a ≠ fa ∧ a ≠ le) H7 ys (L2.without n (rest.take i))) ⟨none, rfl, upd_same, same_new hle, .nil⟩ (fun i ys τ H7 ⟨_, _, z1, z2, _⟩ => ⟨z1, SqL.of (z2 _ _ hla6)⟩) ?_ ?_
              · rintro i x ys τ H7 hx ⟨t0, rfl, h7, S7, hR7⟩
                obtain ⟨a, r, rfl, hri, _, har⟩ := rowsA_get rr6 hx
                have hlt : i < lv.length := (List.getElem?_eq_some_iff.mp hx).1
                have tk : rest.take (i + 1) = rest.take i ++ [r] := by rw [List.take_succ, hri]; rfl
                have hrm := List.mem_of_getElem? hri
                have har7 := S7 _ _ har
                have hpc7 := S7 _ _ h6
                refine ⟨_, rfl, a, rfl, ⟨_, SqL.of har7⟩, fun b1 hb1 => ?_⟩
                have nab : a ≠ b1 := ne_of_none har7 hb1
                have npb : pc ≠ b1 := ne_of_none hpc7 hb1
                have nbl : b1 ≠ le := Ne.symm (ne_of_none h7 hb1)
                have nbf : b1 ≠ fa := Ne.symm (ne_of_none (S7 _ _ hfa6) hb1)
                refine comp_list (xs := r.map V.str) (fun j zs τ' H8 => ∃ t1 : Option V, τ' = [t1, some (.ref pc)] ∧ zs = ((r.take j).filter fun y => !decide (y = n)).map V.str ∧ H8 = upd H7 b1 (.lst zs)) ⟨none, rfl, rfl, rfl⟩ (fun j zs τ' H8 ⟨_, _, _, z⟩ => by rw [z]; exact ⟨upd_same, SqL.of (by rw [upd_ne nab]; exact har7)⟩) ?_ ?_
                · rintro j x zs τ' H8 hx' ⟨t1, rfl, rfl, rfl⟩
                  have hjl : j < (r.map V.str).length := (List.getElem?_eq_some_iff.mp hx').1
                  have hjr : j < r.length := by simpa using hjl
                  obtain rfl : V.str r[j] = x := by simpa [hjr] using hx'
                  have tkj : r.take (j + 1) = r.take j ++ [r[j]] := by rw [List.take_succ, List.getElem?_eq_getElem hjr]; rfl
                  refine ⟨_, rfl, _, rfl, pc, _, 0, .str n, rfl, rfl, SqL.of (by rw [upd_ne npb]; exact hpc7), at0, rfl, _, rfl, ?_⟩
                  refine ite2 (fun hne => ?_) (fun hne => ?_)
                  · have hne' : r[j] ≠ n := fun z => by rw [z] at hne; simp at hne
                    refine ⟨_, rfl, upd_same, ?_, cw_next hjl ⟨_, rfl, ?_, by rw [upd_upd]⟩⟩
                    · have h1 := List.length_filter_le (fun y => !decide (y = n)) (r.take j)
                      have h2 : (r.take j).length ≤ r.length := by rw [List.length_take]; omega
                      have h3 := R.sm.short r hrm
                      rw [List.length_map, sizeLine_eq]; omega
                    · rw [tkj, List.filter_append, List.map_append, List.filter_cons_of_pos (by simpa using hne')]; rfl
                  · have hy : r[j] = n := by
                      by_cases z : r[j] = n
                      · exact z
                      · exact absurd (by simp [z]) hne
                    refine cw_next hjl ⟨_, rfl, ?_, rfl⟩
                    rw [tkj]; simp [hy]
                · rintro zs τ' H8 ⟨t1, rfl, rfl, rfl⟩
                  rw [List.length_map, List.take_length]
                  have Sb := same_new (o := .lst ((r.filter fun y => !decide (y = n)).map V.str)) hb1
                  refine ⟨Sb _ _ h7, ?_, cw_next hlt ⟨_, rfl, upd_same, fun b o hb => ?_, ?_⟩⟩
                  · have h1 := rowsA_length hR7
                    have h2 : (L2.without n (rest.take i)).length ≤ rest.length := by unfold L2.without; rw [List.length_map, List.length_take]; omega
                    have h3 := R.sm.few
                    rw [sizeLine_eq]; omega
                  · rw [upd_ne (ne_of_none hb hle)]; exact Sb _ _ (S7 b o hb)
                  · have e1 : L2.without n (rest.take (i + 1)) = L2.without n (rest.take i) ++ [r.filter fun y => !decide (y = n)] := by rw [tk]; unfold L2.without; rw [List.map_append]; rfl
                    rw [e1]
                    refine rowsA_append (rowsA_mono hR7 fun b xs nb hb => ⟨nb, by rw [upd_ne nb.2]; exact Sb _ _ hb⟩) ⟨nbf, nbl⟩ ?_
                    rw [upd_ne nbl]; exact upd_same
              · rintro ys τ H7 ⟨t0, rfl, h7, S7, hR7⟩
                rw [rowsA_length rr6, List.take_length] at hR7
                refine ⟨_, by rw [R.mm]; exact lt, L2.without n rest, ys, acc ++ [n], le, ⟨_, rfl⟩, rfl, h7, rowsA_mono hR7 fun b xs nb hb => ⟨nb.1, hb⟩, nle, S7 _ _ hfa6, without_small R.sm, nd_without R.nd, SH6.trans S7, ?_, ?_⟩
                · have := R.lim; rw [List.length_append, List.length_singleton]; omega
                · rw [R.eq, merge_some hA e, Option.map_map]
                  congr 1
                  funext z
                  simp
        · refine ⟨_, rfl, qs acc ?_ fa H3 hfaH SH3 hfa3⟩
          rw [R.eq, merge_stop (by simpa using hA)]
          show some (acc ++ []) = some acc
          rw [List.append_nil]
end
end K29
namespace K29
open PySem L2 PySem.W HT
structure Blt2 (mg : Str → Option Value) : Prop where
  isi : mg "isinstance" = none
  str : mg "str" = none
  dict : mg "dict" = none
  sorted : mg "sorted" = none
theorem boot_isi : bootBuiltins "isinstance" = some (.builtin "isinstance") := by decide +kernel
theorem boot_str : bootBuiltins "str" = some (.type "str") := by decide +kernel
theorem boot_dict : bootBuiltins "dict" = some (.type "dict") := by decide +kernel
theorem boot_sorted : bootBuiltins "sorted" = some (.builtin "sorted") := by decide +kernel
theorem boot_all : bootBuiltins "all" = some (.builtin "all") := by decide +kernel
theorem call_allB_K {X : Cx} (K : Frag) (h : X.K = K) (hc : X.calm = true) : CallR X (.builtin "all") (fun xs H Q => ∃ (p : Addr) (bs : List Bool), xs = [.ref p] ∧ SqL K H p (bs.map V.bl) ∧ Q (.bl (bs.all id)) H) := by subst h; exact call_allB hc
theorem ite_ff {A B : Prop} {k : Bool} (hk : k = false) (h : B) : if k = true then A else B := by subst hk; exact h
theorem ite_tt {A B : Prop} {k : Bool} (hk : k = true) (h : A) : if k = true then A else B := by subst hk; exact h
section
variable {P : Program} {w : World} {K : Frag} {mg : Str → Option Value} {base : Heap} {f : Addr} {fd : FuncData}
@[irreducible] def spName : Sp := fun vs H Q _ => ∃ x : Str, vs = [.str x] ∧ Nm x ∧ ∀ H', Same H H' → Q (.bl true) H'
theorem name_sp {x : Str} {H : Hp} {Q : VK} {E : XK} (h : Nm x) (q : ∀ H', Same H H' → Q (.bl true) H') : spName [.str x] H Q E := by unfold spName; exact ⟨x, rfl, h, q⟩
theorem scName : FnScope ["thing"] ["thing"] (defScope sIsName) := ⟨rfl, rfl, rfl, by decide +kernel, rfl, by decide +kernel, by decide +kernel⟩
abbrev eSig : Expr := arg0 (retV (bodyAt (defBody sIsName) 1))
theorem csSig : CompScope ["thing"] (defScope sIsName) ["sign"] [none] (compSc eSig) := ⟨rfl, by decide +kernel, by decide +kernel, rfl, fv_of (by decide +kernel), by decide +kernel⟩
theorem ok_name (F : Fun K "is_name" "is_name" sIsName f fd) (B : Blt mg) (B2 : Blt2 mg) : FnOk P w K mg base CX0 1 f fd ["thing"] spName := by
  refine F.ok scName (fun vs H Q E h => ?_) (fun cdv A outer s H vs Q E hr h => ?_)
  · unfold spName at h; obtain ⟨x, rfl, _⟩ := h; rfl
  · unfold spName at h
    obtain ⟨x, rfl, hx, q⟩ := h
    have hu := hr.units
    refine ⟨_, pss_cons (ps_if (PW.pt (pw_or (pt_not (pt_val (pe_callB call_isi rfl B2.isi boot_isi (pa_cons (pv 0) (pa_cons (pe_bltn (v := .ty "str") rfl B2.str boot_str rfl) pa_nil)))))
          (pw_or1 (pt_not (pt_chain op_le op_le pe_int (pe_callB call_len_str rfl B.len boot_len (pa_cons (pv 0) pa_nil)) pe_int))))) (pss_one (ps_ret pe_bl)) pss_nil)
      (pss_one (ps_ret (pe_callB (call_allB rfl) rfl B.all boot_all (pa_cons (pe_comp rfl csSig (pi_str (pv 0)) (fun s H fp => ⟨pg_name (i := 0) csSig.nd rfl (Or.inl rfl), pifs_nil, pe_chain op_le_str op_le_str pe_str (pv 0) pe_str⟩)) pa_nil)))), ?_⟩
    have hl1 := hx.lo
    have hl2 := hx.hi
    have hlc : x.cps.size ≤ 8 := hx.hi
    refine ⟨_, rfl, ⟨_, .inr ⟨"str", rfl⟩⟩, .str x, .ty "str", .type "str", .type "str", true, rfl, rfl, .inl (.str x), rfl, true, rfl, ?_⟩
    refine ⟨_, rfl, x, rfl, by rw [sizeLine_eq]; omega, 1, x.length, rfl, rfl, _, rfl, ?_⟩
    refine ite_tt (decide_eq_true (by omega)) ?_
    refine ⟨x.length, 8, rfl, rfl, _, rfl, ?_⟩
    have e8 : decide ((x.length : Int) ≤ 8) = true := decide_eq_true (by omega)
    rw [e8]
    refine ⟨_, rfl, x, rfl, fun p hp => ?_⟩
    refine comp_str (fun i ys τ H1 => ∃ t0 : Option V, τ = [t0] ∧ ys = (List.replicate i true).map V.bl ∧ H1 = upd H p (.lst ys)) ⟨none, rfl, rfl, rfl⟩ (fun i ys τ H1 ⟨_, _, _, z⟩ => by rw [z]; exact upd_same) ?_ ?_
    · rintro i c ys τ H1 hc ⟨t0, rfl, rfl, rfl⟩
      have hil : i < x.cps.size := by
        obtain ⟨h, _⟩ := Array.getElem?_eq_some_iff.mp hc
        exact h
      have hcz := hx.az c (Array.mem_def.mp (Array.mem_of_getElem? hc))
      have e1 : (!decide ((⟨#[c]⟩ : Str).cps.toList < (Str.ofString "a").cps.toList)) = true := by
        have : ¬ ([c] < [97]) := by simp [List.cons_lt_cons_iff]; omega
        have hA : (Str.ofString "a").cps.toList = [97] := by decide +kernel
        rw [hA]; simpa using this
      have e2 : (!decide ((Str.ofString "z").cps.toList < (⟨#[c]⟩ : Str).cps.toList)) = true := by
        have : ¬ ([122] < [c]) := by simp [List.cons_lt_cons_iff]; omega
        have hA : (Str.ofString "z").cps.toList = [122] := by decide +kernel
        rw [hA]; simpa using this
      refine ⟨_, rfl, _, _, rfl, rfl, _, rfl, ite_tt e1 ⟨_, _, rfl, rfl, upd_same, by rw [List.length_map, List.length_replicate, sizeLine_eq]; omega, cw_next hil ⟨_, rfl, ?_, ?_⟩⟩⟩
      · rw [e2, List.replicate_succ', List.map_append]; rfl
      · rw [upd_upd]
    · rintro ys τ H1 ⟨t0, rfl, rfl, rfl⟩
      refine ⟨p, _, rfl, SqL.of upd_same, ?_⟩
      have : (List.replicate x.cps.size true).all id = true := by simp
      rw [this]
      exact q _ (same_new hp)
@[irreducible] def spKind : Sp := fun vs H Q _ => ∃ (t : Addr) (o : Obj) (ws : List V) (kvs : List (Str × V)) (x : Str), vs = [.ref t, .str x] ∧ H t = some (.frz o (.tup ws)) ∧ o.dict = none ∧ PairsV H ws kvs ∧ (kvs.map (·.1)).Nodup ∧ Nm x ∧ x ∈ kvs.map (·.1) ∧ ∀ H', Same H H' → Q (.bl true) H'
theorem kind_sp {t : Addr} {o : Obj} {ws : List V} {kvs : List (Str × V)} {x : Str} {H : Hp} {Q : VK} {E : XK} (ht : H t = some (.frz o (.tup ws))) (ho : o.dict = none) (hp : PairsV H ws kvs) (nd : (kvs.map (·.1)).Nodup) (hx : Nm x) (hm : x ∈ kvs.map (·.1))
    (q : ∀ H', Same H H' → Q (.bl true) H') : spKind [.ref t, .str x] H Q E := by unfold spKind; exact ⟨t, o, ws, kvs, x, rfl, ht, ho, hp, nd, hx, hm, q⟩
theorem scKind : FnScope ["family", "thing"] ["family", "thing"] (defScope sIsKind) := ⟨rfl, rfl, rfl, by decide +kernel, rfl, by decide +kernel, by decide +kernel⟩
theorem pair_val : ∀ {kvs : List (Str × V)} {x : Str}, x ∈ kvs.map (·.1) → (valV (pairKV kvs) (Sum.inr x)).isSome = true
  | [], x, h => by simp at h
  | p :: kvs, x, h => by
    by_cases e : p.1 = x
    · rw [show pairKV (p :: kvs) = (Sum.inr p.1, p.2) :: pairKV kvs from rfl, valV_pos (by rw [e])]; rfl
    · rw [show pairKV (p :: kvs) = (Sum.inr p.1, p.2) :: pairKV kvs from rfl, valV_neg (fun z => e (Sum.inr.inj z))]
      refine pair_val ?_
      rcases List.mem_cons.mp h with z | z
      · exact absurd z.symm e
      · exact z
theorem ok_kind {fN : Addr} {fdN : FuncData} (F : Fun K "is_kind" "is_kind" sIsKind f fd) (B : Blt mg) (B2 : Blt2 mg) (FN : Fun K "is_name" "is_name" sIsName fN fdN) (bN : Binds K fdN ["thing"] []) (mN : mg "is_name" = some (.ref fN)) :
    FnOk P w K mg base CX0 2 f fd ["family", "thing"] spKind := by
  have GN : FnOk P w K mg base CX0 1 fN fdN ["thing"] spName := ok_name FN B B2
  refine F.ok scKind (fun vs H Q E h => ?_) (fun cdv A outer s H vs Q E hr h => ?_)
  · unfold spKind at h; obtain ⟨t, o, ws, kvs, x, rfl, _⟩ := h; rfl
  · unfold spKind at h
    obtain ⟨t, o, ws, kvs, x, rfl, ht, ho, hp, nd, hx, hm, q⟩ := h
    have hu := hr.units
    have hu1 := Nat.lt_of_le_of_lt (Nat.add_le_add_left (show 1 ≤ 64 by decide) _) hu
    refine ⟨_, pss_one (ps_ret (pe_and (pe_call GN hr rfl mN FN.kp bN .nil pass0 (pa_cons (pv 1) pa_nil)) (pe_one (pe_cmp (pc_din hu1 (pv 1) (pe_callTy (call_dictT rfl) rfl B2.dict boot_dict (pa_cons (pv 0) pa_nil))))))), ?_⟩
    refine ⟨_, rfl, name_sp hx fun H1 S1 => ⟨true, rfl, ?_⟩⟩
    refine ⟨_, rfl, _, rfl, t, o, ws, kvs, rfl, S1 _ _ ht, ho, hp.same S1, nd, fun d hd => ⟨d, _, rfl, DGet.k (k := Sum.inr x) upd_same, ?_⟩⟩
    rw [pair_val hm]
    exact q _ (S1.trans (same_new hd))
@[irreducible] def spCheck : Sp := fun vs H Q _ => ∃ (t : Addr) (o : Obj) (ws : List V) (kvs : List (Str × V)) (x : Str), vs = [.ref t, .str x] ∧ H t = some (.frz o (.tup ws)) ∧ o.dict = none ∧ PairsV H ws kvs ∧ (kvs.map (·.1)).Nodup ∧ Nm x ∧ x ∈ kvs.map (·.1) ∧ ∀ H', Same H H' → Q .non H'
theorem check_sp {t : Addr} {o : Obj} {ws : List V} {kvs : List (Str × V)} {x : Str} {H : Hp} {Q : VK} {E : XK} (ht : H t = some (.frz o (.tup ws))) (ho : o.dict = none) (hp : PairsV H ws kvs) (nd : (kvs.map (·.1)).Nodup) (hx : Nm x) (hm : x ∈ kvs.map (·.1))
    (q : ∀ H', Same H H' → Q .non H') : spCheck [.ref t, .str x] H Q E := by unfold spCheck; exact ⟨t, o, ws, kvs, x, rfl, ht, ho, hp, nd, hx, hm, q⟩
theorem scCheck : FnScope ["family", "thing"] ["family", "thing"] (defScope sCheckK) := ⟨rfl, rfl, rfl, by decide +kernel, rfl, by decide +kernel, by decide +kernel⟩
theorem ok_check {fK : Addr} {fdK : FuncData} (F : Fun K "check_kind" "check_kind" sCheckK f fd) (FK : Fun K "is_kind" "is_kind" sIsKind fK fdK) (bK : Binds K fdK ["family", "thing"] []) (mK : mg "is_kind" = some (.ref fK)) (GK : FnOk P w K mg base CX0 2 fK fdK ["family", "thing"] spKind) :
    FnOk P w K mg base CX0 3 f fd ["family", "thing"] spCheck := by
  refine F.ok scCheck (fun vs H Q E h => ?_) (fun cdv A outer s H vs Q E hr h => ?_)
  · unfold spCheck at h; obtain ⟨t, o, ws, kvs, x, rfl, _⟩ := h; rfl
  · unfold spCheck at h
    obtain ⟨t, o, ws, kvs, x, rfl, ht, ho, hp, nd, hx, hm, q⟩ := h
    refine ⟨_, pss_one (ps_if (pt_not (pt_val (pe_call GK hr rfl mK FK.kp bK .nil pass0 (pa_cons (pv 0) (pa_cons (pv 1) pa_nil))))) pss_never pss_nil), ?_⟩
    exact ⟨_, rfl, _, rfl, kind_sp ht ho hp nd hx hm fun H1 S1 => ⟨true, rfl, q H1 S1⟩⟩
end
end K29
namespace K29
open PySem L2 PySem.W HT
/-- the block [d[x] for x in names], names a tuple -/
theorem comp_getT {K : Frag} {a d p : Addr} {ps : List Str} {kvs : List (Key × V)} {g : Str → V} {H : Hp} {Q : VK} (ha : H a = some (.tup (ps.map V.str))) (hd : H d = some (.dK kvs)) (hg : ∀ x ∈ ps, valV kvs (Sum.inr x) = some (g x)) (hp : H p = none) (hs : ps.length ≤ 100)
    (q : Q (.ref p) (upd H p (.lst (ps.map g)))) : CompW (Itt K a) (gName 0) tTrue (tDGet (tVar 1) (tVar 0)) [none, some (.ref d)] Q p H := by
  have nap : a ≠ p := ne_of_none ha hp
  have ndp : d ≠ p := ne_of_none hd hp
  refine comp_tup (xs := ps.map V.str) (fun j zs τ H2 => ∃ t1 : Option V, τ = [t1, some (.ref d)] ∧ zs = (ps.take j).map g ∧ H2 = upd H p (.lst zs)) ⟨none, rfl, rfl, rfl⟩ (fun j zs τ H2 ⟨_, _, _, z⟩ => by rw [z]; exact ⟨upd_same, SqT.of (by rw [upd_ne nap]; exact ha)⟩) ?_ ?_
  · rintro j x zs τ H2 hx ⟨t1, rfl, rfl, rfl⟩
    have hjl : j < (ps.map V.str).length := (List.getElem?_eq_some_iff.mp hx).1
    have hjr : j < ps.length := by simpa using hjl
    obtain rfl : V.str ps[j] = x := by simpa [hjr] using hx
    have tkj : ps.take (j + 1) = ps.take j ++ [ps[j]] := by rw [List.take_succ, List.getElem?_eq_getElem hjr]; rfl
    refine ⟨_, rfl, _, rfl, d, g ps[j], rfl, ?_, upd_same, ?_, cw_next hjl ⟨_, rfl, ?_, by rw [upd_upd]⟩⟩
    · rw [← hg _ (List.getElem_mem hjr)]; exact DGet.k (k := Sum.inr ps[j]) (by rw [upd_ne ndp]; exact hd)
    · rw [List.length_map, List.length_take, sizeLine_eq]; omega
    · rw [tkj, List.map_append]; rfl
  · rintro zs τ H2 ⟨t1, rfl, rfl, rfl⟩
    rw [List.length_map, List.take_length]
    exact q
theorem comp_getL {K : Frag} {a d p : Addr} {ps : List Str} {kvs : List (Key × V)} {g : Str → V} {H : Hp} {Q : VK} (ha : H a = some (.lst (ps.map V.str))) (hd : H d = some (.dK kvs)) (hg : ∀ x ∈ ps, valV kvs (Sum.inr x) = some (g x)) (hp : H p = none) (hs : ps.length ≤ 100)
    (q : Q (.ref p) (upd H p (.lst (ps.map g)))) : CompW (Itl K a) (gName 0) tTrue (tDGet (tVar 1) (tVar 0)) [none, some (.ref d)] Q p H := by
  have nap : a ≠ p := ne_of_none ha hp
  have ndp : d ≠ p := ne_of_none hd hp
  refine comp_list (xs := ps.map V.str) (fun j zs τ H2 => ∃ t1 : Option V, τ = [t1, some (.ref d)] ∧ zs = (ps.take j).map g ∧ H2 = upd H p (.lst zs)) ⟨none, rfl, rfl, rfl⟩ (fun j zs τ H2 ⟨_, _, _, z⟩ => by rw [z]; exact ⟨upd_same, SqL.of (by rw [upd_ne nap]; exact ha)⟩) ?_ ?_
  · rintro j x zs τ H2 hx ⟨t1, rfl, rfl, rfl⟩
    have hjl : j < (ps.map V.str).length := (List.getElem?_eq_some_iff.mp hx).1
    have hjr : j < ps.length := by simpa using hjl
    obtain rfl : V.str ps[j] = x := by simpa [hjr] using hx
    have tkj : ps.take (j + 1) = ps.take j ++ [ps[j]] := by rw [List.take_succ, List.getElem?_eq_getElem hjr]; rfl
    refine ⟨_, rfl, _, rfl, d, g ps[j], rfl, ?_, upd_same, ?_, cw_next hjl ⟨_, rfl, ?_, by rw [upd_upd]⟩⟩
    · rw [← hg _ (List.getElem_mem hjr)]; exact DGet.k (k := Sum.inr ps[j]) (by rw [upd_ne ndp]; exact hd)
    · rw [List.length_map, List.length_take, sizeLine_eq]; omega
    · rw [tkj, List.map_append]; rfl
  · rintro zs τ H2 ⟨t1, rfl, rfl, rfl⟩
    rw [List.length_map, List.take_length]
    exact q
/-- the rows of a kind: its parents' lines, and the parents -/
def rowsOf (L : Str → List Str) (ps : List Str) : List (List Str) := ps.map L ++ [ps]
/-- lines as tuples in a dict -/
def LnT (H : Hp) (kvs : List (Key × V)) (L : Str → List Str) (x : Str) : Prop := ∃ a, valV kvs (Sum.inr x) = some (.ref a) ∧ H a = some (.tup ((L x).map V.str))
theorem LnT.same {H H' : Hp} {kvs : List (Key × V)} {L : Str → List Str} {x : Str} (h : LnT H kvs L x) (s : Same H H') : LnT H' kvs L x := let ⟨a, e, q⟩ := h; ⟨a, e, s _ _ q⟩
theorem lnT_fun {H : Hp} {kvs : List (Key × V)} {L : Str → List Str} {ps : List Str} (h : ∀ x ∈ ps, LnT H kvs L x) : ∃ g : Str → V, (∀ x ∈ ps, valV kvs (Sum.inr x) = some (g x)) ∧ RowsV H (ps.map g) (ps.map L) := by
  refine ⟨fun x => (valV kvs (Sum.inr x)).getD .non, fun x hx => ?_, ?_⟩
  · obtain ⟨a, e, _⟩ := h x hx; show _ = some ((valV kvs (Sum.inr x)).getD V.non); rw [e]; rfl
  · induction ps with
    | nil => exact .nil
    | cons x ps ih =>
      obtain ⟨a, e, q⟩ := h x List.mem_cons_self
      exact .cons ⟨a, by show (valV kvs (Sum.inr x)).getD V.non = _; rw [e]; rfl, q⟩ (ih fun y hy => h y (List.mem_cons_of_mem _ hy))
section
variable {P : Program} {w : World} {K : Frag} {mg : Str → Option Value} {base : Heap} {f : Addr} {fd : FuncData}
@[irreducible] def spLF : Sp := fun vs H Q _ => ∃ (d pa : Addr) (kvs : List (Key × V)) (L : Str → List Str) (k : Str) (ps o : List Str), vs = [.ref d, .str k, .ref pa] ∧ H d = some (.dK kvs) ∧ H pa = some (.tup (ps.map V.str)) ∧ (∀ x ∈ ps, LnT H kvs L x) ∧ Small (rowsOf L ps) ∧
  mergeG (total (rowsOf L ps)) (rowsOf L ps) = some o ∧ o.length ≤ 100 ∧ ∀ p H', Same H H' → H' p = some (.tup ((k :: o).map V.str)) → Q (.ref p) H'
theorem lf_sp {d pa : Addr} {kvs : List (Key × V)} {L : Str → List Str} {k : Str} {ps o : List Str} {H : Hp} {Q : VK} {E : XK} (hd : H d = some (.dK kvs)) (hpa : H pa = some (.tup (ps.map V.str))) (hl : ∀ x ∈ ps, LnT H kvs L x) (hS : Small (rowsOf L ps))
    (hm : mergeG (total (rowsOf L ps)) (rowsOf L ps) = some o) (ho : o.length ≤ 100) (q : ∀ p H', Same H H' → H' p = some (.tup ((k :: o).map V.str)) → Q (.ref p) H') : spLF [.ref d, .str k, .ref pa] H Q E := by
  unfold spLF; exact ⟨d, pa, kvs, L, k, ps, o, rfl, hd, hpa, hl, hS, hm, ho, q⟩
abbrev nLF : List Str := ["lines", "kind", "parents", "rows", "refusal"]
theorem scLF : FnScope nLF ["lines", "kind", "parents"] (defScope sLineFrom) := ⟨rfl, rfl, rfl, by decide +kernel, rfl, by decide +kernel, by decide +kernel⟩
def binL (e : Expr) : Expr := match e with | .BinOp a _ _ _ => a | _ => .Constant .none 0 ⟨0, 0, 0, 0⟩
abbrev eLF : Expr := binL (arg0 (asgV (bodyAt (defBody sLineFrom) 0)))
theorem csLF : CompScope nLF (defScope sLineFrom) ["parent", "lines"] [none, some 0] (compSc eLF) := ⟨rfl, by decide +kernel, by decide +kernel, rfl, fv_of (by decide +kernel), by decide +kernel⟩
theorem ok_lf {fM : Addr} {fdM : FuncData} (F : Fun K "line_from" "line_from" sLineFrom f fd) (B : Blt mg) (GM : FnOk P w K mg base CX0 3 fM fdM ["rows"] spMerged) (kM : keepIn K (.ref fM) = true) (bM : Binds K fdM ["rows"] []) (mM : mg "merged" = some (.ref fM)) :
    FnOk P w K mg base CX0 4 f fd ["lines", "kind", "parents"] spLF := by
  refine F.ok scLF (fun vs H Q E h => ?_) (fun cdv A outer s H vs Q E hr h => ?_)
  · unfold spLF at h; obtain ⟨d, pa, kvs, L, k, ps, o, rfl, _⟩ := h; rfl
  · unfold spLF at h
    obtain ⟨d, pa, kvs, L, k, ps, o, rfl, hd, hpa, hl, hS, hm, hol, q⟩ := h
    have hu := hr.units
    have hu1 := Nat.lt_of_le_of_lt (Nat.add_le_add_left (show 1 ≤ 64 by decide) _) hu
    refine ⟨_, pss_cons (ps_set (i := 3) scLF.nd rfl (Or.inl rfl) (pe_callTy call_tuple_of rfl B.tuple boot_tuple (pa_cons (pe_op op_cat (pe_comp rfl csLF (pi_tup (pv 2)) (fun s H fp => ⟨pg_name (i := 0) csLF.nd rfl (Or.inl rfl), pifs_nil, pe_dget hu1 (pv 1) (pv 0) (fun _ _ => rfl)⟩)) (pe_lst (pa_cons (pv 2) pa_nil))) pa_nil)))
      (pss_one (ps_tryNo (pss_one (ps_ret (pe_op op_catA (pe_tup (pa_cons (pv 1) pa_nil)) (pe_call GM hr rfl mM kM bM .nil pass0 (pa_cons (pv 3) pa_nil))))) rfl)), ?_⟩
    obtain ⟨g, hg, hR⟩ := lnT_fun hl
    have hpl : ps.length ≤ 20 := hS.short ps (List.mem_append_right _ List.mem_cons_self)
    refine ⟨_, rfl, pa, rfl, ⟨_, SqT.of hpa⟩, fun c hc => comp_getT hpa hd hg hc (by omega) ?_⟩
    have S1 := same_new (o := .lst (ps.map g)) hc
    refine ⟨_, rfl, by show 1 ≤ sizeLine; rw [sizeLine_eq]; decide, fun c2 hc2 => ?_⟩
    have S2 := S1.trans (same_new (o := .lst [V.ref pa]) hc2)
    refine ⟨c, c2, _, _, rfl, rfl, by rw [upd_ne (ne_of_none upd_same hc2)]; exact upd_same, upd_same, by rw [List.length_map, sizeLine_eq]; show _ + 1 ≤ _; omega, fun c3 hc3 => ?_⟩
    have S3 := S2.trans (same_new (o := .lst (ps.map g ++ [V.ref pa])) hc3)
    refine ⟨c3, _, rfl, .inl ⟨SqL.of upd_same, fun r hr => ?_⟩⟩
    have S4 := S3.trans (same_new (o := .tup (ps.map g ++ [V.ref pa])) hr)
    refine ⟨_, rfl, by show 1 ≤ sizeLine; rw [sizeLine_eq]; decide, fun c4 hc4 => ?_⟩
    have S5 := S4.trans (same_new (o := .tup [V.str k]) hc4)
    refine ⟨_, rfl, merged_sp (rows := rowsOf L ps) (by rw [upd_ne (ne_of_none upd_same hc4)]; exact upd_same) (RowsV.append (hR.same S5) (S5 _ _ hpa)) hS hm fun m H6 hm6 S6 h6 => ?_⟩
    refine ⟨c4, m, _, _, rfl, rfl, S6 _ _ upd_same, h6, by rw [List.length_map, sizeLine_eq]; show 1 + _ ≤ _; omega, fun p H7 S7 h7 => ?_⟩
    exact q p H7 (S5.trans (S6.trans S7)) h7
end
end K29
namespace K29
open PySem L2 PySem.W HT
/-- a family on the heap: pairs of a kind and a tuple of its parents -/
def FamV (H : Hp) (vs : List V) (fam : List (Str × List Str)) : Prop := Paired (fun y p => ∃ a b, y = V.ref a ∧ H a = some (.tup [.str p.1, .ref b]) ∧ H b = some (.tup (p.2.map V.str))) vs fam
theorem FamV.keep {H H' : Hp} {vs : List V} {fam : List (Str × List Str)} (h : FamV H vs fam) (s : ∀ b xs, H b = some (.tup xs) → H' b = some (.tup xs)) : FamV H' vs fam := Paired.imp' (fun _ _ ⟨a, b, e, q, r⟩ => ⟨a, b, e, s _ _ q, s _ _ r⟩) h
theorem FamV.same {H H' : Hp} {vs : List V} {fam : List (Str × List Str)} (h : FamV H vs fam) (s : Same H H') : FamV H' vs fam := h.keep fun _ _ e => s _ _ e
theorem FamV.length {H : Hp} {vs : List V} {fam : List (Str × List Str)} (h : FamV H vs fam) : vs.length = fam.length := Paired.length h
theorem FamV.append {H : Hp} {vs : List V} {fam : List (Str × List Str)} {a b : Addr} {p : Str × List Str} : FamV H vs fam → H a = some (.tup [.str p.1, .ref b]) → H b = some (.tup (p.2.map V.str)) → FamV H (vs ++ [.ref a]) (fam ++ [p])
  | .nil, q, r => .cons ⟨a, b, rfl, q, r⟩ .nil
  | .cons x t, q, r => .cons x (FamV.append t q r)
theorem FamV.pairs {H : Hp} {vs : List V} {fam : List (Str × List Str)} (h : FamV H vs fam) : ∃ kvs, PairsV H vs kvs ∧ kvs.map (·.1) = fam.map (·.1) := by
  induction h with
  | nil => exact ⟨[], .nil, rfl⟩
  | cons p _ ih =>
    obtain ⟨a, b, e, q, r⟩ := p
    obtain ⟨kvs, h1, h2⟩ := ih
    exact ⟨(_, .ref b) :: kvs, .cons ⟨a, e, q⟩ h1, by rw [List.map_cons, List.map_cons, h2]⟩
structure FamOk (fam : List (Str × List Str)) (L : Str → List Str) : Prop where
  nd : (fam.map (·.1)).Nodup
  few : fam.length ≤ 8
  nm : ∀ p ∈ fam, Nm p.1
  up : ∀ p ∈ fam, ∀ x ∈ p.2, ∃ q ∈ fam, q.1 = x
  rank : ∃ r : Str → Nat, ∀ p ∈ fam, ∀ x ∈ p.2, r x < r p.1
  line : ∀ p ∈ fam, Small (rowsOf L p.2) ∧ ∃ o, mergeG (total (rowsOf L p.2)) (rowsOf L p.2) = some o ∧ L p.1 = p.1 :: o ∧ o.length ≤ 100
theorem FamOk.perm {fam fam' : List (Str × List Str)} {L : Str → List Str} (h : FamOk fam L) (p : fam'.Perm fam) : FamOk fam' L := by
  have m : ∀ {q}, q ∈ fam' ↔ q ∈ fam := fun {q} => p.mem_iff
  obtain ⟨r, hr⟩ := h.rank
  exact ⟨(p.map _).nodup_iff.mpr h.nd, by rw [p.length_eq]; exact h.few, fun q hq => h.nm q (m.mp hq), fun q hq x hx => let ⟨z, hz, e⟩ := h.up q (m.mp hq) x hx; ⟨z, m.mpr hz, e⟩, ⟨r, fun q hq => hr q (m.mp hq)⟩, fun q hq => h.line q (m.mp hq)⟩
def isDone (kvs : List (Key × V)) (x : Str) : Bool := (valV kvs (Sum.inr x)).isSome
theorem ready_ex {fam rest : List (Str × List Str)} {L : Str → List Str} (ok : FamOk fam L) {dn : Str → Bool} (sub : ∀ p ∈ rest, p ∈ fam) (all : ∀ p ∈ fam, dn p.1 = true ∨ p ∈ rest) (ne : rest ≠ []) : ∃ p ∈ rest, ∀ x ∈ p.2, dn x = true := by
  obtain ⟨r, hr⟩ := ok.rank
  have key : ∀ n, ∀ p ∈ rest, r p.1 = n → ∃ q ∈ rest, ∀ x ∈ q.2, dn x = true := by
    intro n
    induction n using Nat.strongRecOn with
    | _ n ih =>
      intro p hp e
      by_cases h : ∀ x ∈ p.2, dn x = true
      · exact ⟨p, hp, h⟩
      · simp only [Classical.not_forall] at h
        obtain ⟨x, hx, hnd⟩ := h
        obtain ⟨q, hq, rfl⟩ := ok.up p (sub p hp) x hx
        have lt := hr p (sub p hp) q.1 hx
        rcases all q hq with z | z
        · exact absurd z hnd
        · exact ih _ (by omega) q z rfl
  cases rest with
  | nil => exact absurd rfl ne
  | cons p t => exact key _ p List.mem_cons_self rfl
def readyOf (dn : Str → Bool) (rest : List (Str × List Str)) : List (Str × List Str) := rest.filter fun p => (p.2.map dn).all id
theorem mem_ready {dn : Str → Bool} {rest : List (Str × List Str)} {p : Str × List Str} : p ∈ readyOf dn rest ↔ p ∈ rest ∧ ∀ x ∈ p.2, dn x = true := by
  unfold readyOf
  rw [List.mem_filter, List.all_map, List.all_eq_true]; rfl
theorem filter_two {α : Type} (f : α → Bool) : ∀ l : List α, (l.filter f).length + (l.filter fun x => !f x).length = l.length
  | [] => rfl
  | x :: l => by
    have ih := filter_two f l
    cases h : f x <;> simp [List.filter_cons, h] <;> omega
theorem rest_less {dn dn' : Str → Bool} {rest : List (Str × List Str)} (h : ∀ p ∈ readyOf dn rest, dn' p.1 = true) : (rest.filter fun p => !dn' p.1).length + (readyOf dn rest).length ≤ rest.length := by
  have e : rest.length = (rest.filter fun p => (p.2.map dn).all id).length + (rest.filter fun p => !(p.2.map dn).all id).length := by
    exact (filter_two (fun p : Str × List Str => (p.2.map dn).all id) rest).symm
  have le : (rest.filter fun p => !dn' p.1).length ≤ (rest.filter fun p => !(p.2.map dn).all id).length := by
    rw [← List.countP_eq_length_filter, ← List.countP_eq_length_filter]
    refine List.countP_mono_left fun p hp h1 => ?_
    cases z : (p.2.map dn).all id with
    | false => rfl
    | true =>
      have := h p (List.mem_filter.mpr ⟨hp, z⟩)
      rw [this] at h1; cases h1
  unfold readyOf
  omega
/-- the block [x in d for x in names], names a tuple -/
theorem comp_inD {K : Frag} {a d p : Addr} {ps : List Str} {kvs : List (Key × V)} {H : Hp} {Q : VK} (ha : H a = some (.tup (ps.map V.str))) (hd : H d = some (.dK kvs)) (hp : H p = none) (hs : ps.length ≤ 100)
    (q : Q (.ref p) (upd H p (.lst ((ps.map (isDone kvs)).map V.bl)))) : CompW (Itt K a) (gName 0) tTrue (tDIn (tVar 0) (tVar 1)) [none, some (.ref d)] Q p H := by
  have nap : a ≠ p := ne_of_none ha hp
  have ndp : d ≠ p := ne_of_none hd hp
  refine comp_tup (xs := ps.map V.str) (fun j zs τ H2 => ∃ t1 : Option V, τ = [t1, some (.ref d)] ∧ zs = ((ps.take j).map (isDone kvs)).map V.bl ∧ H2 = upd H p (.lst zs)) ⟨none, rfl, rfl, rfl⟩ (fun j zs τ H2 ⟨_, _, _, z⟩ => by rw [z]; exact ⟨upd_same, SqT.of (by rw [upd_ne nap]; exact ha)⟩) ?_ ?_
  · rintro j x zs τ H2 hx ⟨t1, rfl, rfl, rfl⟩
    have hjl : j < (ps.map V.str).length := (List.getElem?_eq_some_iff.mp hx).1
    have hjr : j < ps.length := by simpa using hjl
    obtain rfl : V.str ps[j] = x := by simpa [hjr] using hx
    have tkj : ps.take (j + 1) = ps.take j ++ [ps[j]] := by rw [List.take_succ, List.getElem?_eq_getElem hjr]; rfl
    refine ⟨_, rfl, _, rfl, d, _, rfl, DGet.k (k := Sum.inr ps[j]) (by rw [upd_ne ndp]; exact hd), upd_same, ?_, cw_next hjl ⟨_, rfl, ?_, by rw [upd_upd]⟩⟩
    · rw [List.length_map, List.length_map, List.length_take, sizeLine_eq]; omega
    · rw [tkj, List.map_append, List.map_append]; rfl
  · rintro zs τ H2 ⟨t1, rfl, rfl, rfl⟩
    rw [List.length_map, List.take_length]
    exact q

/-- the keys of the lines so far -/
def KeyOk (fam : List (Str × List Str)) (kvs : List (Key × V)) : Prop := (kvs.map (·.1)).Nodup ∧ ∀ k ∈ kvs.map (·.1), ∃ p ∈ fam, k = Sum.inr p.1
theorem keys_putK (kvs : List (Key × V)) (k : Key) (v : V) : (k ∈ kvs.map (·.1) ∧ (putK kvs k v).map (·.1) = kvs.map (·.1)) ∨ (k ∉ kvs.map (·.1) ∧ (putK kvs k v).map (·.1) = kvs.map (·.1) ++ [k]) := by
  have e : (kvs.any fun kv => decide (kv.1 = k)) = true ↔ k ∈ kvs.map (·.1) := by
    rw [List.any_eq_true, List.mem_map]
    exact ⟨fun ⟨x, h, d⟩ => ⟨x, h, of_decide_eq_true d⟩, fun ⟨x, h, d⟩ => ⟨x, h, decide_eq_true d⟩⟩
  unfold putK
  by_cases h : k ∈ kvs.map (·.1)
  · refine .inl ⟨h, ?_⟩
    rw [if_pos (e.mpr h), List.map_map]
    refine List.map_congr_left fun kv _ => ?_
    show (if kv.1 = k then (kv.1, v) else kv).1 = kv.1
    split <;> rfl
  · refine .inr ⟨h, ?_⟩
    rw [if_neg fun z => h (e.mp z), List.map_append]; rfl
theorem putK_mem {kvs : List (Key × V)} {k j : Key} {v : V} : j ∈ (putK kvs k v).map (·.1) ↔ j = k ∨ j ∈ kvs.map (·.1) := by
  rcases keys_putK kvs k v with ⟨h, e⟩ | ⟨h, e⟩
  · rw [e]; exact ⟨.inr, fun z => z.elim (fun e => e ▸ h) id⟩
  · rw [e, List.mem_append, List.mem_singleton]; exact Or.comm
theorem putK_nd {kvs : List (Key × V)} {k : Key} {v : V} (h : (kvs.map (·.1)).Nodup) : ((putK kvs k v).map (·.1)).Nodup := by
  rcases keys_putK kvs k v with ⟨_, e⟩ | ⟨hn, e⟩
  · rw [e]; exact h
  · rw [e, List.nodup_append]
    exact ⟨h, by simp, fun a ha b hb e => hn (by rw [← (List.mem_singleton.mp hb), ← e]; exact ha)⟩
theorem KeyOk.put {fam : List (Str × List Str)} {kvs : List (Key × V)} {p : Str × List Str} {v : V} (h : KeyOk fam kvs) (hp : p ∈ fam) : KeyOk fam (putK kvs (Sum.inr p.1) v) := by
  refine ⟨putK_nd h.1, fun k hk => ?_⟩
  rcases putK_mem.mp hk with z | z
  · exact ⟨p, hp, z⟩
  · exact h.2 k z
theorem done_mem : ∀ {kvs : List (Key × V)} {x : Str}, isDone kvs x = true → Sum.inr x ∈ kvs.map (·.1)
  | [], x, h => by cases h
  | (a, b) :: kvs, x, h => by
    by_cases e : a = Sum.inr x
    · rw [e]; exact List.mem_cons_self
    · unfold isDone at h; rw [valV_neg e] at h
      exact List.mem_cons_of_mem _ (done_mem h)
theorem perm_of_nd {α : Type} {a b : List α} (ha : a.Nodup) (hb : b.Nodup) (h : ∀ x, x ∈ a ↔ x ∈ b) : a.Perm b := (List.perm_ext_iff_of_nodup ha hb).mpr h
theorem inr_nd {l : List Str} (h : l.Nodup) : (l.map (Sum.inr : Str → Key)).Nodup := by
  induction l with
  | nil => exact List.nodup_nil
  | cons x l ih =>
    rw [List.nodup_cons] at h
    rw [List.map_cons, List.nodup_cons]
    refine ⟨fun z => ?_, ih h.2⟩
    obtain ⟨y, hy, e⟩ := List.mem_map.mp z
    exact h.1 (Sum.inr.inj e ▸ hy)
theorem KeyOk.perm {fam : List (Str × List Str)} {L : Str → List Str} {kvs : List (Key × V)} (h : KeyOk fam kvs) (ok : FamOk fam L) (all : ∀ p ∈ fam, isDone kvs p.1 = true) : (kvs.map (·.1)).Perm ((fam.map (·.1)).map Sum.inr) := by
  refine perm_of_nd h.1 (inr_nd ok.nd) fun x => ⟨fun hx => ?_, fun hx => ?_⟩
  · obtain ⟨p, hp, rfl⟩ := h.2 x hx
    exact List.mem_map.mpr ⟨p.1, List.mem_map.mpr ⟨p, hp, rfl⟩, rfl⟩
  · obtain ⟨y, hy, rfl⟩ := List.mem_map.mp hx
    obtain ⟨p, hp, rfl⟩ := List.mem_map.mp hy
    exact done_mem (all p hp)
structure WInv (H : Hp) (fam : List (Str × List Str)) (L : Str → List Str) (t d : Addr) (m : Nat) (σ : St) (H1 : Hp) (kvs : List (Key × V)) (rest : List (Str × List Str)) (wv : List V) (wa : Addr) : Prop where
  st : ∃ v3 v4 v5 : Option V, σ = [some (.ref t), some (.ref d), some (.ref wa), v3, v4, v5]
  mm : m = rest.length
  hd : H1 d = some (.dK kvs)
  hw : H1 wa = some (.lst wv)
  fv : FamV H1 wv rest
  sub : ∀ p ∈ rest, p ∈ fam
  all : ∀ p ∈ fam, isDone kvs p.1 = true ∨ p ∈ rest
  ln : ∀ x, isDone kvs x = true → LnT H1 kvs L x
  same : Same H H1
  lim : kvs.length + rest.length ≤ 8
  ky : KeyOk fam kvs
section
variable {P : Program} {w : World} {K : Frag} {mg : Str → Option Value} {base : Heap} {f : Addr} {fd : FuncData}
@[irreducible] def spLines : Sp := fun vs H Q _ => ∃ (t : Addr) (o : Obj) (ws : List V) (fam : List (Str × List Str)) (L : Str → List Str), vs = [.ref t] ∧ H t = some (.frz o (.tup ws)) ∧ FamV H ws fam ∧ FamOk fam L ∧
  ∀ d kvs H', H d = none → Same H H' → H' d = some (.dK kvs) → (∀ p ∈ fam, LnT H' kvs L p.1) → (kvs.map (·.1)).Perm ((fam.map (·.1)).map Sum.inr) → Q (.ref d) H'
theorem lines_sp {t : Addr} {o : Obj} {ws : List V} {fam : List (Str × List Str)} {L : Str → List Str} {H : Hp} {Q : VK} {E : XK} (ht : H t = some (.frz o (.tup ws))) (hf : FamV H ws fam) (ok : FamOk fam L)
    (q : ∀ d kvs H', H d = none → Same H H' → H' d = some (.dK kvs) → (∀ p ∈ fam, LnT H' kvs L p.1) → (kvs.map (·.1)).Perm ((fam.map (·.1)).map Sum.inr) → Q (.ref d) H') : spLines [.ref t] H Q E := by unfold spLines; exact ⟨t, o, ws, fam, L, rfl, ht, hf, ok, q⟩
abbrev nLn : List Str := ["family", "lines", "waiting", "ready", "kind", "parents"]
theorem scLn : FnScope nLn ["family"] (defScope sLines) := ⟨rfl, rfl, rfl, by decide +kernel, rfl, by decide +kernel, by decide +kernel⟩
abbrev sLnW : Stmt := bodyAt (defBody sLines) 2
abbrev eLnA : Expr := asgV (bodyAt (whileBody sLnW) 0)
abbrev eLnB : Expr := arg0 (compIf eLnA)
abbrev eLnC : Expr := asgV (bodyAt (whileBody sLnW) 3)
theorem csLnA : CompScope nLn (defScope sLines) ["pair", "lines"] [none, some 1] (compSc eLnA) := ⟨rfl, by decide +kernel, by decide +kernel, rfl, fv_of (by decide +kernel), by decide +kernel⟩
theorem csLnB {env : Env} : CompScope ["pair", "lines"] (relabel (compSc eLnA) env) ["parent", "lines"] [none, some 1] (compSc eLnB) := nest rfl (by decide +kernel) (by decide +kernel) rfl (by decide +kernel) (by decide +kernel)
theorem ndLnB : (["parent", "lines"] : List Str).Nodup := by decide +kernel
theorem csLnC : CompScope nLn (defScope sLines) ["pair", "lines"] [none, some 1] (compSc eLnC) := ⟨rfl, by decide +kernel, by decide +kernel, rfl, fv_of (by decide +kernel), by decide +kernel⟩
theorem ok_lines {fF : Addr} {fdF : FuncData} (F : Fun K "lines_of" "lines_of" sLines f fd) (B : Blt mg) (GF : FnOk P w K mg base CX0 4 fF fdF ["lines", "kind", "parents"] spLF) (kF : keepIn K (.ref fF) = true) (bF : Binds K fdF ["lines", "kind", "parents"] []) (mF : mg "line_from" = some (.ref fF)) :
    FnOk P w K mg base CX0 5 f fd ["family"] spLines := by
  refine F.ok scLn (fun vs H Q E h => ?_) (fun cdv A outer s H vs Q E hr h => ?_)
  · unfold spLines at h; obtain ⟨t, o, ws, fam, L, rfl, _⟩ := h; rfl
  · unfold spLines at h
    obtain ⟨t, o, ws, fam, L, rfl, ht, hfam, ok, q⟩ := h
    have hu := hr.units
    have hu1 := Nat.lt_of_le_of_lt (Nat.add_le_add_left (show 1 ≤ 64 by decide) _) hu
    refine ⟨_, pss_cons (ps_set (i := 1) scLn.nd rfl (Or.inr rfl) pe_dnewK)
      (pss_cons (ps_set (i := 2) scLn.nd rfl (Or.inl rfl) (pe_callTy call_list_of rfl B.list boot_list (pa_cons (pv 0) pa_nil)))
      (pss_cons (ps_while PassesOwn.never (pt_truth (pv 2) (fun _ => rfl))
        (pss_cons (ps_setComp rfl csLnA scLn.nd (i := 3) rfl rfl (pi_list (pv 2)) (fun s H fp => ⟨pg_name (i := 0) csLnA.nd rfl (Or.inl rfl),
            pifs_one (pt_val (pe_callB (call_allB_K K rfl rfl) rfl B.all boot_all (pa_cons (pe_comp rfl csLnB (pi_tup_K K rfl (pe_ix (ix_tup_K K rfl) (pv 0) pe_int (fun _ _ => rfl))) (fun s H fp => ⟨pg_name (i := 0) ndLnB rfl (Or.inl rfl), pifs_nil, pe_cmp (pc_din hu1 (pv 0) (pv 1))⟩)) pa_nil))),
            pv 0⟩))
        (pss_cons (ps_if (pt_not (pt_truth (pv 3) (fun _ => rfl))) (pss_one (ps_ret (pv 1))) pss_nil)
        (pss_cons (ps_for PassesOwn.never rfl (pi_list (pv 3)) (pg_tup rfl (pgs_cons (pg_name (i := 4) scLn.nd rfl (Or.inl rfl)) (pgs_cons (pg_name (i := 5) scLn.nd rfl (Or.inl rfl)) pgs_nil)))
          (pss_one (ps_dput hu1 (pv 1) (pv 4) (pe_call GF hr rfl mF kF bF .nil pass0 (pa_cons (pv 1) (pa_cons (pv 4) (pa_cons (pv 5) pa_nil)))) rfl)))
        (pss_one (ps_setComp rfl csLnC scLn.nd (i := 2) rfl rfl (pi_list (pv 2)) (fun s H fp => ⟨pg_name (i := 0) csLnC.nd rfl (Or.inl rfl),
            pifs_one (pt_cmp (pc_dnotin hu1 (pe_ix (ix_tup_K K rfl) (pv 0) pe_int (fun _ _ => rfl)) (pv 1))), pv 0⟩)))))))
      (pss_one (ps_ret (pv 1))))), ?_⟩
    intro d hd
    have Sd := same_new (o := .dK []) hd
    refine ⟨_, rfl, t, ws, rfl, .inr (.inl (.inr ⟨o, Sd _ _ ht⟩)), fun wa hwa => ?_⟩
    have Sw := Sd.trans (same_new (o := .lst ws) hwa)
    have nwd : d ≠ wa := ne_of_none upd_same hwa
    refine ⟨fun m σ H1 => ∃ kvs rest wv wa, WInv H fam L t d m σ H1 kvs rest wv wa, ⟨_, [], fam, ws, wa, ⟨none, none, none, rfl⟩, rfl, by rw [upd_ne nwd]; exact upd_same, upd_same, hfam.same Sw, fun _ h => h, fun _ h => .inr h, fun x h => (by cases h), Sw, by have := ok.few; rw [List.length_nil]; omega, ⟨List.nodup_nil, fun _ h => (by cases h)⟩⟩, ?_⟩
    rintro m σ H1 ⟨kvs, rest, wv, wa, R⟩
    obtain ⟨v3, v4, v5, rfl⟩ := R.st
    have hlr := R.fv.length
    refine ⟨_, rfl, _, .inl ⟨_, SqL.of R.hw, rfl⟩, ?_⟩
    refine ite2 (fun hne => ?_) (fun hne => ?_)
    · refine ⟨fun σ' H' => ∃ m', m' < m ∧ ∃ kvs rest wv wa, WInv H fam L t d m' σ' H' kvs rest wv wa, fun _ _ z => z, ?_⟩
      refine ⟨_, rfl, wa, rfl, ⟨_, SqL.of R.hw⟩, fun ra hra => ?_⟩
      have hdH : ∀ {b : Addr} {u : HO}, H b = some u → b ≠ d := fun e => ne_of_none e hd
      have ndr : d ≠ ra := ne_of_none R.hd hra
      refine comp_list (xs := wv) (fun i ys τ H3 => ∃ t0 : Option V, τ = [t0, some (.ref d)] ∧ H3 ra = some (.lst ys) ∧ Same H1 H3 ∧ FamV H3 ys (readyOf (isDone kvs) (rest.take i))) ⟨none, rfl, upd_same, same_new hra, .nil⟩ (fun i ys τ H3 ⟨_, _, z1, z2, _⟩ => ⟨z1, SqL.of (z2 _ _ R.hw)⟩) ?_ ?_
      · rintro i x ys τ H3 hx ⟨t0, rfl, h3, S3, F3⟩
        have hlt : i < wv.length := (List.getElem?_eq_some_iff.mp hx).1
        obtain ⟨p, hp, a, b, rfl, ha, hb⟩ := pair_at R.fv hx
        have tk : rest.take (i + 1) = rest.take i ++ [p] := by rw [List.take_succ, hp]; rfl
        have hpm := R.sub p (List.mem_of_getElem? hp)
        have hpl : p.2.length ≤ 20 := (ok.line p hpm).1.short p.2 (List.mem_append_right _ List.mem_cons_self)
        have ha3 := S3 _ _ ha
        have hb3 := S3 _ _ hb
        refine ⟨_, rfl, a, _, 1, .ref b, rfl, rfl, SqT.of ha3, (show atI [V.str p.1, V.ref b] ((1 : Nat) : Int) = some (.ref b) from atI_nat rfl), ?_⟩
        refine ⟨b, rfl, ⟨_, SqT.of hb3⟩, fun c hc => comp_inD hb3 (S3 _ _ R.hd) hc (by omega) ?_⟩
        have Sc := same_new (o := .lst ((p.2.map (isDone kvs)).map V.bl)) hc
        refine ⟨c, _, rfl, SqL.of upd_same, _, rfl, ?_⟩
        refine ite2 (fun hal => ?_) (fun hal => ?_)
        · refine ⟨_, rfl, Sc _ _ h3, ?_, cw_next hlt ⟨_, rfl, upd_same, fun b o hb => by rw [upd_ne (ne_of_none hb hra)]; exact Sc _ _ (S3 b o hb), ?_⟩⟩
          · have h1 := F3.length
            have h2 : (readyOf (isDone kvs) (rest.take i)).length ≤ (rest.take i).length := List.length_filter_le _ _
            have h3 := R.lim
            rw [List.length_take] at h2
            rw [sizeLine_eq]; omega
          · have e1 : readyOf (isDone kvs) (rest.take (i + 1)) = readyOf (isDone kvs) (rest.take i) ++ [p] := by
              rw [tk]; unfold readyOf; rw [List.filter_append, List.filter_cons_of_pos (by exact hal)]; rfl
            rw [e1]
            refine FamV.append (F3.keep fun b xs hb => ?_) ?_ ?_ (b := b)
            · rw [upd_ne (ne_of hb h3 (by intro z; cases z))]; exact Sc _ _ hb
            · rw [upd_ne (ne_of ha3 h3 (by intro z; cases z))]; exact Sc _ _ ha3
            · rw [upd_ne (ne_of hb3 h3 (by intro z; cases z))]; exact Sc _ _ hb3
        · refine cw_next hlt ⟨_, rfl, Sc _ _ h3, S3.trans Sc, ?_⟩
          have e1 : readyOf (isDone kvs) (rest.take (i + 1)) = readyOf (isDone kvs) (rest.take i) := by
            rw [tk]; unfold readyOf; rw [List.filter_append, List.filter_cons_of_neg (by exact hal)]; simp
          rw [e1]
          exact F3.same Sc
      · rintro rv τ H3 ⟨t0, rfl, h3, S3, F3⟩
        rw [hlr, List.take_length] at F3
        have hrl := F3.length
        have hd3 := S3 _ _ R.hd
        have hw3 := S3 _ _ R.hw
        have hf3 : FamV H3 wv rest := R.fv.same S3
        have hne' : rest ≠ [] := fun z => by
          rw [z] at hlr
          have : wv = [] := List.eq_nil_of_length_eq_zero hlr
          rw [this] at hne; cases hne
        obtain ⟨p0, hp0, hp0d⟩ := ready_ex ok R.sub R.all hne'
        have hr0 : p0 ∈ readyOf (isDone kvs) rest := mem_ready.mpr ⟨hp0, hp0d⟩
        generalize hrd : readyOf (isDone kvs) rest = ready at F3 hrl hr0
        have hrne : (!rv.isEmpty) = true := by
          cases rv with
          | nil =>
            have : ready = [] := List.eq_nil_of_length_eq_zero hrl.symm
            rw [this] at hr0; cases hr0
          | cons _ _ => rfl
        refine ⟨_, rfl, _, .inl ⟨_, SqL.of h3, rfl⟩, ?_⟩
        rw [hrne]
        refine ⟨_, rfl, ra, rfl, ⟨_, SqL.of h3⟩, for_list (xs := rv) (fun i σ H4 => ∃ (kvs' : List (Key × V)) (v4 v5 : Option V), σ = [some (.ref t), some (.ref d), some (.ref wa), some (.ref ra), v4, v5] ∧ H4 d = some (.dK kvs') ∧ kvs'.length ≤ kvs.length + i ∧
          (∀ b u, b ≠ d → H3 b = some u → H4 b = some u) ∧ (∀ x, isDone kvs' x = true → LnT H4 kvs' L x) ∧ (∀ x, isDone kvs x = true → isDone kvs' x = true) ∧ (∀ p ∈ ready.take i, isDone kvs' p.1 = true) ∧ KeyOk fam kvs')
          ⟨kvs, v4, v5, rfl, hd3, Nat.le_refl _, fun _ _ _ e => e, fun x hx => (R.ln x hx).same S3, fun _ h => h, fun p hp => (by cases hp), R.ky⟩ (fun i σ H4 _ ⟨_, _, _, _, _, _, z, _⟩ => SqL.of (z _ _ (Ne.symm ndr) h3)) ?_ ?_⟩
        · rintro i x σ H4 hx ⟨kvs', v4, v5, rfl, hd4, hl4, kp4, ln4, up4, dn4, ky4⟩
          have hlt : i < rv.length := (List.getElem?_eq_some_iff.mp hx).1
          obtain ⟨p, hp, a, b, rfl, ha, hb⟩ := pair_at F3 hx
          have tk : ready.take (i + 1) = ready.take i ++ [p] := by rw [List.take_succ, hp]; rfl
          have hpr : p ∈ readyOf (isDone kvs) rest := by rw [hrd]; exact List.mem_of_getElem? hp
          obtain ⟨hpm, hpd⟩ := mem_ready.mp hpr
          obtain ⟨hsm, oo, hmg, hL, hol⟩ := ok.line p (R.sub p hpm)
          have ha4 := kp4 _ _ (ne_of ha hd3 (by intro z; cases z)) ha
          have hb4 := kp4 _ _ (ne_of hb hd3 (by intro z; cases z)) hb
          refine ⟨a, _, rfl, SqT.of ha4, rfl, _, _, rfl, _, _, rfl, rfl, ?_⟩
          refine ⟨_, rfl, _, rfl, _, rfl, lf_sp hd4 hb4 (fun x hx => ln4 x (up4 x (hpd x hx))) hsm hmg hol fun q5 H5 S5 h5 => ?_⟩
          refine ⟨_, rfl, _, rfl, d, _, rfl, DPut.k (k := Sum.inr p.1) (S5 _ _ hd4) ?_, ?_⟩
          · have h1 := R.lim
            have h2 : ready.length ≤ rest.length := by rw [← hrd]; exact List.length_filter_le _ _
            rw [sizeLine_eq]; omega
          · have nq : q5 ≠ d := ne_of h5 (S5 _ _ hd4) (by intro z; cases z)
            refine ⟨_, _, _, rfl, upd_same, ?_, fun b u nb e => ?_, fun x hx => ?_, fun x hx => ?_, fun y hy => ?_, ky4.put (R.sub p hpm)⟩
            · have := length_putK kvs' (Sum.inr p.1) (V.ref q5); omega
            · rw [upd_ne nb]; exact S5 _ _ (kp4 b u nb e)
            · unfold LnT
              rw [valV_put]
              by_cases e : x = p.1
              · subst e
                refine ⟨q5, by rw [if_pos rfl], ?_⟩
                rw [upd_ne nq, hL]; exact h5
              · have e2 : ¬ ((Sum.inr x : Key) = Sum.inr p.1) := fun z => e (Sum.inr.inj z)
                have hx' : isDone kvs' x = true := by unfold isDone at hx ⊢; rw [valV_put, if_neg e2] at hx; exact hx
                obtain ⟨a', ea, ha'⟩ := ln4 x hx'
                refine ⟨a', by rw [if_neg e2]; exact ea, ?_⟩
                rw [upd_ne (ne_of ha' hd4 (by intro z; cases z))]; exact S5 _ _ ha'
            · unfold isDone; rw [valV_put]
              split
              · rfl
              · exact up4 x hx
            · unfold isDone; rw [valV_put]
              split
              · rfl
              · rename_i hn
                rw [tk] at hy
                rcases List.mem_append.mp hy with z | z
                · exact dn4 _ z
                · have : y = p := by simpa using z
                  exact absurd (by rw [this]) hn
        · rintro σ H4 ⟨kvs', v4, v5, rfl, hd4, hl4, kp4, ln4, up4, dn4, ky4⟩
          rw [hrl, List.take_length] at dn4
          have hf4 : FamV H4 wv rest := hf3.keep fun b xs e => kp4 _ _ (ne_of e hd3 (by intro z; cases z)) e
          have hw4 := kp4 _ _ (ne_of hw3 hd3 (by intro z; cases z)) hw3
          have SH4 : Same H H4 := fun b u e => kp4 b u (hdH e) (S3 _ _ (R.same b u e))
          refine ⟨_, rfl, wa, rfl, ⟨_, SqL.of hw4⟩, fun wb hwb => ?_⟩
          have nwb : d ≠ wb := ne_of_none hd4 hwb
          refine comp_list (xs := wv) (fun i ys τ H5 => ∃ t0 : Option V, τ = [t0, some (.ref d)] ∧ H5 wb = some (.lst ys) ∧ Same H4 H5 ∧ FamV H5 ys ((rest.take i).filter fun p => !isDone kvs' p.1)) ⟨none, rfl, upd_same, same_new hwb, .nil⟩ (fun i ys τ H5 ⟨_, _, z1, z2, _⟩ => ⟨z1, SqL.of (z2 _ _ hw4)⟩) ?_ ?_
          · rintro i x ys τ H5 hx ⟨t0, rfl, h5, S5, F5⟩
            have hlt : i < wv.length := (List.getElem?_eq_some_iff.mp hx).1
            obtain ⟨p, hp, a, b, rfl, ha, hb⟩ := pair_at hf4 hx
            have tk : rest.take (i + 1) = rest.take i ++ [p] := by rw [List.take_succ, hp]; rfl
            have ha5 := S5 _ _ ha
            have hb5 := S5 _ _ hb
            refine ⟨_, rfl, a, _, 0, .str p.1, rfl, rfl, SqT.of ha5, (show atI [V.str p.1, V.ref b] ((0 : Nat) : Int) = some (.str p.1) from atI_nat rfl), ?_⟩
            refine ⟨_, rfl, d, _, rfl, DGet.k (k := Sum.inr p.1) (S5 _ _ hd4), _, rfl, ?_⟩
            refine ite2 (fun hin => ?_) (fun hin => ?_)
            · refine ⟨_, rfl, h5, ?_, cw_next hlt ⟨_, rfl, upd_same, fun b o hb => by rw [upd_ne (ne_of_none hb hwb)]; exact S5 b o hb, ?_⟩⟩
              · have h1 := F5.length
                have h2 := List.length_filter_le (fun p : Str × List Str => !isDone kvs' p.1) (rest.take i)
                have h3 := R.lim
                rw [List.length_take] at h2
                rw [sizeLine_eq]; omega
              · rw [tk, List.filter_append, List.filter_cons_of_pos (by exact hin)]
                refine FamV.append (F5.keep fun b xs hb => ?_) ?_ ?_ (b := b)
                · rw [upd_ne (ne_of hb h5 (by intro z; cases z))]; exact hb
                · rw [upd_ne (ne_of ha5 h5 (by intro z; cases z))]; exact ha5
                · rw [upd_ne (ne_of hb5 h5 (by intro z; cases z))]; exact hb5
            · refine cw_next hlt ⟨_, rfl, h5, S5, ?_⟩
              rw [tk, List.filter_append, List.filter_cons_of_neg (by exact hin), List.filter_nil, List.append_nil]
              exact F5
          · rintro ys τ H5 ⟨t0, rfl, h5, S5, F5⟩
            rw [hlr, List.take_length] at F5
            have less := rest_less (dn := isDone kvs) (dn' := isDone kvs') (rest := rest) (by rw [hrd]; exact dn4)
            rw [hrd] at less
            have hrp : 0 < ready.length := List.length_pos_of_mem hr0
            refine ⟨_, by rw [R.mm]; omega, kvs', rest.filter fun p => !isDone kvs' p.1, ys, wb, ⟨_, _, _, rfl⟩, rfl, S5 _ _ hd4, h5, F5, fun p hp => R.sub p (List.mem_filter.mp hp).1, fun p hp => ?_, fun x hx => (ln4 x hx).same S5, SH4.trans S5, ?_, ?_⟩
            · cases e : isDone kvs' p.1 with
              | true => exact .inl rfl
              | false =>
                refine .inr ?_
                rcases R.all p hp with z | z
                · rw [up4 _ z] at e; cases e
                · exact List.mem_filter.mpr ⟨z, by rw [e]; rfl⟩
            · have h1 := R.lim
              omega
            · exact ky4
    · have hn : rest = [] := by
        cases wv with
        | nil => exact List.eq_nil_of_length_eq_zero hlr.symm
        | cons _ _ => exact absurd rfl hne
      have dn : ∀ p ∈ fam, isDone kvs p.1 = true := fun p hp => by
        rcases R.all p hp with z | z
        · exact z
        · rw [hn] at z; cases z
      exact ⟨_, rfl, q d kvs H1 hd R.same R.hd (fun p hp => R.ln p.1 (dn p hp)) (R.ky.perm ok dn)⟩
end
end K29
namespace K29
open PySem L2 PySem.W HT
/-- lines as lists in a dict -/
def LnL (H : Hp) (kvs : List (Key × V)) (L : Str → List Str) (x : Str) : Prop := ∃ a, valV kvs (Sum.inr x) = some (.ref a) ∧ H a = some (.lst ((L x).map V.str))
theorem LnL.same {H H' : Hp} {kvs : List (Key × V)} {L : Str → List Str} {x : Str} (h : LnL H kvs L x) (s : Same H H') : LnL H' kvs L x := let ⟨a, e, q⟩ := h; ⟨a, e, s _ _ q⟩
theorem lnL_fun {H : Hp} {kvs : List (Key × V)} {L : Str → List Str} {ps : List Str} (h : ∀ x ∈ ps, LnL H kvs L x) : ∃ g : Str → V, (∀ x ∈ ps, valV kvs (Sum.inr x) = some (g x)) ∧ RowsA (fun _ => True) H (ps.map g) (ps.map L) := by
  refine ⟨fun x => (valV kvs (Sum.inr x)).getD .non, fun x hx => ?_, ?_⟩
  · obtain ⟨a, e, _⟩ := h x hx; show _ = some ((valV kvs (Sum.inr x)).getD V.non); rw [e]; rfl
  · induction ps with
    | nil => exact .nil
    | cons x ps ih =>
      obtain ⟨a, e, q⟩ := h x List.mem_cons_self
      exact .cons ⟨a, by show (valV kvs (Sum.inr x)).getD V.non = _; rw [e]; rfl, trivial, q⟩ (ih fun y hy => h y (List.mem_cons_of_mem _ hy))
theorem merge_len : ∀ {m : Nat} {rows : List (List Str)} {o : List Str}, mergeG m rows = some o → o.length ≤ m
  | 0, rows, o, h => by
    unfold mergeG at h
    first
      | (cases h; exact Nat.le_refl _)
      | (split at h <;> first | (cases h; exact Nat.le_refl _) | cases h)
  | m + 1, rows, o, h => by
    unfold mergeG at h
    split at h
    · cases e : leastFree rows with
      | none => rw [e] at h; cases h
      | some n =>
        rw [e] at h
        obtain ⟨o', h', rfl⟩ := Option.map_eq_some_iff.mp h
        have := merge_len h'
        rw [List.length_cons]; omega
    · cases h; exact Nat.zero_le _
section
variable {P : Program} {w : World} {K : Frag} {mg : Str → Option Value} {base : Heap} {f : Addr} {fd : FuncData}
@[irreducible] def spLineOf : Sp := fun vs H Q _ => ∃ (t : Addr) (o : Obj) (ws : List V) (fam : List (Str × List Str)) (L : Str → List Str) (k : Str), vs = [.ref t, .str k] ∧ H t = some (.frz o (.tup ws)) ∧ o.dict = none ∧ FamV H ws fam ∧ FamOk fam L ∧ (∃ p ∈ fam, p.1 = k) ∧
  ∀ p H', Same H H' → H' p = some (.tup ((L k).map V.str)) → Q (.ref p) H'
theorem lineOf_sp {t : Addr} {o : Obj} {ws : List V} {fam : List (Str × List Str)} {L : Str → List Str} {k : Str} {H : Hp} {Q : VK} {E : XK} (ht : H t = some (.frz o (.tup ws))) (ho : o.dict = none) (hf : FamV H ws fam) (ok : FamOk fam L) (hk : ∃ p ∈ fam, p.1 = k)
    (q : ∀ p H', Same H H' → H' p = some (.tup ((L k).map V.str)) → Q (.ref p) H') : spLineOf [.ref t, .str k] H Q E := by unfold spLineOf; exact ⟨t, o, ws, fam, L, k, rfl, ht, ho, hf, ok, hk, q⟩
theorem scLO : FnScope ["family", "kind"] ["family", "kind"] (defScope sLineOf) := ⟨rfl, rfl, rfl, by decide +kernel, rfl, by decide +kernel, by decide +kernel⟩
theorem ok_lineOf {fC fL : Addr} {fdC fdL : FuncData} (F : Fun K "line_of" "line_of" sLineOf f fd) (GC : FnOk P w K mg base CX0 3 fC fdC ["family", "thing"] spCheck) (kC : keepIn K (.ref fC) = true) (bC : Binds K fdC ["family", "thing"] []) (mC : mg "check_kind" = some (.ref fC))
    (GL : FnOk P w K mg base CX0 5 fL fdL ["family"] spLines) (kL : keepIn K (.ref fL) = true) (bL : Binds K fdL ["family"] []) (mL : mg "lines_of" = some (.ref fL)) :
    FnOk P w K mg base CX0 6 f fd ["family", "kind"] spLineOf := by
  refine F.ok scLO (fun vs H Q E h => ?_) (fun cdv A outer s H vs Q E hr h => ?_)
  · unfold spLineOf at h; obtain ⟨t, o, ws, fam, L, k, rfl, _⟩ := h; rfl
  · unfold spLineOf at h
    obtain ⟨t, o, ws, fam, L, k, rfl, ht, ho, hf, ok, ⟨pk, hpk, rfl⟩, q⟩ := h
    have hu := hr.units
    have hu1 := Nat.lt_of_le_of_lt (Nat.add_le_add_left (show 1 ≤ 64 by decide) _) hu
    have hr5 : Room 5 _ := hr
    have hr3 : Room 3 _ := hr5.mono (by decide)
    refine ⟨_, pss_cons (ps_expr (pe_call GC hr3 rfl mC kC bC .nil pass0 (pa_cons (pv 0) (pa_cons (pv 1) pa_nil))))
      (pss_one (ps_ret (pe_dget hu1 (pe_call GL hr5 rfl mL kL bL .nil pass0 (pa_cons (pv 0) pa_nil)) (pv 1) (fun _ _ => rfl)))), ?_⟩
    obtain ⟨kvs, hp, hkeys⟩ := hf.pairs
    refine ⟨_, rfl, _, rfl, check_sp ht ho hp (by rw [hkeys]; exact ok.nd) (ok.nm pk hpk) (by rw [hkeys]; exact List.mem_map.mpr ⟨pk, hpk, rfl⟩) fun H1 S1 => ?_⟩
    refine ⟨_, rfl, lines_sp (S1 _ _ ht) (hf.same S1) ok fun d kvs2 H2 hd S2 h2 hl _ => ?_⟩
    obtain ⟨a, ea, ha⟩ := hl pk hpk
    refine ⟨_, rfl, d, .ref a, rfl, ?_, q a H2 (S1.trans S2) ha⟩
    rw [← ea]; exact DGet.k (k := Sum.inr pk.1) h2
theorem lm_sp {l : Addr} {ws : List V} {rows : List (List Str)} {H : Hp} {Q : VK} {E : XK} (hl : H l = some (.lst ws)) (hR : RowsA (fun _ => True) H ws rows) (hS : Small rows) (hnd : ∀ r ∈ rows, r.Nodup) (qn : mergeG (total rows) rows = none → ∀ H', Same H H' → Q .non H')
    (qs : ∀ o, mergeG (total rows) rows = some o → ∀ p H', H p = none → Same H H' → H' p = some (.lst (o.map V.str)) → Q (.ref p) H') : spLM [.ref l] H Q E := by unfold spLM; exact ⟨l, ws, rows, rfl, hl, hR, hS, hnd, qn, qs⟩
@[irreducible] def spLL : Sp := fun vs H Q _ => ∃ (d oa : Addr) (kvs : List (Key × V)) (L : Str → List Str) (k : Str) (own : List Str), vs = [.ref d, .str k, .ref oa] ∧ H d = some (.dK kvs) ∧ H oa = some (.lst (own.map V.str)) ∧ (∀ x ∈ own, LnL H kvs L x) ∧ Small (rowsOf L own) ∧ (∀ r ∈ rowsOf L own, r.Nodup) ∧
  (mergeG (total (rowsOf L own)) (rowsOf L own) = none → ∀ H', Same H H' → Q .non H') ∧ (∀ o, mergeG (total (rowsOf L own)) (rowsOf L own) = some o → ∀ p H', H p = none → Same H H' → H' p = some (.lst ((k :: o).map V.str)) → Q (.ref p) H')
theorem ll_sp {d oa : Addr} {kvs : List (Key × V)} {L : Str → List Str} {k : Str} {own : List Str} {H : Hp} {Q : VK} {E : XK} (hd : H d = some (.dK kvs)) (ho : H oa = some (.lst (own.map V.str))) (hl : ∀ x ∈ own, LnL H kvs L x) (hS : Small (rowsOf L own)) (hnd : ∀ r ∈ rowsOf L own, r.Nodup)
    (qn : mergeG (total (rowsOf L own)) (rowsOf L own) = none → ∀ H', Same H H' → Q .non H') (qs : ∀ o, mergeG (total (rowsOf L own)) (rowsOf L own) = some o → ∀ p H', H p = none → Same H H' → H' p = some (.lst ((k :: o).map V.str)) → Q (.ref p) H') :
    spLL [.ref d, .str k, .ref oa] H Q E := by unfold spLL; exact ⟨d, oa, kvs, L, k, own, rfl, hd, ho, hl, hS, hnd, qn, qs⟩
abbrev nLL : List Str := ["_law_lines", "_law_kind", "_law_own", "_law_found"]
theorem scLL : FnScope nLL ["_law_lines", "_law_kind", "_law_own"] (defScope sLLine) := ⟨rfl, rfl, rfl, by decide +kernel, rfl, by decide +kernel, by decide +kernel⟩
abbrev eLL : Expr := binL (arg0 (asgV (bodyAt (defBody sLLine) 0)))
theorem csLL : CompScope nLL (defScope sLLine) ["_law_one", "_law_lines"] [none, some 0] (compSc eLL) := ⟨rfl, by decide +kernel, by decide +kernel, rfl, fv_of (by decide +kernel), by decide +kernel⟩
theorem ok_ll {fM : Addr} {fdM : FuncData} (F : Fun K "_law_line" "_law_line" sLLine f fd) (B : Blt mg) (FM : Fun K "_law_merged" "_law_merged" sLMerged fM fdM) (bM : Binds K fdM ["_law_rows"] []) (mM : mg "_law_merged" = some (.ref fM)) :
    FnOk P w K mg base CX0 2 f fd ["_law_lines", "_law_kind", "_law_own"] spLL := by
  have GM : FnOk P w K mg base CX0 1 fM fdM ["_law_rows"] spLM := ok_lm FM B
  refine F.ok scLL (fun vs H Q E h => ?_) (fun cdv A outer s H vs Q E hr h => ?_)
  · unfold spLL at h; obtain ⟨d, oa, kvs, L, k, own, rfl, _⟩ := h; rfl
  · unfold spLL at h
    obtain ⟨d, oa, kvs, L, k, own, rfl, hd, ho, hl, hS, hnd, qn, qs⟩ := h
    have hu := hr.units
    have hu1 := Nat.lt_of_le_of_lt (Nat.add_le_add_left (show 1 ≤ 64 by decide) _) hu
    refine ⟨_, pss_cons (ps_set (i := 3) scLL.nd rfl (Or.inl rfl) (pe_call GM hr rfl mM FM.kp bM .nil pass0 (pa_cons (pe_op op_cat (pe_comp rfl csLL (pi_list (pv 2)) (fun s H fp => ⟨pg_name (i := 0) csLL.nd rfl (Or.inl rfl), pifs_nil, pe_dget hu1 (pv 1) (pv 0) (fun _ _ => rfl)⟩)) (pe_lst (pa_cons (pe_callTy call_list_of rfl B.list boot_list (pa_cons (pv 2) pa_nil)) pa_nil))) pa_nil)))
      (pss_cons (ps_if (pt_cmpR op_isN (pv 3) pe_non (nomark _)) (pss_one (ps_ret pe_non)) pss_nil)
      (pss_one (ps_ret (pe_op op_cat (pe_lst (pa_cons (pv 1) pa_nil)) (pv 3))))), ?_⟩
    obtain ⟨g, hg, hR⟩ := lnL_fun hl
    have hpl : own.length ≤ 20 := hS.short own (List.mem_append_right _ List.mem_cons_self)
    refine ⟨_, rfl, oa, rfl, ⟨_, SqL.of ho⟩, fun c hc => comp_getL ho hd hg hc (by omega) ?_⟩
    have S1 := same_new (o := .lst (own.map g)) hc
    refine ⟨_, rfl, oa, _, rfl, .inl (SqL.of (S1 _ _ ho)), fun c1 hc1 => ?_⟩
    have S2 := S1.trans (same_new (o := .lst (own.map V.str)) hc1)
    refine ⟨by show 1 ≤ sizeLine; rw [sizeLine_eq]; decide, fun c2 hc2 => ?_⟩
    have S3 := S2.trans (same_new (o := .lst [V.ref c1]) hc2)
    have k1 : upd (upd H c (.lst (own.map g))) c1 (.lst (own.map V.str)) c = some (.lst (own.map g)) := by rw [upd_ne (ne_of_none upd_same hc1)]; exact upd_same
    refine ⟨c, c2, _, _, rfl, rfl, by rw [upd_ne (ne_of_none k1 hc2)]; exact k1, upd_same, by rw [List.length_map, sizeLine_eq]; show _ + 1 ≤ _; omega, fun c3 hc3 => ?_⟩
    have S4 := S3.trans (same_new (o := .lst (own.map g ++ [V.ref c1])) hc3)
    have k4 : upd (upd (upd (upd H c (.lst (own.map g))) c1 (.lst (own.map V.str))) c2 (.lst [V.ref c1])) c3 (.lst (own.map g ++ [V.ref c1])) c1 = some (.lst (own.map V.str)) := by
      have k2 : upd (upd (upd H c (.lst (own.map g))) c1 (.lst (own.map V.str))) c2 (.lst [V.ref c1]) c1 = some (.lst (own.map V.str)) := by rw [upd_ne (ne_of_none upd_same hc2)]; exact upd_same
      rw [upd_ne (ne_of_none k2 hc3)]; exact k2
    refine lm_sp (rows := rowsOf L own) upd_same (rowsA_append (rowsA_mono hR fun a xs _ e => ⟨trivial, S4 _ _ e⟩) trivial k4) hS hnd (fun e H5 S5 => ?_) (fun o e p H5 hp S5 h5 => ?_)
    · exact ⟨_, rfl, rfl, _, rfl, qn e H5 (S4.trans S5)⟩
    · refine ⟨_, rfl, rfl, _, rfl, ?_⟩
      refine ⟨_, rfl, by show 1 ≤ sizeLine; rw [sizeLine_eq]; decide, fun c5 hc5 => ?_⟩
      have S6 := S5.trans (same_new (o := .lst [V.str k]) hc5)
      have hz := (merge_len e)
      have ht := small_total hS.short
      have hfw := hS.few
      refine ⟨_, rfl, c5, p, _, _, rfl, rfl, upd_same, by rw [upd_ne (ne_of_none h5 hc5)]; exact h5, by rw [List.length_map, sizeLine_eq]; show 1 + _ ≤ _; omega, fun c6 hc6 => ?_⟩
      exact qs o e c6 _ (S4.free (S6.free hc6)) (S4.trans (S6.trans (same_new hc6))) upd_same
end
end K29
namespace K29
open PySem L2 PySem.W HT
theorem erase_perm {α : Type} : ∀ (l : List α) (k : Nat) (h : k < l.length), (l[k] :: l.eraseIdx k).Perm l
  | [], k, h => absurd h (Nat.not_lt_zero _)
  | x :: l, 0, _ => List.Perm.refl _
  | x :: l, k + 1, h => (List.Perm.swap _ _ _).trans ((erase_perm l k (Nat.lt_of_succ_lt_succ h)).cons x)
theorem map_erase {α β : Type} (f : α → β) : ∀ (l : List α) (k : Nat), (l.map f).eraseIdx k = (l.eraseIdx k).map f
  | [], _ => rfl
  | _ :: _, 0 => rfl
  | x :: l, k + 1 => congrArg (f x :: ·) (map_erase f l k)
theorem boot_min : bootBuiltins "min" = some (.builtin "min") := by decide +kernel
theorem seven {d : Int} (h0 : 0 ≤ d) (h1 : d < 7) : ∃ v : Int, atI [V.int 0, .int 1, .int 1, .int 2, .int 2, .int 3, .int 4] d = some (.int v) ∧ 0 ≤ v ∧ v ≤ 4 := by
  obtain ⟨n, rfl⟩ := Int.eq_ofNat_of_zero_le h0
  match n, (show n < 7 by omega) with
  | 0, _ => exact ⟨0, atI_nat rfl, by decide, by decide⟩
  | 1, _ => exact ⟨1, atI_nat rfl, by decide, by decide⟩
  | 2, _ => exact ⟨1, atI_nat rfl, by decide, by decide⟩
  | 3, _ => exact ⟨2, atI_nat rfl, by decide, by decide⟩
  | 4, _ => exact ⟨2, atI_nat rfl, by decide, by decide⟩
  | 5, _ => exact ⟨3, atI_nat rfl, by decide, by decide⟩
  | 6, _ => exact ⟨4, atI_nat rfl, by decide, by decide⟩
theorem two_at {d a b m : Int} (h0 : 0 ≤ d) (h1 : d < 2) (ha : 0 ≤ a ∧ a < m) (hb : 0 ≤ b ∧ b < m) : ∃ v : Int, atI [V.int a, .int b] d = some (.int v) ∧ 0 ≤ v ∧ v < m := by
  obtain ⟨n, rfl⟩ := Int.eq_ofNat_of_zero_le h0
  match n, (show n < 2 by omega) with
  | 0, _ => exact ⟨a, atI_nat rfl, ha⟩
  | 1, _ => exact ⟨b, atI_nat rfl, hb⟩
section
variable {P : Program} {w : World} {K : Frag} {mg : Str → Option Value} {base : Heap} {f : Addr} {fd : FuncData}
@[irreducible] def spPar : Sp := fun vs H Q _ => ∃ (p n : Addr) (ys : List Str), vs = [.ref p, .ref n] ∧ PotOk p H ∧ p ≠ n ∧ H n = some (.lst (ys.map V.str)) ∧ ys.length ≤ 20 ∧
  ∀ (l : Addr) (own rest : List Str) (H' : Hp), H l = none → (own ++ rest).Perm ys → own.length ≤ 4 → PotAt p H H' → H' l = some (.lst (own.map V.str)) → Q (.ref l) H'
theorem par_sp {p n : Addr} {ys : List Str} {H : Hp} {Q : VK} {E : XK} (hp : PotOk p H) (hpn : p ≠ n) (hn : H n = some (.lst (ys.map V.str))) (hl : ys.length ≤ 20)
    (q : ∀ (l : Addr) (own rest : List Str) (H' : Hp), H l = none → (own ++ rest).Perm ys → own.length ≤ 4 → PotAt p H H' → H' l = some (.lst (own.map V.str)) → Q (.ref l) H') : spPar [.ref p, .ref n] H Q E := by
  unfold spPar; exact ⟨p, n, ys, rfl, hp, hpn, hn, hl, q⟩
abbrev nPar : List Str := ["_law_pot_here", "_law_made", "_law_left", "_law_own", "_law_turn", "_law_at"]
theorem scPar : FnScope nPar ["_law_pot_here", "_law_made"] (defScope sLParents) := ⟨rfl, rfl, rfl, by decide +kernel, rfl, by decide +kernel, by decide +kernel⟩
theorem ok_par {fD : Addr} {fdD : FuncData} (F : Fun K "_law_parents" "_law_parents" sLParents f fd) (B : Blt mg) (FD : Fun K "_law_digit" "_law_digit" sDigit fD fdD) (bD : Binds K fdD ["_law_pot_here", "_law_many"] []) (mD : mg "_law_digit" = some (.ref fD)) :
    FnOk P w K mg base CX0 2 f fd ["_law_pot_here", "_law_made"] spPar := by
  have GD : FnOk P w K mg base CX0 1 fD fdD ["_law_pot_here", "_law_many"] spDigit := ok_digit FD
  refine F.ok scPar (fun vs H Q E h => ?_) (fun cdv A outer s H vs Q E hr h => ?_)
  · unfold spPar at h; obtain ⟨p, n, ys, rfl, _⟩ := h; rfl
  · unfold spPar at h
    obtain ⟨p, n, ys, rfl, hp, hpn, hn, hlen, q⟩ := h
    have hr1 : Room 1 _ := hr
    refine ⟨_, pss_cons (ps_set (i := 2) scPar.nd rfl (Or.inl rfl) (pe_callTy call_list_of rfl B.list boot_list (pa_cons (pv 1) pa_nil)))
      (pss_cons (ps_set (i := 3) scPar.nd rfl (Or.inl rfl) (pe_lst pa_nil))
      (pss_cons (ps_for PassesOwn.never rfl (pi_range1 rfl B.range (pa_cons (pe_callB (call_min2 rfl) rfl B.min boot_min (pa_cons (pe_callB call_len_seq rfl B.len boot_len (pa_cons (pv 2) pa_nil))
          (pa_cons (pe_ix ix_list (pe_lst (pa_cons pe_int (pa_cons pe_int (pa_cons pe_int (pa_cons pe_int (pa_cons pe_int (pa_cons pe_int (pa_cons pe_int pa_nil)))))))) (pe_call GD hr1 rfl mD FD.kp bD .nil pass0 (pa_cons (pv 0) (pa_cons pe_int pa_nil))) (fun _ _ => rfl)) pa_nil))) pa_nil)) (pg_name (i := 4) scPar.nd rfl (Or.inl rfl))
        (pss_cons (ps_set (i := 5) scPar.nd rfl (Or.inl rfl) (pe_ix ix_list (pe_lst (pa_cons (pe_call GD hr1 rfl mD FD.kp bD .nil pass0 (pa_cons (pv 0) (pa_cons (pe_callB call_len_seq rfl B.len boot_len (pa_cons (pv 2) pa_nil)) pa_nil)))
            (pa_cons (pe_op op_sub (pe_callB call_len_seq rfl B.len boot_len (pa_cons (pv 2) pa_nil)) pe_int) pa_nil))) (pe_call GD hr1 rfl mD FD.kp bD .nil pass0 (pa_cons (pv 0) (pa_cons pe_int pa_nil))) (fun _ _ => rfl)))
        (pss_one (ps_expr (pe_bm PySem.F.plainAttrs_list PySem.F.slot_list_append PySem.F.type_list_append mt_append (pv 3)
          (pa_cons (pe_bm PySem.F.plainAttrs_list PySem.F.slot_list_pop PySem.F.type_list_pop mt_popAt (pv 2) (pa_cons (pv 5) pa_nil)) pa_nil))))))
      (pss_one (ps_ret (pv 3))))), ?_⟩
    refine ⟨_, rfl, n, _, rfl, .inl (SqL.of hn), fun la hla => ?_⟩
    refine ⟨Nat.zero_le _, fun fa hfa => ?_⟩
    have npl : p ≠ la := hp.ne hla
    have nlf : la ≠ fa := ne_of_none upd_same hfa
    have hfaH : H fa = none := (same_new hla).free hfa
    have npf : p ≠ fa := hp.ne hfaH
    have P0 : PotAt p H (upd (upd H la (.lst (ys.map V.str))) fa (.lst [])) := ((PotAt.refl hp).new hla).new hfa
    have hla0 : (upd (upd H la (.lst (ys.map V.str))) fa (.lst [])) la = some (.lst (ys.map V.str)) := by rw [upd_ne nlf]; exact upd_same
    have hfa0 : (upd (upd H la (.lst (ys.map V.str))) fa (.lst [])) fa = some (.lst []) := upd_same
    generalize upd (upd H la (.lst (ys.map V.str))) fa (.lst []) = H0 at P0 hla0 hfa0 ⊢
    refine ⟨_, rfl, la, _, rfl, .inl (SqL.of hla0), ?_⟩
    refine ⟨by show 7 ≤ sizeLine; rw [sizeLine_eq]; decide, fun c hc => ?_⟩
    have Pc := P0.new (o := .lst [V.int 0, .int 1, .int 1, .int 2, .int 2, .int 3, .int 4]) hc
    refine ⟨_, rfl, digit_sp (p := p) (m := 7) Pc.ok (by decide) (by decide) fun d H1 d0 d1 pa1 => ?_⟩
    have npc : p ≠ c := P0.ok.ne hc
    obtain ⟨v, hv, v0, v4⟩ := seven d0 d1
    refine ⟨c, _, d, .int v, rfl, rfl, SqL.of (pa1.kp _ _ upd_same (Ne.symm npc)), hv, ?_⟩
    have P1 := Pc.trans pa1
    have hla1 : H1 la = some (.lst (ys.map V.str)) := pa1.kp _ _ (by rw [upd_ne (ne_of_none hla0 hc)]; exact hla0) (Ne.symm npl)
    have hfa1 : H1 fa = some (.lst []) := pa1.kp _ _ (by rw [upd_ne (ne_of_none hfa0 hc)]; exact hfa0) (Ne.symm npf)
    refine ⟨_, v, rfl, ?_⟩
    rw [List.length_map]
    obtain ⟨N, hN, hN4, hNl⟩ : ∃ N : Nat, (if v < (ys.length : Int) then v else (ys.length : Int)) = N ∧ N ≤ 4 ∧ N ≤ ys.length := by
      split
      · exact ⟨v.toNat, by omega, by omega, by omega⟩
      · exact ⟨ys.length, rfl, by omega, Nat.le_refl _⟩
    rw [hN]
    refine ⟨(N : Int), rfl, by omega, by omega, for_range (fun i σ H1 => ∃ (zs ls : List Str) (v4 v5 : Option V), σ = [some (.ref p), some (.ref n), some (.ref la), some (.ref fa), v4, v5] ∧ zs.length = i ∧ (zs ++ ls).Perm ys ∧ PotAt p H H1 ∧ H1 la = some (.lst (ls.map V.str)) ∧ H1 fa = some (.lst (zs.map V.str)))
      ⟨[], ys, none, none, rfl, rfl, List.Perm.refl _, P1, hla1, hfa1⟩ ?_ ?_⟩
    · rintro i σ H1 hi ⟨zs, ls, v4, v5, rfl, hz, hP, pa, hla1, hfa1⟩
      have hlen2 := hP.length_eq
      rw [List.length_append] at hlen2
      have hi' : i < N := by simpa using hi
      have hpos : 0 < ls.length := by omega
      refine ⟨_, rfl, _, rfl, la, _, rfl, .inl (SqL.of hla1), ?_⟩
      refine digit_sp (p := p) pa.ok (by rw [List.length_map]; omega) (by rw [List.length_map]; omega) fun d H2 d0 d1 pb => ?_
      have hla2 := pb.kp _ _ hla1 (Ne.symm npl)
      have hfa2 := pb.kp _ _ hfa1 (Ne.symm npf)
      rw [List.length_map] at d1
      refine ⟨_, rfl, la, _, rfl, .inl (SqL.of hla2), _, 1, rfl, rfl, ?_⟩
      rw [List.length_map]
      refine ⟨by show 2 ≤ sizeLine; rw [sizeLine_eq]; decide, fun c2 hc2 => ?_⟩
      have Pc2 := (pa.trans pb).new (o := .lst [V.int d, .int ((ls.length : Int) - 1)]) hc2
      have npc2 : p ≠ c2 := pb.ok.ne hc2
      refine ⟨_, rfl, digit_sp (p := p) (m := 2) Pc2.ok (by decide) (by decide) fun e H3 e0 e1 pe => ?_⟩
      obtain ⟨v, hv, v0, v1⟩ := two_at (a := d) (b := (ls.length : Int) - 1) (m := (ls.length : Int)) e0 e1 ⟨d0, d1⟩ ⟨by omega, by omega⟩
      have hla3 : H3 la = some (.lst (ls.map V.str)) := pe.kp _ _ (by rw [upd_ne (ne_of_none hla2 hc2)]; exact hla2) (Ne.symm npl)
      have hfa3 : H3 fa = some (.lst (zs.map V.str)) := pe.kp _ _ (by rw [upd_ne (ne_of_none hfa2 hc2)]; exact hfa2) (Ne.symm npf)
      have P3 := Pc2.trans pe
      refine ⟨c2, _, e, .int v, rfl, rfl, SqL.of (pe.kp _ _ upd_same (Ne.symm npc2)), hv, ?_⟩
      have hd : v.toNat < ls.length := by omega
      refine ⟨_, rfl, .inl ⟨rfl, _, SqL.of hfa3⟩, _, rfl, .inl ⟨rfl, _, SqL.of hla3⟩, _, rfl, ?_⟩
      refine ⟨la, _, v, v.toNat, .str ls[v.toNat], rfl, rfl, hla3, by omega, by omega, seqIndex_of v0 (by rw [List.length_map]; exact v1), by rw [List.getElem?_map, List.getElem?_eq_getElem hd]; rfl, ?_⟩
      have hfa4 : (upd H3 la (.lst ((ls.map V.str).eraseIdx v.toNat))) fa = some (.lst (zs.map V.str)) := by rw [upd_ne (Ne.symm nlf)]; exact hfa3
      refine ⟨fa, _, _, rfl, rfl, hfa4, by rw [List.length_map, sizeLine_eq]; omega, ?_⟩
      refine ⟨zs ++ [ls[v.toNat]], ls.eraseIdx v.toNat, _, _, rfl, by rw [List.length_append]; simp [hz], ?_, (P3.write hla npl).write hfaH npf, ?_, ?_⟩
      · refine List.Perm.trans ?_ hP
        rw [List.append_assoc]
        exact List.Perm.append_left zs (erase_perm ls _ hd)
      · rw [upd_ne nlf, upd_same, map_erase]
      · rw [upd_same, List.map_append]; rfl
    · rintro σ H1 ⟨zs, ls, v4, v5, rfl, hz, hP, pa, hla1, hfa1⟩
      have hz' : zs.length = N := by simpa using hz
      exact ⟨_, rfl, q fa zs ls H1 hfaH hP (by omega) pa hfa1⟩
end
end K29
namespace K29
open PySem L2 HT
def kept (rows : List (List Str)) (o : List Str) : Bool := rows.all fun r => decide ((o.filter fun n => decide (n ∈ r)) = r)
/-! ### pure: what is merged is the earliest of the orders that keep the rows -/
def fIdx : List (List Str) → Str → Nat
  | [], _ => 0
  | r :: rows, x => if x ∈ r then 0 else fIdx rows x + 1
theorem fIdx_le {x : Str} : ∀ {rows : List (List Str)} {i : Nat} {r : List Str}, rows[i]? = some r → x ∈ r → fIdx rows x ≤ i
  | [], i, r, h, _ => by simp at h
  | q :: rows, 0, r, h, hx => by
    obtain rfl : q = r := by simpa using h
    unfold fIdx; rw [if_pos hx]; exact Nat.le_refl _
  | q :: rows, i + 1, r, h, hx => by
    unfold fIdx
    split
    · exact Nat.zero_le _
    · have := fIdx_le (rows := rows) (i := i) (by simpa using h) hx
      omega
theorem fIdx_at {x : Str} : ∀ {rows : List (List Str)}, (∃ r ∈ rows, x ∈ r) → ∃ r, rows[fIdx rows x]? = some r ∧ x ∈ r
  | [], ⟨_, h, _⟩ => by simp at h
  | q :: rows, ⟨r, hr, hx⟩ => by
    unfold fIdx
    by_cases h : x ∈ q
    · rw [if_pos h]; exact ⟨q, rfl, h⟩
    · rw [if_neg h]
      rcases List.mem_cons.mp hr with rfl | hr
      · exact absurd hx h
      · obtain ⟨r', e, hx'⟩ := fIdx_at ⟨r, hr, hx⟩
        exact ⟨r', by simpa using e, hx'⟩
theorem fIdx_without {n x : Str} (h : x ≠ n) : ∀ rows : List (List Str), fIdx (L2.without n rows) x = fIdx rows x
  | [] => rfl
  | r :: rows => by
    show (if x ∈ r.filter (fun y => !decide (y = n)) then 0 else fIdx (L2.without n rows) x + 1) = if x ∈ r then 0 else fIdx rows x + 1
    rw [fIdx_without h rows]
    by_cases z : x ∈ r
    · rw [if_pos z, if_pos (List.mem_filter.mpr ⟨z, by simpa using h⟩)]
    · rw [if_neg z, if_neg fun y => z (List.mem_filter.mp y).1]
theorem free_first {all : List (List Str)} {n : Str} : ∀ {rest : List (List Str)}, freeFrom all rest = some n → wishFrom 0 all n = none ∧ ∃ (i : Nat) (r : List Str), rest[i]? = some r ∧ r.head? = some n ∧ ∀ (j : Nat) (q : List Str) (y : Str), rest[j]? = some q → q.head? = some y → wishFrom 0 all y = none → i ≤ j
  | [], h => by cases h
  | [] :: rest, h => by
    obtain ⟨h1, i, r, e1, e2, e3⟩ := free_first (rest := rest) h
    refine ⟨h1, i + 1, r, by simpa using e1, e2, fun j q y hj hq hy => ?_⟩
    cases j with
    | zero =>
      obtain rfl : [] = q := by simpa using hj
      simp at hq
    | succ j => have := e3 j q y (by simpa using hj) hq hy; omega
  | (x :: t) :: rest, h => by
    have h : (if (wishFrom 0 all x).isNone then some x else freeFrom all rest) = some n := h
    by_cases c : (wishFrom 0 all x).isNone = true
    · rw [if_pos c] at h
      cases h
      exact ⟨by simpa using c, 0, _, rfl, rfl, fun _ _ _ _ _ _ => Nat.zero_le _⟩
    · rw [if_neg c] at h
      obtain ⟨h1, i, r, e1, e2, e3⟩ := free_first (rest := rest) h
      refine ⟨h1, i + 1, r, by simpa using e1, e2, fun j q y hj hq hy => ?_⟩
      cases j with
      | zero =>
        obtain rfl : x :: t = q := by simpa using hj
        obtain rfl : x = y := by simpa using hq
        exact absurd (by rw [hy]; rfl) c
      | succ j => have := e3 j q y (by simpa using hj) hq hy; omega
def IsOrder (rest : List (List Str)) (q : List Str) : Prop := q.Nodup ∧ ∀ x, x ∈ q ↔ ∃ r ∈ rest, x ∈ r
theorem kept_iff {rest : List (List Str)} {q : List Str} : kept rest q = true ↔ ∀ r ∈ rest, (q.filter fun n => decide (n ∈ r)) = r := by
  unfold kept; rw [List.all_eq_true]; simp
theorem mem_without {n x : Str} {rest : List (List Str)} : (∃ r ∈ L2.without n rest, x ∈ r) ↔ x ≠ n ∧ ∃ r ∈ rest, x ∈ r := by
  constructor
  · rintro ⟨r, hr, hx⟩
    obtain ⟨q, hq, rfl⟩ := List.mem_map.mp hr
    have := List.mem_filter.mp hx
    exact ⟨by simpa using this.2, q, hq, this.1⟩
  · rintro ⟨h, q, hq, hx⟩
    exact ⟨_, List.mem_map.mpr ⟨q, hq, rfl⟩, List.mem_filter.mpr ⟨hx, by simpa using h⟩⟩
theorem any_iff {rest : List (List Str)} : (rest.any fun r => !r.isEmpty) = true ↔ ∃ r ∈ rest, ∃ x, x ∈ r := by
  rw [List.any_eq_true]
  constructor
  · rintro ⟨r, hr, e⟩
    cases r with
    | nil => simp at e
    | cons x t => exact ⟨_, hr, x, List.mem_cons_self⟩
  · rintro ⟨r, hr, x, hx⟩
    refine ⟨r, hr, ?_⟩
    cases r with
    | nil => simp at hx
    | cons y t => rfl
theorem sound : ∀ (m : Nat) (rest : List (List Str)), total rest = m → (∀ r ∈ rest, r.Nodup) → ∀ o, mergeG (total rest) rest = some o → IsOrder rest o ∧ kept rest o = true := by
  intro m
  induction m using Nat.strongRecOn with
  | _ m ih =>
    intro rest hm hnd o ho
    cases hA : rest.any fun r => !r.isEmpty with
    | false =>
      rw [merge_stop hA] at ho
      cases ho
      have emp : ∀ r ∈ rest, ∀ x, x ∉ r := fun r hr x hx => by
        have := any_iff.mpr ⟨r, hr, x, hx⟩
        rw [hA] at this; cases this
      refine ⟨⟨List.nodup_nil, fun x => ⟨fun h => by simp at h, fun ⟨r, hr, hx⟩ => absurd hx (emp r hr x)⟩⟩, kept_iff.mpr fun r hr => ?_⟩
      cases r with
      | nil => rfl
      | cons y t => exact absurd List.mem_cons_self (emp _ hr y)
    | true =>
      cases e : leastFree rest with
      | none => rw [merge_none hA e] at ho; cases ho
      | some n =>
        rw [merge_some hA e] at ho
        obtain ⟨o', ho', rfl⟩ := Option.map_eq_some_iff.mp ho
        have lt := total_without_lt (least_mem e)
        obtain ⟨⟨h1, h2⟩, h3⟩ := ih _ (by omega) (L2.without n rest) rfl (nd_without hnd) o' ho'
        rw [kept_iff] at h3
        have hno : n ∉ o' := fun z => ((mem_without.mp ((h2 n).mp z)).1 rfl)
        obtain ⟨hfree, _⟩ := free_first e
        rw [wish_none] at hfree
        refine ⟨⟨List.nodup_cons.mpr ⟨hno, h1⟩, fun x => ?_⟩, kept_iff.mpr fun r hr => ?_⟩
        · rw [List.mem_cons, h2, mem_without]
          constructor
          · rintro (rfl | h)
            · exact least_mem e
            · exact h.2
          · intro h
            by_cases z : x = n
            · exact .inl z
            · exact .inr ⟨z, h⟩
        · have hr' := h3 _ (List.mem_map.mpr ⟨r, hr, rfl⟩)
          have same : (o'.filter fun y => decide (y ∈ r)) = o'.filter fun y => decide (y ∈ r.filter fun y => !decide (y = n)) := by
            apply List.filter_congr
            intro y hy
            have : y ≠ n := fun z => hno (z ▸ hy)
            simp [this]
          by_cases hn : n ∈ r
          · have hh := hfree r hr hn
            cases r with
            | nil => simp at hn
            | cons z t =>
              obtain rfl : z = n := by simpa using hh
              have ht : z ∉ t := (List.nodup_cons.mp (hnd _ hr)).1
              have et : ((z :: t).filter fun y => !decide (y = z)) = t := by
                rw [List.filter_cons_of_neg (by simp)]
                exact List.filter_eq_self.mpr fun y hy => by
                  have : y ≠ z := fun w => ht (w ▸ hy)
                  simpa using this
              rw [List.filter_cons_of_pos (by simp), same, hr', et]
          · have er : (r.filter fun y => !decide (y = n)) = r := List.filter_eq_self.mpr fun y hy => by
              have : y ≠ n := fun w => hn (w ▸ hy)
              simpa using this
            rw [List.filter_cons_of_neg (by simpa using hn), same, hr', er]
theorem best : ∀ (m : Nat) (rest : List (List Str)), total rest = m → (∀ r ∈ rest, r.Nodup) → ∀ (rk : Str → Int), (∀ x, (∃ r ∈ rest, x ∈ r) → rk x = fIdx rest x) → ∀ q, IsOrder rest q → kept rest q = true →
    ∃ o, mergeG (total rest) rest = some o ∧ lexLt (q.map rk) (o.map rk) = false := by
  intro m
  induction m using Nat.strongRecOn with
  | _ m ih =>
    intro rest hm hnd rk hrk q hq hk
    obtain ⟨qnd, qmem⟩ := hq
    rw [kept_iff] at hk
    cases q with
    | nil =>
      have hA : (rest.any fun r => !r.isEmpty) = false := by
        cases hA : rest.any fun r => !r.isEmpty with
        | false => rfl
        | true =>
          obtain ⟨r, hr, x, hx⟩ := any_iff.mp hA
          exact absurd ((qmem x).mpr ⟨r, hr, hx⟩) (by simp)
      exact ⟨[], merge_stop hA, rfl⟩
    | cons x q' =>
      have hx := (qmem x).mp List.mem_cons_self
      obtain ⟨r0, hr0, hx0⟩ := hx
      have hA : (rest.any fun r => !r.isEmpty) = true := any_iff.mpr ⟨r0, hr0, x, hx0⟩
      have xfree : ∀ r ∈ rest, x ∈ r → r.head? = some x := fun r hr hxr => by
        have := hk r hr
        rw [List.filter_cons_of_pos (by simpa using hxr)] at this
        rw [← this]; rfl
      have xw : wishFrom 0 rest x = none := wish_none.mpr xfree
      cases e : leastFree rest with
      | none =>
        have hh : x ∈ heads rest := mem_heads.mpr ⟨r0, hr0, xfree r0 hr0 hx0⟩
        exact absurd xw (freeFrom_none e x hh)
      | some n =>
        obtain ⟨nw, i, r, ei, eh, first⟩ := free_first e
        have nfree := wish_none.mp nw
        have lt := total_without_lt (least_mem e)
        have hn : ∃ r ∈ rest, n ∈ r := least_mem e
        have ord' : IsOrder (L2.without n rest) ((x :: q').filter fun y => !decide (y = n)) := by
          refine ⟨qnd.filter _, fun y => ?_⟩
          rw [mem_without, List.mem_filter, qmem]
          constructor
          · rintro ⟨h1, h2⟩; exact ⟨by simpa using h2, h1⟩
          · rintro ⟨h1, h2⟩; exact ⟨h2, by simpa using h1⟩
        have kept' : kept (L2.without n rest) ((x :: q').filter fun y => !decide (y = n)) = true := by
          rw [kept_iff]
          intro s hs
          obtain ⟨s0, hs0, rfl⟩ := List.mem_map.mp hs
          have h1 := hk s0 hs0
          show List.filter (fun y => decide (y ∈ s0.filter fun y => !decide (y = n))) ((x :: q').filter fun y => !decide (y = n)) = s0.filter fun y => !decide (y = n)
          conv => rhs; rw [← h1]
          rw [List.filter_filter, List.filter_filter]
          apply List.filter_congr
          intro y _
          by_cases z : y = n
          · simp [z]
          · simp [z]
        obtain ⟨o', ho', hlex⟩ := ih _ (by omega) (L2.without n rest) rfl (nd_without hnd) rk (fun y hy => by
          obtain ⟨h1, h2⟩ := mem_without.mp hy
          rw [hrk y h2, fIdx_without h1]) _ ord' kept'
        refine ⟨n :: o', by rw [merge_some hA e, ho']; rfl, ?_⟩
        rw [List.map_cons, List.map_cons, lexLt_cons]
        by_cases z : x = n
        · subst z
          rw [if_pos rfl]
          have hxq : x ∉ q' := (List.nodup_cons.mp qnd).1
          have eq' : ((x :: q').filter fun y => !decide (y = x)) = q' := by
            rw [List.filter_cons_of_neg (by simp)]
            exact List.filter_eq_self.mpr fun y hy => by
              have : y ≠ x := fun w => hxq (w ▸ hy)
              simpa using this
          rw [eq'] at hlex
          exact hlex
        · obtain ⟨rx, erx, hxrx⟩ := fIdx_at ⟨r0, hr0, hx0⟩
          have hrx := List.mem_of_getElem? erx
          have h1 : i ≤ fIdx rest x := first _ rx x erx (xfree rx hrx hxrx) xw
          have h2 : fIdx rest n ≤ i := fIdx_le ei (List.mem_of_head? eh)
          have h3 : fIdx rest n ≠ fIdx rest x := fun w => by
            obtain ⟨rn, ern, hnrn⟩ := fIdx_at hn
            rw [w, erx] at ern
            obtain rfl := Option.some.inj ern
            have a := xfree rx hrx hxrx
            rw [nfree rx hrx hnrn] at a
            exact z (Option.some.inj a).symm
          have r1 : rk x = (fIdx rest x : Int) := hrk x ⟨r0, hr0, hx0⟩
          have r2 : rk n = (fIdx rest n : Int) := hrk n hn
          rw [if_neg (by rw [r1, r2]; omega), r1, r2]
          exact decide_eq_false (by omega)
end K29
namespace K29
open PySem L2 PySem.W HT
theorem len_sub {a b : List Str} (nd : a.Nodup) (h : ∀ x ∈ a, x ∈ b) : a.length ≤ b.length := few_of nd h
structure Fm (done : List Str) (L Ps : Str → List Str) : Prop where
  ps : ∀ x ∈ done, (Ps x).Nodup ∧ (Ps x).length ≤ 4 ∧ ∀ y ∈ Ps x, y ∈ done
  ln : ∀ x ∈ done, ∃ o, mergeG (total (rowsOf L (Ps x))) (rowsOf L (Ps x)) = some o ∧ L x = x :: o
  ld : ∀ x ∈ done, (L x).Nodup ∧ ∀ y ∈ L x, y ∈ done
theorem mem_rowsOf {L : Str → List Str} {own r : List Str} : r ∈ rowsOf L own ↔ (∃ y ∈ own, r = L y) ∨ r = own := by
  unfold rowsOf
  rw [List.mem_append, List.mem_map, List.mem_singleton]
  constructor
  · rintro (⟨y, h, rfl⟩ | h)
    · exact .inl ⟨y, h, rfl⟩
    · exact .inr h
  · rintro (⟨y, h, rfl⟩ | h)
    · exact .inl ⟨y, h, rfl⟩
    · exact .inr h
theorem Fm.rowsIn {done : List Str} {L Ps : Str → List Str} (F : Fm done L Ps) {own : List Str} (nd : own.Nodup) (sub : ∀ y ∈ own, y ∈ done) : ∀ r ∈ rowsOf L own, r.Nodup ∧ ∀ y ∈ r, y ∈ done := fun r hr => by
  rcases mem_rowsOf.mp hr with ⟨y, hy, rfl⟩ | rfl
  · exact F.ld y (sub y hy)
  · exact ⟨nd, sub⟩
theorem Fm.small {done : List Str} {L Ps : Str → List Str} (F : Fm done L Ps) (hk : ∀ x ∈ done, Nm x) (h8 : done.length ≤ 8) {own : List Str} (nd : own.Nodup) (h4 : own.length ≤ 4) (sub : ∀ y ∈ own, y ∈ done) : Small (rowsOf L own) := by
  refine ⟨?_, fun r hr => ?_, fun r hr y hy => ?_⟩
  · unfold rowsOf; rw [List.length_append, List.length_map, List.length_singleton]; omega
  · obtain ⟨h1, h2⟩ := F.rowsIn nd sub r hr
    have := len_sub h1 h2
    omega
  · exact hk y ((F.rowsIn nd sub r hr).2 y hy)
theorem Fm.order {done : List Str} {L Ps : Str → List Str} (F : Fm done L Ps) {own o : List Str} (nd : own.Nodup) (sub : ∀ y ∈ own, y ∈ done) (hm : mergeG (total (rowsOf L own)) (rowsOf L own) = some o) : o.Nodup ∧ (∀ y ∈ o, y ∈ done) ∧ ∀ r ∈ rowsOf L own, ∀ y ∈ r, y ∈ o := by
  obtain ⟨⟨h1, h2⟩, _⟩ := sound _ _ rfl (fun r hr => (F.rowsIn nd sub r hr).1) o hm
  refine ⟨h1, fun y hy => ?_, fun r hr y hy => (h2 y).mpr ⟨r, hr, hy⟩⟩
  obtain ⟨r, hr, h⟩ := (h2 y).mp hy
  exact (F.rowsIn nd sub r hr).2 y h
theorem rowsOf_ext {L L' : Str → List Str} {own : List Str} (h : ∀ y ∈ own, L' y = L y) : rowsOf L' own = rowsOf L own := by
  unfold rowsOf; rw [List.map_congr_left h]
theorem Fm.add {done : List Str} {L Ps : Str → List Str} (F : Fm done L Ps) {k : Str} {own o : List Str} (hk : k ∉ done) (nd : own.Nodup) (h4 : own.length ≤ 4) (sub : ∀ y ∈ own, y ∈ done) (hm : mergeG (total (rowsOf L own)) (rowsOf L own) = some o) :
    Fm (done ++ [k]) (fun x => if x = k then k :: o else L x) (fun x => if x = k then own else Ps x) := by
  have nk : ∀ {y}, y ∈ done → y ≠ k := fun h z => hk (z ▸ h)
  have ext : ∀ {ps : List Str}, (∀ y ∈ ps, y ∈ done) → rowsOf (fun x => if x = k then k :: o else L x) ps = rowsOf L ps := fun h => rowsOf_ext fun y hy => if_neg (nk (h y hy))
  obtain ⟨o1, o2, _⟩ := F.order nd sub hm
  refine ⟨fun x hx => ?_, fun x hx => ?_, fun x hx => ?_⟩
  · by_cases e : x = k
    · rw [if_pos e]; exact ⟨nd, h4, fun y hy => List.mem_append_left _ (sub y hy)⟩
    · rw [if_neg e]
      obtain ⟨a, b, c⟩ := F.ps x (by rcases List.mem_append.mp hx with z | z; exact z; exact absurd (by simpa using z) e)
      exact ⟨a, b, fun y hy => List.mem_append_left _ (c y hy)⟩
  · by_cases e : x = k
    · refine ⟨o, ?_, by rw [if_pos e, e]⟩
      rw [if_pos e, ext sub]; exact hm
    · have hx' : x ∈ done := by rcases List.mem_append.mp hx with z | z; exact z; exact absurd (by simpa using z) e
      obtain ⟨o', h1, h2⟩ := F.ln x hx'
      refine ⟨o', ?_, by rw [if_neg e]; exact h2⟩
      rw [if_neg e, ext (F.ps x hx').2.2]; exact h1
  · by_cases e : x = k
    · rw [if_pos e]
      refine ⟨List.nodup_cons.mpr ⟨fun z => hk (o2 k z), o1⟩, fun y hy => ?_⟩
      rcases List.mem_cons.mp hy with z | z
      · rw [z]; exact List.mem_append_right _ List.mem_cons_self
      · exact List.mem_append_left _ (o2 y z)
    · rw [if_neg e]
      have hx' : x ∈ done := by rcases List.mem_append.mp hx with z | z; exact z; exact absurd (by simpa using z) e
      obtain ⟨a, b⟩ := F.ld x hx'
      exact ⟨a, fun y hy => List.mem_append_left _ (b y hy)⟩
def famOf (Ps : Str → List Str) (ks : List Str) : List (Str × List Str) := ks.map fun x => (x, Ps x)
theorem famOf_keys (Ps : Str → List Str) (ks : List Str) : (famOf Ps ks).map (·.1) = ks := by
  unfold famOf; rw [List.map_map]; exact List.map_id' _
theorem Fm.famOk {ks : List Str} {L Ps : Str → List Str} (F : Fm ks L Ps) (nd : ks.Nodup) (hk : ∀ x ∈ ks, Nm x) (h8 : ks.length ≤ 8) : FamOk (famOf Ps ks) L := by
  have mem : ∀ {p : Str × List Str}, p ∈ famOf Ps ks → p.1 ∈ ks ∧ p.2 = Ps p.1 := fun {p} hp => by
    obtain ⟨x, hx, rfl⟩ := List.mem_map.mp hp
    exact ⟨hx, rfl⟩
  refine ⟨by rw [famOf_keys]; exact nd, by unfold famOf; rw [List.length_map]; exact h8, fun p hp => hk _ (mem hp).1, fun p hp x hx => ?_, ⟨fun x => (L x).length, fun p hp x hx => ?_⟩, fun p hp => ?_⟩
  · obtain ⟨h1, h2⟩ := mem hp
    rw [h2] at hx
    exact ⟨(x, Ps x), List.mem_map.mpr ⟨x, (F.ps _ h1).2.2 x hx, rfl⟩, rfl⟩
  · obtain ⟨h1, h2⟩ := mem hp
    rw [h2] at hx
    obtain ⟨o, hm, hL⟩ := F.ln _ h1
    obtain ⟨n1, _, n3⟩ := F.ps _ h1
    obtain ⟨_, _, h5⟩ := F.order n1 n3 hm
    have := len_sub (F.ld x (n3 x hx)).1 fun y hy => h5 (L x) (mem_rowsOf.mpr (.inl ⟨x, hx, rfl⟩)) y hy
    show (L x).length < (L p.1).length
    rw [hL, List.length_cons]; omega
  · obtain ⟨h1, h2⟩ := mem hp
    rw [h2]
    obtain ⟨o, hm, hL⟩ := F.ln _ h1
    obtain ⟨n1, n2, n3⟩ := F.ps _ h1
    obtain ⟨h3, h4, _⟩ := F.order n1 n3 hm
    exact ⟨F.small hk h8 n1 n2 n3, o, hm, hL, by have := len_sub h3 h4; omega⟩
theorem cut_last (xs : List Str) : cutV (xs.map V.str) none (some (-1)) = xs.dropLast.map V.str := by
  unfold cutV
  have e1 : HT.sIx (xs.map V.str).length 0 none = 0 := rfl
  have e2 : HT.sIx (xs.map V.str).length (xs.map V.str).length (some (-1)) = xs.length - 1 := by
    rw [List.length_map]
    unfold HT.sIx
    simp
    omega
  rw [e1, e2, List.drop_zero, Nat.sub_zero, ← List.map_take, List.dropLast_eq_take]

theorem strs_pot {p a : Addr} {H : Hp} {xs : List Str} (h : PotOk p H) (e : H a = some (.lst (xs.map V.str))) : a ≠ p := by
  rintro rfl
  obtain ⟨x, y, e2, _⟩ := h
  rw [e] at e2
  have e3 : xs.map V.str = [.int x, .int y] := HO.lst.inj (Option.some.inj e2)
  cases xs with
  | nil => cases e3
  | cons z t => cases e3
theorem LnL.pot {p : Addr} {H H' : Hp} {kvs : List (Key × V)} {L : Str → List Str} {x : Str} (h : LnL H kvs L x) (ok : PotOk p H) (s : PotAt p H H') : LnL H' kvs L x := let ⟨a, e, q⟩ := h; ⟨a, e, s.kp _ _ q (strs_pot ok q)⟩
theorem LnL.write {H H' : Hp} {d : Addr} {kvs kvs0 : List (Key × V)} {L : Str → List Str} {x : Str} {u : HO} (h : LnL H kvs L x) (hd : H d = some (.dK kvs0)) (e : H' = upd H d u) : LnL H' kvs L x := let ⟨a, e1, q⟩ := h; ⟨a, e1, by rw [e, upd_ne (ne_of q hd (by intro z; cases z))]; exact q⟩
theorem keep_dk {p d : Addr} {H H' : Hp} {kvs : List (Key × V)} (ok : PotOk p H) (s : PotAt p H H') (e : H d = some (.dK kvs)) : H' d = some (.dK kvs) := by
  obtain ⟨x, y, ep, _⟩ := ok
  exact s.kp _ _ e (ne_of e ep (by intro z; cases z))
theorem pot_same {p : Addr} {H H' : Hp} (h : PotOk p H) (s : Same H H') : PotAt p H H' := by
  obtain ⟨x, y, e, r⟩ := h
  exact ⟨⟨x, y, s _ _ e, r⟩, fun b o e _ => s b o e⟩
theorem lnL_put {H : Hp} {kvs : List (Key × V)} {L : Str → List Str} {k : Str} {a d : Addr} {l : List Str} (hd : H d = some (.dK kvs)) (hl : H a = some (.lst (l.map V.str))) {x : Str} (h : x ≠ k → LnL H kvs L x) :
    LnL (upd H d (.dK (putK kvs (Sum.inr k) (.ref a)))) (putK kvs (Sum.inr k) (.ref a)) (fun x => if x = k then l else L x) x := by
  unfold LnL
  rw [valV_put]
  by_cases e : x = k
  · subst e
    refine ⟨a, by rw [if_pos rfl], ?_⟩
    rw [upd_ne (ne_of hl hd (by intro z; cases z))]; show H a = some (.lst ((if x = x then l else L x).map V.str)); rw [if_pos rfl]; exact hl
  · obtain ⟨b, e1, e2⟩ := h e
    refine ⟨b, by rw [if_neg (fun z => e (Sum.inr.inj z))]; exact e1, ?_⟩
    rw [upd_ne (ne_of e2 hd (by intro z; cases z))]; show H b = some (.lst ((if x = k then l else L x).map V.str)); rw [if_neg e]; exact e2
theorem keys_put {kvs : List (Key × V)} {done : List Str} {k : Str} {v : V} (h : kvs.map (·.1) = done.map Sum.inr) (hk : k ∉ done) : (putK kvs (Sum.inr k) v).map (·.1) = (done ++ [k]).map Sum.inr := by
  have hv : valV kvs (Sum.inr k) = none := by
    have : (valV kvs (Sum.inr k)).isSome = false := by
      rw [← valV_any, List.any_eq_false]
      intro kv hkv hd
      have e : kv.1 = Sum.inr k := of_decide_eq_true hd
      have : kv.1 ∈ kvs.map (·.1) := List.mem_map.mpr ⟨kv, hkv, rfl⟩
      rw [h, e] at this
      obtain ⟨y, hy, ey⟩ := List.mem_map.mp this
      exact hk (Sum.inr.inj ey ▸ hy)
    cases e : valV kvs (Sum.inr k) with
    | none => rfl
    | some _ => rw [e] at this; cases this
  rw [putK_new _ hv, List.map_append, List.map_append, h]; rfl
theorem FamV.pairsR {H : Hp} {vs : List V} {fam : List (Str × List Str)} (h : FamV H vs fam) : ∃ kvs, PairsV H vs kvs ∧ kvs.map (·.1) = fam.map (·.1) ∧ ∀ q ∈ kvs, ∃ z, q.2 = V.ref z := by
  induction h with
  | nil => exact ⟨[], .nil, rfl, by simp⟩
  | cons p _ ih =>
    obtain ⟨a, b, e, q, r⟩ := p
    obtain ⟨kvs, h1, h2, h3⟩ := ih
    refine ⟨(_, .ref b) :: kvs, .cons ⟨a, e, q⟩ h1, by rw [List.map_cons, List.map_cons, h2], fun z hz => ?_⟩
    rcases List.mem_cons.mp hz with rfl | hz
    · exact ⟨b, rfl⟩
    · exact h3 z hz
theorem pairs_keys {H : Hp} : ∀ {vs : List V} {fam : List (Str × List Str)} {kvs : List (Str × V)}, FamV H vs fam → PairsV H vs kvs → kvs.map (·.1) = fam.map (·.1)
  | _, _, _, .nil, .nil => rfl
  | _, _, _, .cons ⟨a, b, e, q, r⟩ t, .cons ⟨a', e', q'⟩ t' => by
    have ea : a = a' := by rw [e] at e'; cases e'; rfl
    subst ea
    rw [q] at q'
    rw [List.map_cons, List.map_cons, pairs_keys t t']
    injection (Option.some.inj q') with z
    injection z with z1 z2
    injection z1 with z3
    rw [z3]
section
variable {P : Program} {w : World} {K : Frag} {mg : Str → Option Value} {base : Heap} {f : Addr} {fd : FuncData}
structure FamRes (p : Addr) (H : Hp) (ks : List Str) (r t d1 d2 : Addr) (o : Obj) (ws : List V) (kvs2 : List (Key × V)) (L Ps : Str → List Str) (fam : List (Str × List Str)) (H' : Hp) : Prop where
  hr : H' r = some (.tup [.ref t, .ref d1, .ref d2])
  ht : H' t = some (.frz o (.tup ws))
  od : o.dict = none
  fv : FamV H' ws fam
  pm : fam.Perm (famOf Ps ks)
  fm : Fm ks L Ps
  hd : H' d2 = some (.dK kvs2)
  hk : kvs2.map (·.1) = ks.map Sum.inr
  pl : ∀ x ∈ ks, LnL H' kvs2 Ps x
  pa : PotAt p H H'
  n2 : H d2 = none
  so : (fam.map (·.1)).Pairwise fun a b => ltS a b = true
@[irreducible] def spFam : Sp := fun vs H Q _ => ∃ (p n : Addr) (ks : List Str), vs = [.ref p, .ref n] ∧ PotOk p H ∧ H n = some (.lst (ks.map V.str)) ∧ ks.Nodup ∧ (∀ x ∈ ks, Nm x) ∧ ks.length ≤ 8 ∧
  ∀ r t d1 d2 o ws kvs2 L Ps fam H', FamRes p H ks r t d1 d2 o ws kvs2 L Ps fam H' → Q (.ref r) H'
theorem fam_sp {p n : Addr} {ks : List Str} {H : Hp} {Q : VK} {E : XK} (hp : PotOk p H) (hn : H n = some (.lst (ks.map V.str))) (nd : ks.Nodup) (nm : ∀ x ∈ ks, Nm x) (h8 : ks.length ≤ 8)
    (q : ∀ r t d1 d2 o ws kvs2 L Ps fam H', FamRes p H ks r t d1 d2 o ws kvs2 L Ps fam H' → Q (.ref r) H') : spFam [.ref p, .ref n] H Q E := by unfold spFam; exact ⟨p, n, ks, rfl, hp, hn, nd, nm, h8, q⟩
abbrev nFam : List Str := ["_law_pot_here", "_law_kinds", "_law_lines", "_law_parents_here", "_law_kind", "_law_own", "_law_turn", "_law_family_here"]
theorem scFam : FnScope nFam ["_law_pot_here", "_law_kinds"] (defScope sLFamily) := ⟨rfl, rfl, rfl, by decide +kernel, rfl, by decide +kernel, by decide +kernel⟩
abbrev eFam : Expr := arg0 (arg0 (asgV (bodyAt (defBody sLFamily) 2)))
theorem csFam : CompScope nFam (defScope sLFamily) ["_law_kind", "_law_parents_here"] [none, some 3] (compSc eFam) := ⟨rfl, by decide +kernel, by decide +kernel, rfl, fv_of (by decide +kernel), by decide +kernel⟩
theorem ok_fam {fP fL : Addr} {dP dL : FuncData} (F : Fun K "_law_family" "_law_family" sLFamily f fd) (B : Blt mg) (B2 : Blt2 mg)
    (GP : FnOk P w K mg base CX0 2 fP dP ["_law_pot_here", "_law_made"] spPar) (kP : keepIn K (.ref fP) = true) (bP : Binds K dP ["_law_pot_here", "_law_made"] []) (mP : mg "_law_parents" = some (.ref fP))
    (GL : FnOk P w K mg base CX0 2 fL dL ["_law_lines", "_law_kind", "_law_own"] spLL) (kL : keepIn K (.ref fL) = true) (bL : Binds K dL ["_law_lines", "_law_kind", "_law_own"] []) (mL : mg "_law_line" = some (.ref fL)) :
    FnOk P w K mg base CX0 3 f fd ["_law_pot_here", "_law_kinds"] spFam := by
  refine F.ok scFam (fun vs H Q E h => ?_) (fun cdv A outer s H vs Q E hr h => ?_)
  · unfold spFam at h; obtain ⟨p, n, ks, rfl, _⟩ := h; rfl
  · unfold spFam at h
    obtain ⟨p, n, ks, rfl, hp, hn, knd, knm, k8, q⟩ := h
    have hu := hr.units
    have hu1 := Nat.lt_of_le_of_lt (Nat.add_le_add_left (show 1 ≤ 64 by decide) _) hu
    refine ⟨_, pss_cons (ps_asg (pe_tup (pa_cons pe_dnewK (pa_cons pe_dnewK pa_nil))) (pg_tup rfl (pgs_cons (pg_name (i := 2) scFam.nd rfl (Or.inl rfl)) (pgs_cons (pg_name (i := 3) scFam.nd rfl (Or.inr rfl)) pgs_nil))))
      (pss_cons (ps_for PassesOwn.never rfl (pi_list (pv 1)) (pg_name (i := 4) scFam.nd rfl (Or.inl rfl))
        (pss_cons (ps_set (i := 5) scFam.nd rfl (Or.inl rfl) (pe_call GP hr rfl mP kP bP .nil pass0 (pa_cons (pv 0) (pa_cons (pe_callTy (call_listD rfl) rfl B.list boot_list (pa_cons (pv 2) pa_nil)) pa_nil))))
        (pss_cons (ps_for PassesOwn.never rfl (pi_range1 rfl B.range (pa_cons pe_int pa_nil)) (pg_name (i := 6) scFam.nd rfl (Or.inl rfl))
          (pss_one (ps_if (pt_cmpR op_isN (pe_call GL hr rfl mL kL bL .nil pass0 (pa_cons (pv 2) (pa_cons (pv 4) (pa_cons (pv 5) pa_nil)))) pe_non (nomark _))
            (pss_one (ps_set (i := 5) scFam.nd rfl (Or.inl rfl) (pe_slice sl_list (pv 5) po_none (po_some (pe_un un_neg pe_int))))) pss_nil)))
        (pss_cons (ps_dput hu1 (pv 2) (pv 4) (pe_call GL hr rfl mL kL bL .nil pass0 (pa_cons (pv 2) (pa_cons (pv 4) (pa_cons (pv 5) pa_nil)))) rfl)
        (pss_one (ps_dput hu1 (pv 3) (pv 4) (pv 5) rfl))))))
      (pss_cons (ps_set (i := 7) scFam.nd rfl (Or.inl rfl) (pe_callTy call_tuple_frz rfl B.tuple boot_tuple (pa_cons (pe_callB call_sortedPO rfl B2.sorted boot_sorted (pa_cons (pe_comp rfl csFam (pi_list (pv 1)) (fun s H fp => ⟨pg_name (i := 0) csFam.nd rfl (Or.inl rfl), pifs_nil,
          pe_tup (pa_cons (pv 0) (pa_cons (pe_callTy (call_tuple_K K rfl) rfl B.tuple boot_tuple (pa_cons (pe_dget hu1 (pv 1) (pv 0) (fun _ _ => rfl)) pa_nil)) pa_nil))⟩)) pa_nil)) pa_nil)))
      (pss_one (ps_ret (pe_tup (pa_cons (pv 7) (pa_cons (pv 2) (pa_cons (pv 3) pa_nil)))))))), ?_⟩
    intro d1 hd1 d2 hd2
    have S2 : Same H (upd (upd H d1 (.dK [])) d2 (.dK [])) := (same_new hd1).trans (same_new hd2)
    have n12 : d1 ≠ d2 := ne_of_none upd_same hd2
    have hd2H : H d2 = none := (same_new hd1).free hd2
    refine ⟨by show 2 ≤ sizeLine; rw [sizeLine_eq]; decide, fun tp htp => ?_⟩
    have k2 : (upd (upd H d1 (.dK [])) d2 (.dK [])) d1 = some (.dK []) := by rw [upd_ne n12]; exact upd_same
    have S3 := S2.trans (same_new (o := .tup [V.ref d1, .ref d2]) htp)
    have hd1' : upd (upd (upd H d1 (.dK [])) d2 (.dK [])) tp (.tup [V.ref d1, .ref d2]) d1 = some (.dK []) := by rw [upd_ne (ne_of_none k2 htp)]; exact k2
    have hd2' : upd (upd (upd H d1 (.dK [])) d2 (.dK [])) tp (.tup [V.ref d1, .ref d2]) d2 = some (.dK []) := by rw [upd_ne (ne_of_none upd_same htp)]; exact upd_same
    refine ⟨tp, _, rfl, SqT.of upd_same, rfl, _, _, rfl, _, _, rfl, rfl, ?_⟩
    generalize upd (upd (upd H d1 (.dK [])) d2 (.dK [])) tp (.tup [V.ref d1, .ref d2]) = H0 at S3 hd1' hd2' ⊢
    have P0 : PotAt p H H0 := pot_same hp S3
    have np1 : p ≠ d1 := hp.ne hd1
    have np2 : p ≠ d2 := hp.ne hd2H
    have nnp : n ≠ p := strs_pot hp hn
    refine ⟨_, rfl, n, rfl, ⟨_, SqL.of (P0.kp _ _ hn nnp)⟩, for_list (xs := ks.map V.str) (fun i σ H1 => ∃ (kvs1 kvs2 : List (Key × V)) (L Ps : Str → List Str) (v4 v5 v6 : Option V), σ = [some (.ref p), some (.ref n), some (.ref d1), some (.ref d2), v4, v5, v6, none] ∧ PotAt p H H1 ∧
      H1 d1 = some (.dK kvs1) ∧ H1 d2 = some (.dK kvs2) ∧ kvs1.map (·.1) = (ks.take i).map Sum.inr ∧ kvs2.map (·.1) = (ks.take i).map Sum.inr ∧ (∀ x ∈ ks.take i, LnL H1 kvs1 L x) ∧ (∀ x ∈ ks.take i, LnL H1 kvs2 Ps x) ∧ Fm (ks.take i) L Ps)
      ⟨[], [], fun _ => [], fun _ => [], none, none, none, rfl, P0, hd1', hd2', rfl, rfl, fun x hx => (by cases hx), fun x hx => (by cases hx), ⟨fun x hx => (by cases hx), fun x hx => (by cases hx), fun x hx => (by cases hx)⟩⟩ (fun i σ H1 _ ⟨_, _, _, _, _, _, _, _, z, _⟩ => SqL.of (z.kp _ _ hn nnp)) ?_ ?_⟩
    · rintro i x σ H1 hx ⟨kvs1, kvs2, L, Ps, v4, v5, v6, rfl, P1, h11, h12, e1, e2, l1, l2, fm⟩
      have hil : i < ks.length := by simpa using (List.getElem?_eq_some_iff.mp hx).1
      obtain rfl : V.str ks[i] = x := by simpa [hil] using hx
      have tki : ks.take (i + 1) = ks.take i ++ [ks[i]] := by rw [List.take_succ, List.getElem?_eq_getElem hil]; rfl
      have hnot : ks[i] ∉ ks.take i := by
        have : (ks.take (i + 1)).Nodup := knd.sublist (List.take_sublist _ _)
        rw [tki] at this
        exact fun z => (List.nodup_append.mp this).2.2 _ z _ List.mem_cons_self rfl
      have dnd : (ks.take i).Nodup := knd.sublist (List.take_sublist _ _)
      have dnm : ∀ x ∈ ks.take i, Nm x := fun x hx => knm x (List.mem_of_mem_take hx)
      have d8 : (ks.take i).length ≤ 8 := by rw [List.length_take]; omega
      have lk1 : kvs1.length = (ks.take i).length := by have := congrArg List.length e1; simpa using this
      have lk2 : kvs2.length = (ks.take i).length := by have := congrArg List.length e2; simpa using this
      refine ⟨_, rfl, _, rfl, d1, kvs1, rfl, h11, fun l hl => ?_⟩
      have ek : kvs1.map (fun kv => kV kv.1) = (ks.take i).map V.str := by
        have : kvs1.map (fun kv => kV kv.1) = (kvs1.map (·.1)).map kV := by rw [List.map_map]; rfl
        rw [this, e1, List.map_map]; rfl
      rw [ek]
      have Pl := P1.new (o := .lst ((ks.take i).map V.str)) hl
      have Sl := same_new (o := .lst ((ks.take i).map V.str)) hl
      refine par_sp Pl.ok (P1.ok.ne hl) upd_same (by omega) fun oa own rest H3 hoa hperm ho4 pb h3 => ?_
      have P3 := Pl.trans pb
      have ond : own.Nodup := (List.nodup_append.mp (hperm.nodup_iff.mpr dnd)).1
      have osub : ∀ y ∈ own, y ∈ ks.take i := fun y hy => hperm.mem_iff.mp (List.mem_append_left _ hy)
      have h31 := keep_dk Pl.ok pb (Sl _ _ h11)
      have h32 := keep_dk Pl.ok pb (Sl _ _ h12)
      have l31 : ∀ x ∈ ks.take i, LnL H3 kvs1 L x := fun x hx => ((l1 x hx).same Sl).pot Pl.ok pb
      have l32 : ∀ x ∈ ks.take i, LnL H3 kvs2 Ps x := fun x hx => ((l2 x hx).same Sl).pot Pl.ok pb
      refine ⟨5, rfl, by decide, by decide, for_range (fun j σ H4 => ∃ (oa : Addr) (own : List Str) (v6 : Option V), σ = [some (.ref p), some (.ref n), some (.ref d1), some (.ref d2), some (.str ks[i]), some (.ref oa), v6, none] ∧ Same H3 H4 ∧ H4 oa = some (.lst (own.map V.str)) ∧ own.Nodup ∧ (∀ y ∈ own, y ∈ ks.take i) ∧ own.length ≤ 4 ∧ (mergeG (total (rowsOf L own)) (rowsOf L own) ≠ none ∨ own.length + j ≤ 4))
        ⟨oa, own, _, rfl, Same.refl _, h3, ond, osub, ho4, .inr ho4⟩ ?_ ?_⟩
      · clear hperm ho4 ond osub h3 hoa
        rintro j σ H4 hj ⟨oa, own, v6, rfl, S4, h4, ond, osub, ho4, hor⟩
        have hsm := fm.small dnm d8 ond ho4 osub
        have hrn := fun r hr => (fm.rowsIn ond osub r hr).1
        refine ⟨_, rfl, _, rfl, _, rfl, ll_sp (S4 _ _ h31) h4 (fun x hx => (l31 x (osub x hx)).same S4) hsm hrn (fun e H5 S5 => ?_) (fun o e lp H5 hlp S5 h5 => ?_)⟩
        · refine ⟨rfl, _, rfl, ?_⟩
          refine ⟨_, rfl, ?_⟩
          have hne : own ≠ [] := fun z => by rw [z] at e; cases e
          have hpos : 0 < own.length := List.length_pos_iff.mpr hne
          refine ⟨1, rfl, _, rfl, oa, _, rfl, SqL.of (S5 _ _ h4), fun c hc => ?_⟩
          refine ⟨c, own.dropLast, _, rfl, (S4.trans S5).trans (same_new hc), ?_, ond.sublist (List.dropLast_sublist _), fun y hy => osub y (List.dropLast_subset _ hy), by rw [List.length_dropLast]; omega, .inr ?_⟩
          · have := cut_last own
            rw [upd_same]; exact congrArg some (congrArg HO.lst this)
          · rcases hor with z | z
            · exact absurd e z
            · rw [List.length_dropLast]; omega
        · refine ⟨rfl, _, rfl, ?_⟩
          exact ⟨oa, own, _, rfl, S4.trans S5, S5 _ _ h4, ond, osub, ho4, .inl (by rw [e]; exact Option.some_ne_none _)⟩
      · clear hperm ho4 ond osub h3 hoa
        rintro σ H4 ⟨oa, own, v6, rfl, S4, h4, ond, osub, ho4, hor⟩
        have hsm := fm.small dnm d8 ond ho4 osub
        have hrn := fun r hr => (fm.rowsIn ond osub r hr).1
        have hn0 : mergeG (total (rowsOf L own)) (rowsOf L own) ≠ none := by
          rcases hor with z | z
          · exact z
          · exact absurd z (by show ¬ (own.length + Int.toNat 5 ≤ 4); have : Int.toNat 5 = 5 := rfl; omega)
        refine ⟨_, rfl, _, rfl, _, rfl, ll_sp (S4 _ _ h31) h4 (fun x hx => (l31 x (osub x hx)).same S4) hsm hrn (fun e => absurd e hn0) (fun o e lp H5 hlp S5 h5 => ?_)⟩
        have S45 := S4.trans S5
        have h51 := S45 _ _ h31
        have h52 := S45 _ _ h32
        refine ⟨_, rfl, _, rfl, d1, _, rfl, DPut.k (k := Sum.inr ks[i]) h51 (by rw [sizeLine_eq]; omega), ?_⟩
        have h62 : upd H5 d1 (.dK (putK kvs1 (Sum.inr ks[i]) (.ref lp))) d2 = some (.dK kvs2) := by rw [upd_ne (Ne.symm n12)]; exact h52
        refine ⟨_, rfl, _, rfl, _, rfl, d2, _, rfl, DPut.k (k := Sum.inr ks[i]) h62 (by rw [sizeLine_eq]; omega), ?_⟩
        have P5 : PotAt p H H5 := P3.trans (pot_same P3.ok S45)
        have l61 : ∀ x ∈ ks.take (i + 1), LnL (upd H5 d1 (.dK (putK kvs1 (Sum.inr ks[i]) (.ref lp)))) (putK kvs1 (Sum.inr ks[i]) (.ref lp)) (fun x => if x = ks[i] then ks[i] :: o else L x) x := fun x hx => lnL_put h51 h5 fun ne => (l31 x (by
          rw [tki] at hx
          rcases List.mem_append.mp hx with z | z
          · exact z
          · exact absurd (by simpa using z) ne)).same S45
        have h6o : upd H5 d1 (.dK (putK kvs1 (Sum.inr ks[i]) (.ref lp))) oa = some (.lst (own.map V.str)) := by rw [upd_ne (ne_of (S5 _ _ h4) h51 (by intro z; cases z))]; exact S5 _ _ h4
        refine ⟨_, _, _, _, _, _, _, rfl, (P5.write hd1 np1).write hd2H np2, by rw [upd_ne n12]; exact upd_same, upd_same, by rw [tki]; exact keys_put e1 hnot, by rw [tki]; exact keys_put e2 hnot, fun x hx => (l61 x hx).write h62 rfl, fun x hx => ?_, by rw [tki]; exact fm.add hnot ond ho4 osub e⟩
        refine lnL_put h62 h6o fun ne => ?_
        exact ((l32 x (by
          rw [tki] at hx
          rcases List.mem_append.mp hx with z | z
          · exact z
          · exact absurd (by simpa using z) ne)).same S45).write h51 rfl
    · rintro σ H1 ⟨kvs1, kvs2, L, Ps, v4, v5, v6, rfl, P1, h11, h12, e1, e2, l1, l2, fm⟩
      rw [List.length_map, List.take_length] at e2 l2 fm
      have hn1 := P1.kp _ _ hn nnp
      refine ⟨_, rfl, n, rfl, ⟨_, SqL.of hn1⟩, fun c hc => ?_⟩
      refine comp_list (xs := ks.map V.str) (fun i ys τ H2 => ∃ t0 : Option V, τ = [t0, some (.ref d2)] ∧ H2 c = some (.lst ys) ∧ Same H1 H2 ∧ FamV H2 ys (famOf Ps (ks.take i))) ⟨none, rfl, upd_same, same_new hc, .nil⟩ (fun i ys τ H2 ⟨_, _, z1, z2, _⟩ => ⟨z1, SqL.of (z2 _ _ hn1)⟩) ?_ ?_
      · rintro i x ys τ H2 hx ⟨t0, rfl, h2, S2', F2⟩
        have hjl : i < (ks.map V.str).length := (List.getElem?_eq_some_iff.mp hx).1
        have hil : i < ks.length := by simpa using hjl
        obtain rfl : V.str ks[i] = x := by simpa [hil] using hx
        have tki : ks.take (i + 1) = ks.take i ++ [ks[i]] := by rw [List.take_succ, List.getElem?_eq_getElem hil]; rfl
        obtain ⟨a, ea, ha⟩ := (l2 ks[i] (List.getElem_mem hil)).same S2'
        refine ⟨_, rfl, _, rfl, _, rfl, d2, .ref a, rfl, by rw [← ea]; exact DGet.k (k := Sum.inr ks[i]) (S2' _ _ h12), ?_⟩
        refine ⟨a, _, rfl, .inl ⟨SqL.of ha, fun b hb => ?_⟩⟩
        have Sb := same_new (o := .tup ((Ps ks[i]).map V.str)) hb
        refine ⟨by show 2 ≤ sizeLine; rw [sizeLine_eq]; decide, fun t ht => ?_⟩
        have St := Sb.trans (same_new (o := .tup [V.str ks[i], .ref b]) ht)
        have hbt : upd (upd H2 b (.tup ((Ps ks[i]).map V.str))) t (.tup [V.str ks[i], .ref b]) b = some (.tup ((Ps ks[i]).map V.str)) := by rw [upd_ne (ne_of_none upd_same ht)]; exact upd_same
        have hct := St _ _ h2
        refine ⟨hct, ?_, cw_next hjl ⟨_, rfl, upd_same, fun x u hx => by rw [upd_ne (ne_of_none hx hc)]; exact St _ _ (S2' x u hx), ?_⟩⟩
        · have := F2.length
          unfold famOf at this
          rw [List.length_map, List.length_take] at this
          rw [sizeLine_eq]; omega
        · have ef : famOf Ps (ks.take (i + 1)) = famOf Ps (ks.take i) ++ [(ks[i], Ps ks[i])] := by rw [tki]; unfold famOf; rw [List.map_append]; rfl
          rw [ef]
          refine FamV.append (F2.keep fun x xs hx => ?_) ?_ ?_ (b := b)
          · rw [upd_ne (ne_of hx h2 (by intro z; cases z))]; exact St _ _ hx
          · rw [upd_ne (ne_of upd_same hct (by intro z; cases z))]; exact upd_same
          · rw [upd_ne (ne_of hbt hct (by intro z; cases z))]; exact hbt
      · rintro ys τ H2 ⟨t0, rfl, h2, S2', F2⟩
        rw [List.length_map, List.take_length] at F2
        obtain ⟨kvs, pv, ekv, prf⟩ := F2.pairsR
        have hlf := F2.length
        have hlk : (famOf Ps ks).length = ks.length := by unfold famOf; exact List.length_map ..
        refine ⟨c, ys, kvs, rfl, SqL.of h2, pv, prf, by rw [ekv, famOf_keys]; exact knd, by omega, fun D ys' kvs' hD hperm hpv hpk hso => ?_⟩
        have SD := same_new (o := .lst ys') hD
        refine ⟨D, ys', rfl, SqL.of upd_same, fun t o ht ho => ?_⟩
        have St := SD.trans (same_new (o := .frz o (.tup ys')) ht)
        obtain ⟨fam', hpf, F3⟩ := paired_perm hperm F2
        rw [pairs_keys F3 hpv] at hso
        refine ⟨_, rfl, _, rfl, _, rfl, by show 3 ≤ sizeLine; rw [sizeLine_eq]; decide, fun r hr => ?_⟩
        have Sr := St.trans (same_new (o := .tup [V.ref t, .ref d1, .ref d2]) hr)
        have Sall := S2'.trans Sr
        refine q r t d1 d2 o ys' kvs2 L Ps fam' _ ⟨upd_same, by rw [upd_ne (ne_of_none upd_same hr)]; exact upd_same, ho, FamV.same F3 Sr, hpf, fm, Sall _ _ h12, e2, fun x hx => (l2 x hx).same Sall, P1.trans (pot_same P1.ok Sall), hd2H, hso⟩
end
end K29
namespace L2
open PySem PySem.W
end L2
namespace K29
open PySem L2 PySem.W HT
/-! ### lines, as sets -/
structure LnP (fam : List (Str × List Str)) (L : Str → List Str) : Prop where
  mem : ∀ p ∈ fam, ∀ y, y ∈ L p.1 ↔ y = p.1 ∨ ∃ x ∈ p.2, y ∈ L x
  len : ∀ p ∈ fam, ∀ x ∈ p.2, (L x).length < (L p.1).length
  le8 : ∀ p ∈ fam, (L p.1).length ≤ 8
  inn : ∀ p ∈ fam, ∀ y ∈ L p.1, ∃ q ∈ fam, q.1 = y
theorem LnP.perm {fam fam' : List (Str × List Str)} {L : Str → List Str} (h : LnP fam L) (p : fam'.Perm fam) : LnP fam' L := by
  have m : ∀ {q}, q ∈ fam' ↔ q ∈ fam := fun {q} => p.mem_iff
  exact ⟨fun q hq => h.mem q (m.mp hq), fun q hq => h.len q (m.mp hq), fun q hq => h.le8 q (m.mp hq), fun q hq y hy => let ⟨z, hz, e⟩ := h.inn q (m.mp hq) y hy; ⟨z, m.mpr hz, e⟩⟩
theorem Fm.lnP {ks : List Str} {L Ps : Str → List Str} (F : Fm ks L Ps) (h8 : ks.length ≤ 8) : LnP (famOf Ps ks) L := by
  have mem : ∀ {p : Str × List Str}, p ∈ famOf Ps ks → p.1 ∈ ks ∧ p.2 = Ps p.1 := fun {p} hp => by
    obtain ⟨x, hx, rfl⟩ := List.mem_map.mp hp
    exact ⟨hx, rfl⟩
  have self : ∀ x ∈ ks, x ∈ L x := fun x hx => by obtain ⟨o, _, e⟩ := F.ln x hx; rw [e]; exact List.mem_cons_self
  refine ⟨fun p hp y => ?_, fun p hp x hx => ?_, fun p hp => ?_, fun p hp y hy => ?_⟩
  · obtain ⟨h1, h2⟩ := mem hp
    rw [h2]
    obtain ⟨o, hm, hL⟩ := F.ln _ h1
    obtain ⟨n1, n2, n3⟩ := F.ps _ h1
    obtain ⟨⟨_, s2⟩, _⟩ := sound _ _ rfl (fun r hr => (F.rowsIn n1 n3 r hr).1) o hm
    rw [hL, List.mem_cons, s2]
    constructor
    · rintro (h | ⟨r, hr, hy⟩)
      · exact .inl h
      · rcases mem_rowsOf.mp hr with ⟨z, hz, rfl⟩ | rfl
        · exact .inr ⟨z, hz, hy⟩
        · exact .inr ⟨y, hy, self y (n3 y hy)⟩
    · rintro (h | ⟨z, hz, hy⟩)
      · exact .inl h
      · exact .inr ⟨L z, mem_rowsOf.mpr (.inl ⟨z, hz, rfl⟩), hy⟩
  · obtain ⟨h1, h2⟩ := mem hp
    rw [h2] at hx
    obtain ⟨o, hm, hL⟩ := F.ln _ h1
    obtain ⟨n1, _, n3⟩ := F.ps _ h1
    obtain ⟨_, _, h5⟩ := F.order n1 n3 hm
    have := len_sub (F.ld x (n3 x hx)).1 fun y hy => h5 (L x) (mem_rowsOf.mpr (.inl ⟨x, hx, rfl⟩)) y hy
    rw [hL, List.length_cons]; omega
  · obtain ⟨h1, h2⟩ := mem hp
    exact Nat.le_trans (len_sub (F.ld _ h1).1 (F.ld _ h1).2) h8
  · obtain ⟨h1, h2⟩ := mem hp
    exact ⟨(y, Ps y), List.mem_map.mpr ⟨y, (F.ld _ h1).2 y hy, rfl⟩, rfl⟩
/-- what stands in a dict made of the pairs -/
theorem FamV.look {H : Hp} {vs : List V} {fam : List (Str × List Str)} (h : FamV H vs fam) (nd : (fam.map (·.1)).Nodup) : ∃ kvs, PairsV H vs kvs ∧ kvs.map (·.1) = fam.map (·.1) ∧ ∀ p ∈ fam, ∃ b, valV (pairKV kvs) (Sum.inr p.1) = some (.ref b) ∧ H b = some (.tup (p.2.map V.str)) := by
  induction h with
  | nil => exact ⟨[], .nil, rfl, fun p hp => by cases hp⟩
  | @cons y p vs' fam' hp _ ih =>
    obtain ⟨a, b, e, q, r⟩ := hp
    rw [List.map_cons, List.nodup_cons] at nd
    obtain ⟨kvs, h1, h2, h3⟩ := ih nd.2
    refine ⟨(p.1, .ref b) :: kvs, .cons ⟨a, e, q⟩ h1, by rw [List.map_cons, List.map_cons, h2], fun z hz => ?_⟩
    show ∃ b', valV ((Sum.inr p.1, V.ref b) :: pairKV kvs) (Sum.inr z.1) = some (.ref b') ∧ _
    rcases List.mem_cons.mp hz with e1 | hz
    · rw [e1, valV_pos rfl]; exact ⟨b, rfl, r⟩
    · have ne : ¬ ((Sum.inr p.1 : Key) = Sum.inr z.1) := fun w => nd.1 (by rw [Sum.inr.inj w]; exact List.mem_map.mpr ⟨z, hz, rfl⟩)
      rw [valV_neg ne]; exact h3 z hz
theorem FamV.sqT {K : Frag} {H : Hp} {t : Addr} {o : Obj} {ws : List V} (h : H t = some (.frz o (.tup ws))) : SqT K H t ws := .inl (.inr ⟨o, h⟩)
theorem key_at {kvs : List (Key × V)} {ks : List Str} (hk : kvs.map (·.1) = ks.map Sum.inr) {i : Nat} {kv : Key × V} (h : kvs[i]? = some kv) : ∃ x, ks[i]? = some x ∧ kv.1 = Sum.inr x := by
  have h1 : (kvs.map (·.1))[i]? = some kv.1 := by rw [List.getElem?_map, h]; rfl
  rw [hk, List.getElem?_map] at h1
  obtain ⟨x, hx, e⟩ := Option.map_eq_some_iff.mp h1
  exact ⟨x, hx, e.symm⟩
theorem atI_last {α : Type} (xs : List α) (x : α) : atI (xs ++ [x]) (-1) = some x := by
  have e : ixN (xs ++ [x]).length (-1) = some xs.length := by
    unfold ixN
    rw [List.length_append, List.length_singleton, if_neg (by decide), if_pos (by omega)]
    congr 1; omega
  unfold atI
  rw [e]
  show (xs ++ [x])[xs.length]? = some x
  simp
def ifTest (s : Stmt) : Expr := match s with | .If t _ _ _ => t | _ => .Constant .none 0 ⟨0, 0, 0, 0⟩
theorem strs_eqv : ∀ xs ys : List Str, PyData.eqvAll (xs.map PyData.str) (ys.map PyData.str) = decide (xs = ys)
  | [], [] => rfl
  | [], y :: ys => rfl
  | x :: xs, [] => rfl
  | x :: xs, y :: ys => by
    show ((x == y) && PyData.eqvAll (xs.map PyData.str) (ys.map PyData.str)) = _
    rw [strs_eqv xs ys]
    by_cases e : x = y
    · by_cases f : xs = ys <;> simp [e, f]
    · simp [e]
theorem LnP.trans {fam : List (Str × List Str)} {L : Str → List Str} (h : LnP fam L) (up : ∀ p ∈ fam, ∀ x ∈ p.2, ∃ q ∈ fam, q.1 = x) : ∀ (n : Nat) (p : Str × List Str), p ∈ fam → (L p.1).length = n → ∀ y ∈ L p.1, ∀ z ∈ L y, z ∈ L p.1 := by
  intro n
  induction n using Nat.strongRecOn with
  | _ n ih =>
    intro p hp e y hy z hz
    rcases (h.mem p hp y).mp hy with rfl | ⟨x, hx, hyx⟩
    · exact hz
    · obtain ⟨q, hq, rfl⟩ := up p hp x hx
      have := ih _ (by have := h.len p hp q.1 hx; omega) q hq rfl y hyx z hz
      exact (h.mem p hp z).mpr (.inr ⟨_, hx, this⟩)
theorem famOf_up {ks : List Str} {L Ps : Str → List Str} (F : Fm ks L Ps) : ∀ p ∈ famOf Ps ks, ∀ x ∈ p.2, ∃ q ∈ famOf Ps ks, q.1 = x := fun p hp x hx => by
  obtain ⟨y, hy, rfl⟩ := List.mem_map.mp hp
  exact ⟨(x, Ps x), List.mem_map.mpr ⟨x, (F.ps y hy).2.2 x hx, rfl⟩, rfl⟩
theorem mem_famOf {ks : List Str} {Ps : Str → List Str} {x : Str} (h : x ∈ ks) : (x, Ps x) ∈ famOf Ps ks := List.mem_map.mpr ⟨x, h, rfl⟩
section
variable {P : Program} {w : World} {K : Frag} {mg : Str → Option Value} {base : Heap} {f : Addr} {fd : FuncData}
/-! ### way_of -/
/-- a way: the one at its head, each the parent of the one ahead -/
structure WayP (fam : List (Str × List Str)) (a : Str) (way : List Str) : Prop where
  hd : way.head? = some a
  st : ∀ (i : Nat) (y z : Str), way[i]? = some y → way[i + 1]? = some z → ∃ p ∈ fam, p.1 = y ∧ z ∈ p.2
theorem WayP.add {fam : List (Str × List Str)} {a : Str} {way : List Str} {x y : Str} {p : Str × List Str} (h : WayP fam a (way ++ [x])) (hp : p ∈ fam) (e : p.1 = x) (hy : y ∈ p.2) : WayP fam a (way ++ [x] ++ [y]) := by
  refine ⟨?_, fun i u v hu hv => ?_⟩
  · have := h.hd
    cases way with
    | nil => exact this
    | cons _ _ => exact this
  · by_cases hi : i + 1 < (way ++ [x]).length
    · rw [List.getElem?_append_left (by omega)] at hu
      rw [List.getElem?_append_left hi] at hv
      exact h.st i u v hu hv
    · have hl : (way ++ [x]).length = way.length + 1 := by simp
      by_cases h2 : i + 1 = (way ++ [x]).length
      · have hi2 : i = way.length := by omega
        subst hi2
        have e1 : (way ++ [x] ++ [y])[way.length]? = some x := by simp
        have e2 : (way ++ [x] ++ [y])[way.length + 1]? = some y := by simp
        rw [e1] at hu; rw [e2] at hv
        cases hu; cases hv
        exact ⟨p, hp, e, hy⟩
      · rw [List.getElem?_eq_none (by rw [List.length_append, List.length_singleton]; omega)] at hv
        cases hv
@[irreducible] def spWay : Sp := fun vs H Q _ => ∃ (t : Addr) (o : Obj) (ws : List V) (fam : List (Str × List Str)) (L : Str → List Str) (a b : Str), vs = [.ref t, .str a, .str b] ∧ H t = some (.frz o (.tup ws)) ∧ o.dict = none ∧ FamV H ws fam ∧ FamOk fam L ∧ LnP fam L ∧ (∃ p ∈ fam, p.1 = a) ∧ (∃ p ∈ fam, p.1 = b) ∧
  (b ∉ L a → ∀ H', Same H H' → Q .non H') ∧ (b ∈ L a → ∀ r way H', Same H H' → H' r = some (.tup ((way ++ [b]).map V.str)) → WayP fam a (way ++ [b]) → way.length ≤ 8 → Q (.ref r) H')
theorem way_sp {t : Addr} {o : Obj} {ws : List V} {fam : List (Str × List Str)} {L : Str → List Str} {a b : Str} {H : Hp} {Q : VK} {E : XK} (ht : H t = some (.frz o (.tup ws))) (ho : o.dict = none) (hf : FamV H ws fam) (ok : FamOk fam L) (lp : LnP fam L) (ha : ∃ p ∈ fam, p.1 = a) (hb : ∃ p ∈ fam, p.1 = b)
    (qn : b ∉ L a → ∀ H', Same H H' → Q .non H') (qs : b ∈ L a → ∀ r way H', Same H H' → H' r = some (.tup ((way ++ [b]).map V.str)) → WayP fam a (way ++ [b]) → way.length ≤ 8 → Q (.ref r) H') : spWay [.ref t, .str a, .str b] H Q E := by
  unfold spWay; exact ⟨t, o, ws, fam, L, a, b, rfl, ht, ho, hf, ok, lp, ha, hb, qn, qs⟩
abbrev nWa : List Str := ["family", "a", "b", "lines", "above", "way"]
theorem scWa : FnScope nWa ["family", "a", "b"] (defScope sWay) := ⟨rfl, rfl, rfl, by decide +kernel, rfl, by decide +kernel, by decide +kernel⟩
def exprS (s : Stmt) : Expr := match s with | .Expr e _ => e | _ => .Constant .none 0 ⟨0, 0, 0, 0⟩
abbrev eWa : Expr := subV (arg0 (exprS (bodyAt (whileBody (bodyAt (defBody sWay) 6)) 0)))
theorem csWa : CompScope nWa (defScope sWay) ["parent", "b", "lines"] [none, some 2, some 3] (compSc eWa) := ⟨rfl, by decide +kernel, by decide +kernel, rfl, fv_of (by decide +kernel), by decide +kernel⟩
theorem ok_way {fC fL : Addr} {fdC fdL : FuncData} (F : Fun K "way_of" "way_of" sWay f fd) (B : Blt mg) (B2 : Blt2 mg) (GC : FnOk P w K mg base CX0 3 fC fdC ["family", "thing"] spCheck) (kC : keepIn K (.ref fC) = true) (bC : Binds K fdC ["family", "thing"] []) (mC : mg "check_kind" = some (.ref fC))
    (GL : FnOk P w K mg base CX0 5 fL fdL ["family"] spLines) (kL : keepIn K (.ref fL) = true) (bL : Binds K fdL ["family"] []) (mL : mg "lines_of" = some (.ref fL)) :
    FnOk P w K mg base CX0 6 f fd ["family", "a", "b"] spWay := by
  refine F.ok scWa (fun vs H Q E h => ?_) (fun cdv A outer s H vs Q E hr h => ?_)
  · unfold spWay at h; obtain ⟨t, o, ws, fam, L, a, b, rfl, _⟩ := h; rfl
  · unfold spWay at h
    obtain ⟨t, o, ws, fam, L, a, b, rfl, ht, ho, hf, ok, lp, ⟨pa, hpa, rfl⟩, ⟨pb, hpb, rfl⟩, qn, qs⟩ := h
    have hu := hr.units
    have hu1 := Nat.lt_of_le_of_lt (Nat.add_le_add_left (show 1 ≤ 64 by decide) _) hu
    have hr5 : Room 5 _ := hr
    have hr3 : Room 3 _ := hr5.mono (by decide)
    refine ⟨_, pss_cons (ps_expr (pe_call GC hr3 rfl mC kC bC .nil pass0 (pa_cons (pv 0) (pa_cons (pv 1) pa_nil))))
      (pss_cons (ps_expr (pe_call GC hr3 rfl mC kC bC .nil pass0 (pa_cons (pv 0) (pa_cons (pv 2) pa_nil))))
      (pss_cons (ps_set (i := 3) scWa.nd rfl (Or.inr rfl) (pe_call GL hr5 rfl mL kL bL .nil pass0 (pa_cons (pv 0) pa_nil)))
      (pss_cons (ps_if (pt_cmpR op_notIn_seq (pv 2) (pe_dget hu1 (pv 3) (pv 1) (fun _ _ => rfl)) rfl) (pss_one (ps_ret pe_non)) pss_nil)
      (pss_cons (ps_set (i := 4) scWa.nd rfl (Or.inl rfl) (pe_callTy (call_dictT rfl) rfl B2.dict boot_dict (pa_cons (pv 0) pa_nil)))
      (pss_cons (ps_set (i := 5) scWa.nd rfl (Or.inl rfl) (pe_lst (pa_cons (pv 1) pa_nil)))
      (pss_cons (ps_while PassesOwn.never (pt_cmpR op_ne (pe_ix ix_list (pv 5) (pe_un un_neg pe_int) (fun _ _ => rfl)) (pv 2) (nomark _))
        (pss_one (ps_expr (pe_bm PySem.F.plainAttrs_list PySem.F.slot_list_append PySem.F.type_list_append mt_append (pv 5) (pa_cons (pe_ix ix_list (pe_comp rfl csWa (pi_tup (pe_dget hu1 (pv 4) (pe_ix ix_list (pv 5) (pe_un un_neg pe_int) (fun _ _ => rfl)) (fun _ _ => rfl))) (fun s H fp => ⟨pg_name (i := 0) csWa.nd rfl (Or.inl rfl),
          pifs_one (pt_cmpR (op_in_K K rfl) (pv 1) (pe_dget hu1 (pv 2) (pv 0) (fun _ _ => rfl)) rfl), pv 0⟩)) pe_int (fun _ _ => rfl)) pa_nil)))))
      (pss_one (ps_ret (pe_callTy call_tuple_of rfl B.tuple boot_tuple (pa_cons (pv 5) pa_nil)))))))))), ?_⟩
    obtain ⟨kvs0, hp, hkeys, hlook⟩ := hf.look ok.nd
    have hnd0 : (kvs0.map (·.1)).Nodup := by rw [hkeys]; exact ok.nd
    refine ⟨_, rfl, _, rfl, check_sp ht ho hp hnd0 (ok.nm pa hpa) (by rw [hkeys]; exact List.mem_map.mpr ⟨pa, hpa, rfl⟩) fun H1 S1 => ?_⟩
    refine ⟨_, rfl, _, rfl, check_sp (S1 _ _ ht) ho (hp.same S1) hnd0 (ok.nm pb hpb) (by rw [hkeys]; exact List.mem_map.mpr ⟨pb, hpb, rfl⟩) fun H1' S1' => ?_⟩
    have S1 := S1.trans S1'
    refine ⟨_, rfl, lines_sp (S1 _ _ ht) (hf.same S1) ok fun d kvs H2 hd S2 h2 hl hpm => ?_⟩
    have S2 := S1.trans S2
    have dgl : ∀ {G : Hp} {p : Str × List Str}, Same H2 G → p ∈ fam → ∃ x, DGet G d (.str p.1) (some (.ref x)) ∧ G x = some (.tup ((L p.1).map V.str)) := fun {G p} S hp => by
      obtain ⟨x, e, hx⟩ := hl p hp
      exact ⟨x, by rw [← e]; exact DGet.k (k := Sum.inr p.1) (S _ _ h2), S _ _ hx⟩
    obtain ⟨x0, dg0, hx0⟩ := dgl (Same.refl _) hpa
    refine ⟨_, rfl, _, rfl, _, rfl, d, .ref x0, rfl, dg0, ?_⟩
    refine ⟨x0, _, rfl, .inr (SqT.of hx0), rfl, flat_strs _, _, rfl, ?_⟩
    rw [inV_strs]
    refine ite2 (fun hin => ?_) (fun hin => ?_)
    · exact qn (by simpa using hin) H2 S2
    have hin' : pb.1 ∈ L pa.1 := by simpa using hin
    refine ⟨_, rfl, t, o, ws, kvs0, rfl, S2 _ _ ht, ho, hp.same S2, hnd0, fun e he => ?_⟩
    have S3 := same_new (o := .dK (pairKV kvs0)) he
    refine ⟨_, rfl, by show 1 ≤ sizeLine; rw [sizeLine_eq]; decide, fun wa hwa => ?_⟩
    have he4 : upd (upd H2 e (.dK (pairKV kvs0))) wa (.lst [V.str pa.1]) e = some (.dK (pairKV kvs0)) := by rw [upd_ne (ne_of_none upd_same hwa)]; exact upd_same
    have hwa4 : upd (upd H2 e (.dK (pairKV kvs0))) wa (.lst [V.str pa.1]) wa = some (.lst [V.str pa.1]) := upd_same
    have S4 := S3.trans (same_new (o := .lst [V.str pa.1]) hwa)
    have hwaH : H2 wa = none := S3.free hwa
    generalize upd (upd H2 e (.dK (pairKV kvs0))) wa (.lst [V.str pa.1]) = H4 at he4 hwa4 S4 ⊢
    refine ⟨fun m σ H5 => ∃ (way : List Str) (x : Str) (p : Str × List Str), σ = [some (.ref t), some (.str pa.1), some (.str pb.1), some (.ref d), some (.ref e), some (.ref wa)] ∧ H5 wa = some (.lst ((way ++ [x]).map V.str)) ∧ (∀ b u, b ≠ wa → H4 b = some u → H5 b = some u) ∧
      WayP fam pa.1 (way ++ [x]) ∧ p ∈ fam ∧ p.1 = x ∧ pb.1 ∈ L x ∧ way.length + (L x).length ≤ 8 ∧ m = (L x).length, ⟨_, [], pa.1, pa, rfl, hwa4, fun _ _ _ e => e, ⟨rfl, fun i y z _ hz => by simp at hz⟩, hpa, rfl, hin', by have := lp.le8 pa hpa; simpa using this, rfl⟩, ?_⟩
    rintro m σ H5 ⟨way, x, p, rfl, h5, kp, W, hpf, rfl, hb5, hlen, rfl⟩
    have at5 : atI ((way ++ [p.1]).map V.str) (-1) = some (V.str p.1) := by rw [List.map_append]; exact atI_last _ _
    have S25 : Same H2 H5 := fun b u e => kp b u (ne_of_none e hwaH) (S4 _ _ e)
    refine ⟨_, rfl, 1, rfl, wa, _, -1, _, rfl, rfl, SqL.of h5, at5, _, rfl, rfl, _, rfl, ?_⟩
    refine ite2 (fun hne => ?_) (fun hne => ?_)
    · have hne' : p.1 ≠ pb.1 := by
        intro z
        rw [z] at hne; simp at hne
      refine ⟨_, fun _ _ z => z, ?_⟩
      refine ⟨_, rfl, .inl ⟨rfl, _, SqL.of h5⟩, ?_⟩
      obtain ⟨y0, ey0, hy0⟩ := hlook p hpf
      have hy5 := S25 _ _ (S2 _ _ hy0)
      have hp4 : p.2.length ≤ 20 := (ok.line p hpf).1.short p.2 (List.mem_append_right _ List.mem_cons_self)
      refine ⟨_, rfl, _, rfl, 1, rfl, wa, _, -1, _, rfl, rfl, SqL.of h5, at5, e, .ref y0, rfl, by rw [← ey0]; exact DGet.k (k := Sum.inr p.1) (kp _ _ (ne_of he4 hwa4 (by intro z; cases z)) he4), ?_⟩
      refine ⟨y0, rfl, ⟨_, SqT.of hy5⟩, fun c hc => ?_⟩
      refine comp_tup (xs := p.2.map V.str) (fun i ys τ H6 => ∃ t0 : Option V, τ = [t0, some (.str pb.1), some (.ref d)] ∧ ys = ((p.2.take i).filter fun x => decide (pb.1 ∈ L x)).map V.str ∧ H6 = upd H5 c (.lst ys)) ⟨none, rfl, rfl, rfl⟩ (fun i ys τ H6 ⟨_, _, _, z⟩ => by rw [z]; exact ⟨upd_same, SqT.of (by rw [upd_ne (ne_of_none hy5 hc)]; exact hy5)⟩) ?_ ?_
      · rintro i v ys τ H6 hv ⟨t0, rfl, rfl, rfl⟩
        have hjl : i < (p.2.map V.str).length := (List.getElem?_eq_some_iff.mp hv).1
        have hil : i < p.2.length := by simpa using hjl
        obtain rfl : V.str p.2[i] = v := by simpa [hil] using hv
        have tk : p.2.take (i + 1) = p.2.take i ++ [p.2[i]] := by rw [List.take_succ, List.getElem?_eq_getElem hil]; rfl
        obtain ⟨r, hr, er⟩ := ok.up p hpf p.2[i] (List.getElem_mem hil)
        obtain ⟨x1, dg1, hx1⟩ := dgl (S25.trans (same_new (o := .lst (((p.2.take i).filter fun x => decide (pb.1 ∈ L x)).map V.str)) hc)) hr
        rw [er] at dg1 hx1
        refine ⟨_, rfl, _, rfl, _, rfl, d, .ref x1, rfl, dg1, ?_⟩
        refine ⟨x1, _, rfl, .inr (SqT.of hx1), rfl, flat_strs _, _, rfl, ?_⟩
        rw [if_neg Bool.false_ne_true, inV_strs]
        have ef : ((p.2.take (i + 1)).filter fun x => decide (pb.1 ∈ L x)) = ((p.2.take i).filter fun x => decide (pb.1 ∈ L x)) ++ if pb.1 ∈ L p.2[i] then [p.2[i]] else [] := by
          rw [tk, List.filter_append]
          by_cases h : pb.1 ∈ L p.2[i]
          · rw [if_pos h, List.filter_cons_of_pos (by simpa using h)]; rfl
          · rw [if_neg h, List.filter_cons_of_neg (by simpa using h)]; rfl
        refine ite2 (fun hin => ?_) (fun hin => ?_)
        · have hin' : pb.1 ∈ L p.2[i] := by simpa using hin
          refine ⟨_, rfl, upd_same, ?_, cw_next hjl ⟨_, rfl, ?_, by rw [upd_upd]⟩⟩
          · have h2 := List.length_filter_le (fun x => decide (pb.1 ∈ L x)) (p.2.take i)
            rw [List.length_take] at h2
            rw [List.length_map, sizeLine_eq]; omega
          · rw [ef, if_pos hin', List.map_append]; rfl
        · have hin' : ¬ pb.1 ∈ L p.2[i] := by simpa using hin
          refine cw_next hjl ⟨_, rfl, ?_, rfl⟩
          rw [ef, if_neg hin', List.append_nil]
      · rintro ys τ H6 ⟨t0, rfl, rfl, rfl⟩
        rw [List.length_map, List.take_length]
        obtain ⟨y, hy, hby⟩ : ∃ y ∈ p.2, pb.1 ∈ L y := by
          rcases (lp.mem p hpf pb.1).mp hb5 with z | z
          · exact absurd z.symm hne'
          · exact z
        cases hfl : p.2.filter fun x => decide (pb.1 ∈ L x) with
        | nil =>
          have z : y ∈ p.2.filter fun x => decide (pb.1 ∈ L x) := List.mem_filter.mpr ⟨hy, decide_eq_true hby⟩
          rw [hfl] at z; cases z
        | cons y1 r1 =>
          have hy1 : y1 ∈ p.2 ∧ pb.1 ∈ L y1 := by
            have := List.mem_filter.mp (show y1 ∈ p.2.filter fun x => decide (pb.1 ∈ L x) by rw [hfl]; exact List.mem_cons_self)
            exact ⟨this.1, by simpa using this.2⟩
          obtain ⟨q1, hq1, eq1⟩ := ok.up p hpf y1 hy1.1
          have hlt := lp.len p hpf y1 hy1.1
          have h56 : upd H5 c (.lst ((y1 :: r1).map V.str)) wa = some (.lst ((way ++ [p.1]).map V.str)) := by rw [upd_ne (ne_of_none h5 hc)]; exact h5
          refine ⟨c, _, 0, _, rfl, rfl, SqL.of upd_same, at0, wa, _, _, rfl, rfl, h56, by rw [List.length_map, List.length_append, List.length_singleton, sizeLine_eq]; omega, ?_⟩
          refine ⟨(L y1).length, hlt, way ++ [p.1], y1, q1, rfl, ?_, fun b u nb e => ?_, W.add hpf rfl hy1.1, hq1, eq1, hy1.2, by rw [List.length_append, List.length_singleton]; omega, rfl⟩
          · rw [List.map_append (l₁ := way ++ [p.1])]; exact upd_same
          · have hb5 := kp b u nb e
            rw [upd_ne nb, upd_ne (ne_of_none hb5 hc)]; exact hb5
    · have hnp : p.1 = pb.1 := by
        by_cases z : p.1 = pb.1
        · exact z
        · exact absurd (by simp [z]) hne
      rw [hnp] at h5 W
      refine ⟨_, rfl, wa, _, rfl, .inl ⟨SqL.of h5, fun r hr => ?_⟩⟩
      exact qs hin' r way _ (S2.trans (S25.trans (same_new hr))) upd_same W (by omega)
end
end K29
namespace K29
open PySem L2 PySem.W HT
theorem boot_set : bootBuiltins "set" = some (.type "set") := by decide +kernel
theorem nd_perm {a b : List Str} (ha : a.Nodup) (hb : b.Nodup) (h : ∀ x, x ∈ a ↔ x ∈ b) : a.Perm b := (List.perm_ext_iff_of_nodup ha hb).mpr h
section
variable {P : Program} {w : World} {K : Frag} {mg : Str → Option Value} {base : Heap} {f : Addr} {fd : FuncData}
/-! ### is_row -/
@[irreducible] def spRw : Sp := fun vs H Q _ => ∃ (t : Addr) (xs : List Str), vs = [.ref t] ∧ H t = some (.tup (xs.map V.str)) ∧ (∀ x ∈ xs, Nm x) ∧ xs.Nodup ∧ xs.length ≤ 100 ∧ ∀ H', Same H H' → Q (.bl true) H'
theorem rw_sp {t : Addr} {xs : List Str} {H : Hp} {Q : VK} {E : XK} (ht : H t = some (.tup (xs.map V.str))) (nm : ∀ x ∈ xs, Nm x) (nd : xs.Nodup) (hl : xs.length ≤ 100) (q : ∀ H', Same H H' → Q (.bl true) H') : spRw [.ref t] H Q E := by unfold spRw; exact ⟨t, xs, rfl, ht, nm, nd, hl, q⟩
theorem scRw : FnScope ["thing"] ["thing"] (defScope sIsRow) := ⟨rfl, rfl, rfl, by decide +kernel, rfl, by decide +kernel, by decide +kernel⟩
abbrev eRw : Expr := arg0 (notV (boolAt (ifTest (bodyAt (defBody sIsRow) 0)) 1))
theorem csRw : CompScope ["thing"] (defScope sIsRow) ["name"] [none] (compSc eRw) := ⟨rfl, by decide +kernel, by decide +kernel, rfl, fv_of (by decide +kernel), by decide +kernel⟩
theorem ok_rw {fN : Addr} {dN : FuncData} (F : Fun K "is_row" "is_row" sIsRow f fd) (B : Blt mg) (B2 : Blt2 mg) (bs : mg "set" = none) (GN : FnOk P w K mg base CX0 1 fN dN ["thing"] spName) (kN : keepIn K (.ref fN) = true) (bN : Binds K dN ["thing"] []) (mN : mg "is_name" = some (.ref fN)) : FnOk P w K mg base CX0 2 f fd ["thing"] spRw := by
  refine F.ok scRw (fun vs H Q E h => ?_) (fun cdv A outer s H vs Q E hr h => ?_)
  · unfold spRw at h; obtain ⟨t, xs, rfl, _⟩ := h; rfl
  · unfold spRw at h
    obtain ⟨t, xs, rfl, ht, nm, nd, hl, q⟩ := h
    have hr1 : Room 1 _ := hr
    refine ⟨_, pss_cons (ps_if (PW.pt (pw_or (pt_not (pt_val (pe_callB call_isi rfl B2.isi boot_isi (pa_cons (pv 0) (pa_cons (pe_bltn (v := .ty "tuple") rfl B.tuple boot_tuple rfl) pa_nil)))))
        (pw_or1 (pt_not (pt_val (pe_callB (call_allB rfl) rfl B.all boot_all (pa_cons (pe_comp rfl csRw (pi_tup (pv 0)) (fun s H fp => ⟨pg_name (i := 0) csRw.nd rfl (Or.inl rfl), pifs_nil, pe_call GN hr1 rfl mN kN bN .nil pass0 (pa_cons (pv 0) pa_nil)⟩)) pa_nil))))))) (pss_one (ps_ret pe_bl)) pss_nil)
      (pss_one (ps_ret (pe_cmpR op_eq (pe_callB call_lenSet rfl B.len boot_len (pa_cons (pe_callTy (call_set rfl) rfl bs boot_set (pa_cons (pv 0) pa_nil)) pa_nil)) (pe_callB call_len_seq rfl B.len boot_len (pa_cons (pv 0) pa_nil)) (nomark _)))), ?_⟩
    refine ⟨_, rfl, ⟨_, .inr ⟨"tuple", rfl⟩⟩, .ref t, .ty "tuple", .type "tuple", .type "tuple", true, rfl, rfl, .inl (.tup ht), rfl, true, rfl, ?_⟩
    refine ⟨_, rfl, t, rfl, ⟨_, SqT.of ht⟩, fun p hp => ?_⟩
    refine comp_tup (xs := xs.map V.str) (fun i ys τ H1 => ∃ t0 : Option V, τ = [t0] ∧ ys = (List.replicate i true).map V.bl ∧ Same H H1 ∧ H1 p = some (.lst ys)) ⟨none, rfl, rfl, same_new hp, upd_same⟩ (fun i ys τ H1 ⟨_, _, _, z, z2⟩ => ⟨z2, SqT.of (z _ _ ht)⟩) ?_ ?_
    · rintro i x ys τ H1 hx ⟨t0, rfl, rfl, S1, h1⟩
      have hjl : i < (xs.map V.str).length := (List.getElem?_eq_some_iff.mp hx).1
      have hil : i < xs.length := by simpa using hjl
      obtain rfl : V.str xs[i] = x := by simpa [hil] using hx
      refine ⟨_, rfl, name_sp (nm _ (List.getElem_mem hil)) fun H2 S2 => ⟨S2 _ _ h1, by rw [List.length_map, List.length_replicate, sizeLine_eq]; omega, cw_next hjl ⟨_, rfl, ?_, fun b u e => ?_, upd_same⟩⟩⟩
      · rw [List.replicate_succ', List.map_append]; rfl
      · rw [upd_ne (ne_of_none e hp)]; exact S2 _ _ (S1 _ _ e)
    · rintro ys τ H1 ⟨t0, rfl, rfl, S1, h1⟩
      refine ⟨p, _, rfl, SqL.of h1, _, rfl, ?_⟩
      have : (List.replicate (xs.map V.str).length true).all id = true := by simp
      rw [this]
      have ht1 := S1 _ _ ht
      refine ⟨_, rfl, t, xs, rfl, .inr (SqT.of ht1), by omega, fun a ds ha nds mem => ?_⟩
      have S2 := same_new (o := SetO P w a ds) ha
      refine ⟨a, ds, rfl, upd_same, _, rfl, t, _, rfl, .inr (SqT.of (S2 _ _ ht1)), rfl, ?_⟩
      rw [List.length_map, (nd_perm nds nd mem).length_eq]
      have : decide (V.int (xs.length : Int) = V.int (xs.length : Int)) = true := decide_eq_true rfl
      rw [this]
      exact q _ (S1.trans S2)
/-! ### are_parents -/
@[irreducible] def spAreP : Sp := fun vs H Q _ => ∃ (t b : Addr) (o : Obj) (ws : List V) (fam : List (Str × List Str)) (xs : List Str), vs = [.ref t, .ref b] ∧ H t = some (.frz o (.tup ws)) ∧ o.dict = none ∧ FamV H ws fam ∧ (fam.map (·.1)).Nodup ∧ H b = some (.tup (xs.map V.str)) ∧ (∀ x ∈ xs, Nm x) ∧ xs.Nodup ∧ xs.length ≤ 4 ∧ (∀ x ∈ xs, ∃ q ∈ fam, q.1 = x) ∧ ∀ H', Same H H' → Q (.bl true) H'
theorem areP_sp {t b : Addr} {o : Obj} {ws : List V} {fam : List (Str × List Str)} {xs : List Str} {H : Hp} {Q : VK} {E : XK} (ht : H t = some (.frz o (.tup ws))) (ho : o.dict = none) (hf : FamV H ws fam) (fnd : (fam.map (·.1)).Nodup) (hb : H b = some (.tup (xs.map V.str))) (nm : ∀ x ∈ xs, Nm x) (nd : xs.Nodup) (h4 : xs.length ≤ 4) (hin : ∀ x ∈ xs, ∃ q ∈ fam, q.1 = x) (q : ∀ H', Same H H' → Q (.bl true) H') : spAreP [.ref t, .ref b] H Q E := by
  unfold spAreP; exact ⟨t, b, o, ws, fam, xs, rfl, ht, ho, hf, fnd, hb, nm, nd, h4, hin, q⟩
theorem scAreP : FnScope ["family", "thing"] ["family", "thing"] (defScope sAreP) := ⟨rfl, rfl, rfl, by decide +kernel, rfl, by decide +kernel, by decide +kernel⟩
abbrev eAreP : Expr := arg0 (retV (bodyAt (defBody sAreP) 1))
theorem csAreP : CompScope ["family", "thing"] (defScope sAreP) ["parent", "family"] [none, some 0] (compSc eAreP) := ⟨rfl, by decide +kernel, by decide +kernel, rfl, fv_of (by decide +kernel), by decide +kernel⟩
theorem ok_areP {fK fR : Addr} {dK dR : FuncData} {tk : Tok} (F : Fun K "are_parents" "are_parents" sAreP f fd) (B : Blt mg) (mM : mg "MOST_PARENTS" = some (.int 4 tk)) (GK : FnOk P w K mg base CX0 2 fK dK ["family", "thing"] spKind) (kK : keepIn K (.ref fK) = true) (bK : Binds K dK ["family", "thing"] []) (mK : mg "is_kind" = some (.ref fK))
    (GR : FnOk P w K mg base CX0 2 fR dR ["thing"] spRw) (kR : keepIn K (.ref fR) = true) (bR : Binds K dR ["thing"] []) (mR : mg "is_row" = some (.ref fR)) : FnOk P w K mg base CX0 3 f fd ["family", "thing"] spAreP := by
  refine F.ok scAreP (fun vs H Q E h => ?_) (fun cdv A outer s H vs Q E hr h => ?_)
  · unfold spAreP at h; obtain ⟨t, b, o, ws, fam, xs, rfl, _⟩ := h; rfl
  · unfold spAreP at h
    obtain ⟨t, b, o, ws, fam, xs, rfl, ht, ho, hf, fnd, hb, nm, nd, h4, hin, q⟩ := h
    have hr2 : Room 2 _ := hr
    refine ⟨_, pss_cons (ps_if (PW.pt (pw_or (pt_not (pt_val (pe_call GR hr2 rfl mR kR bR .nil pass0 (pa_cons (pv 1) pa_nil)))) (pw_or1 (pt_cmpR op_gt (pe_callB call_len_seq rfl B.len boot_len (pa_cons (pv 1) pa_nil)) (pe_glob (v := .int 4) rfl mM ⟨tk, rfl⟩) (nomark _))))) (pss_one (ps_ret pe_bl)) pss_nil)
      (pss_one (ps_ret (pe_callB (call_allB rfl) rfl B.all boot_all (pa_cons (pe_comp rfl csAreP (pi_tup (pv 1)) (fun s H fp => ⟨pg_name (i := 0) csAreP.nd rfl (Or.inl rfl), pifs_nil, pe_call GK hr2 rfl mK kK bK .nil pass0 (pa_cons (pv 1) (pa_cons (pv 0) pa_nil))⟩)) pa_nil)))), ?_⟩
    refine ⟨_, rfl, rw_sp hb nm nd (by omega) fun H1 S1 => ⟨true, rfl, ?_⟩⟩
    have hb1 := S1 _ _ hb
    refine ⟨_, rfl, b, _, rfl, .inr (SqT.of hb1), _, 4, rfl, rfl, _, rfl, ?_⟩
    refine ite_ff (decide_eq_false (by rw [List.length_map]; omega)) ?_
    refine ⟨_, rfl, b, rfl, ⟨_, SqT.of hb1⟩, fun p hp => ?_⟩
    refine comp_tup (xs := xs.map V.str) (fun i ys τ H2 => ∃ t0 : Option V, τ = [t0, some (.ref t)] ∧ ys = (List.replicate i true).map V.bl ∧ Same H1 H2 ∧ H2 p = some (.lst ys)) ⟨none, rfl, rfl, same_new hp, upd_same⟩ (fun i ys τ H2 ⟨_, _, _, z, z2⟩ => ⟨z2, SqT.of (z _ _ hb1)⟩) ?_ ?_
    · rintro i x ys τ H2 hx ⟨t0, rfl, rfl, S2, h2⟩
      have hjl : i < (xs.map V.str).length := (List.getElem?_eq_some_iff.mp hx).1
      have hil : i < xs.length := by simpa using hjl
      obtain rfl : V.str xs[i] = x := by simpa [hil] using hx
      have S12 := S1.trans S2
      obtain ⟨kvs, hpv, hkeys⟩ := (hf.same S12).pairs
      obtain ⟨r, hr, er⟩ := hin _ (List.getElem_mem hil)
      refine ⟨_, rfl, _, rfl, kind_sp (S12 _ _ ht) ho hpv (by rw [hkeys]; exact fnd) (nm _ (List.getElem_mem hil)) (by rw [hkeys, ← er]; exact List.mem_map.mpr ⟨r, hr, rfl⟩) fun H3 S3 => ⟨S3 _ _ h2, by rw [List.length_map, List.length_replicate, sizeLine_eq]; omega, cw_next hjl ⟨_, rfl, ?_, fun b u e => ?_, upd_same⟩⟩⟩
      · rw [List.replicate_succ', List.map_append]; rfl
      · rw [upd_ne (ne_of_none e hp)]; exact S3 _ _ (S2 _ _ e)
    · rintro ys τ H2 ⟨t0, rfl, rfl, S2, h2⟩
      refine ⟨p, _, rfl, SqL.of h2, ?_⟩
      have : (List.replicate (xs.map V.str).length true).all id = true := by simp
      rw [this]
      exact q _ (S1.trans S2)
@[irreducible] def spRow : Sp := fun vs H Q _ => ∃ (t : Addr) (xs : List Str), vs = [.ref t] ∧ H t = some (.tup (xs.map V.str)) ∧ xs.length ≤ 100 ∧ ∀ H', Same H H' → Q (.bl true) H'
theorem row_sp {t : Addr} {xs : List Str} {H : Hp} {Q : VK} {E : XK} (ht : H t = some (.tup (xs.map V.str))) (hl : xs.length ≤ 100) (q : ∀ H', Same H H' → Q (.bl true) H') : spRow [.ref t] H Q E := by unfold spRow; exact ⟨t, xs, rfl, ht, hl, q⟩
theorem scRow : FnScope ["_law_found"] ["_law_found"] (defScope sLIsRow) := ⟨rfl, rfl, rfl, by decide +kernel, rfl, by decide +kernel, by decide +kernel⟩
abbrev eRow : Expr := arg0 (boolAt (retV (bodyAt (defBody sLIsRow) 0)) 1)
theorem csRow : CompScope ["_law_found"] (defScope sLIsRow) ["_law_one"] [none] (compSc eRow) := ⟨rfl, by decide +kernel, by decide +kernel, rfl, fv_of (by decide +kernel), by decide +kernel⟩
theorem ok_row (F : Fun K "_law_is_row" "_law_is_row" sLIsRow f fd) (B : Blt mg) (B2 : Blt2 mg) : FnOk P w K mg base CX0 1 f fd ["_law_found"] spRow := by
  refine F.ok scRow (fun vs H Q E h => ?_) (fun cdv A outer s H vs Q E hr h => ?_)
  · unfold spRow at h; obtain ⟨t, xs, rfl, _⟩ := h; rfl
  · unfold spRow at h
    obtain ⟨t, xs, rfl, ht, hl, q⟩ := h
    refine ⟨_, pss_one (ps_ret (pe_and (pe_callB call_isi rfl B2.isi boot_isi (pa_cons (pv 0) (pa_cons (pe_bltn (v := .ty "tuple") rfl B.tuple boot_tuple rfl) pa_nil)))
      (pe_one (pe_callB (call_allB rfl) rfl B.all boot_all (pa_cons (pe_comp rfl csRow (pi_tup (pv 0)) (fun s H fp => ⟨pg_name (i := 0) csRow.nd rfl (Or.inl rfl), pifs_nil, pe_callB (call_isi_K K rfl) rfl B2.isi boot_isi (pa_cons (pv 0) (pa_cons (pe_bltn (v := .ty "str") rfl B2.str boot_str rfl) pa_nil))⟩)) pa_nil))))), ?_⟩
    refine ⟨_, rfl, ⟨_, .inr ⟨"tuple", rfl⟩⟩, .ref t, .ty "tuple", .type "tuple", .type "tuple", true, rfl, rfl, .inl (.tup ht), rfl, true, rfl, ?_⟩
    refine ⟨_, rfl, t, rfl, ⟨_, SqT.of ht⟩, fun p hp => ?_⟩
    have ntp : t ≠ p := ne_of_none ht hp
    refine comp_tup (xs := xs.map V.str) (fun i ys τ H1 => ∃ t0 : Option V, τ = [t0] ∧ ys = (List.replicate i true).map V.bl ∧ H1 = upd H p (.lst ys)) ⟨none, rfl, rfl, rfl⟩ (fun i ys τ H1 ⟨_, _, _, z⟩ => by rw [z]; exact ⟨upd_same, SqT.of (by rw [upd_ne ntp]; exact ht)⟩) ?_ ?_
    · rintro i x ys τ H1 hx ⟨t0, rfl, rfl, rfl⟩
      have hjl : i < (xs.map V.str).length := (List.getElem?_eq_some_iff.mp hx).1
      have hil : i < xs.length := by simpa using hjl
      obtain rfl : V.str xs[i] = x := by simpa [hil] using hx
      refine ⟨_, rfl, ⟨_, .inr ⟨"str", rfl⟩⟩, .str xs[i], .ty "str", .type "str", .type "str", true, rfl, rfl, .inl (.str _), rfl, upd_same, by rw [List.length_map, List.length_replicate, sizeLine_eq]; omega, cw_next hjl ⟨_, rfl, ?_, ?_⟩⟩
      · rw [List.replicate_succ', List.map_append]; rfl
      · rw [upd_upd]
    · rintro ys τ H1 ⟨t0, rfl, rfl, rfl⟩
      refine ⟨p, _, rfl, SqL.of upd_same, ?_⟩
      have : (List.replicate (xs.map V.str).length true).all id = true := by simp
      rw [this]
      exact q _ (same_new hp)
end
end K29
namespace K29
open PySem L2 HT
theorem free_is {all : List (List Str)} {n : Str} (hn : wishFrom 0 all n = none) : ∀ (rest : List (List Str)) (i : Nat) (r : List Str), rest[i]? = some r → r.head? = some n → (∀ (j : Nat) (q : List Str) (y : Str), j < i → rest[j]? = some q → q.head? = some y → wishFrom 0 all y ≠ none) → freeFrom all rest = some n
  | [], i, r, h, _, _ => by simp at h
  | q :: rest, 0, r, h, hh, _ => by
    obtain rfl : q = r := by simpa using h
    cases q with
    | nil => simp at hh
    | cons x t =>
      obtain rfl : x = n := by simpa using hh
      show (if (wishFrom 0 all x).isNone then some x else freeFrom all rest) = some x
      rw [hn]; rfl
  | q :: rest, i + 1, r, h, hh, hb => by
    have ih := free_is hn rest i r (by simpa using h) hh fun j q y hj hq hy => hb (j + 1) q y (by omega) (by simpa using hq) hy
    cases q with
    | nil => exact ih
    | cons x t =>
      show (if (wishFrom 0 all x).isNone then some x else freeFrom all rest) = some n
      have := hb 0 (x :: t) x (by omega) rfl rfl
      rw [if_neg (by
        intro z
        exact this (by simpa using z))]
      exact ih
theorem kept_tail {n : Str} {o r : List Str} (hn : n ∉ o) (h : ((n :: o).filter fun y => decide (y ∈ r)) = r) : (o.filter fun y => decide (y ∈ r.filter fun z => !decide (z = n))) = r.filter fun z => !decide (z = n) := by
  have same : (o.filter fun y => decide (y ∈ r.filter fun z => !decide (z = n))) = o.filter fun y => decide (y ∈ r) := by
    refine List.filter_congr fun y hy => ?_
    have : y ≠ n := fun z => hn (z ▸ hy)
    simp [this]
  rw [same]
  conv => rhs; rw [← h]
  by_cases c : n ∈ r
  · rw [List.filter_cons_of_pos (by simpa using c), List.filter_cons_of_neg (by simp)]
    refine (List.filter_eq_self.mpr fun y hy => ?_).symm
    have hy' := (List.mem_filter.mp hy).1
    have : y ≠ n := fun z => hn (z ▸ hy')
    simpa using this
  · rw [List.filter_cons_of_neg (by simpa using c)]
    refine (List.filter_eq_self.mpr fun y hy => ?_).symm
    have hy' := (List.mem_filter.mp hy).1
    have : y ≠ n := fun z => hn (z ▸ hy')
    simpa using this
theorem sub_tail {n : Str} {d e : List Str} (h : (e.filter fun y => decide (y ∈ d)) = d) : ((e.filter fun z => !decide (z = n)).filter fun y => decide (y ∈ d.filter fun z => !decide (z = n))) = d.filter fun z => !decide (z = n) := by
  conv => rhs; rw [← h]
  rw [List.filter_filter, List.filter_filter]
  refine List.filter_congr fun y _ => ?_
  by_cases c : y = n
  · simp [c]
  · simp [c]
theorem swap_tail : ∀ (o : List Str) (C D E : List (List Str)), (∀ r ∈ C ++ D, r.Nodup) → mergeG (total (C ++ D)) (C ++ D) = some o → (∀ r ∈ E, (o.filter fun y => decide (y ∈ r)) = r) → (∀ y ∈ o, ∃ c ∈ C, y ∈ c) → (∀ d ∈ D, ∃ e ∈ E, (e.filter fun y => decide (y ∈ d)) = d) →
    mergeG (total (C ++ E)) (C ++ E) = some o
  | [], C, D, E, hnd, hm, hE, hC, hD => by
    obtain ⟨⟨_, s2⟩, _⟩ := sound _ _ rfl hnd [] hm
    have emp : ∀ r ∈ C ++ E, r = [] := fun r hr => by
      rcases List.mem_append.mp hr with z | z
      · cases r with
        | nil => rfl
        | cons y t => have := (s2 y).mpr ⟨_, List.mem_append_left _ z, List.mem_cons_self⟩; cases this
      · exact (hE r z).symm
    refine merge_stop ?_
    rw [List.any_eq_false]
    intro r hr
    rw [emp r hr]; simp
  | n :: o, C, D, E, hnd, hm, hE, hC, hD => by
    obtain ⟨⟨ond, s2⟩, _⟩ := sound _ _ rfl hnd _ hm
    have hno : n ∉ o := (List.nodup_cons.mp ond).1
    have hA : ((C ++ D).any fun r => !r.isEmpty) = true := any_iff.mpr (let ⟨r, hr, hx⟩ := (s2 n).mp List.mem_cons_self; ⟨r, hr, n, hx⟩)
    obtain ⟨c0, hc0, hn0⟩ := hC n List.mem_cons_self
    have hA2 : ((C ++ E).any fun r => !r.isEmpty) = true := any_iff.mpr ⟨c0, List.mem_append_left _ hc0, n, hn0⟩
    cases e : leastFree (C ++ D) with
    | none => rw [merge_none hA e] at hm; cases hm
    | some n' =>
      rw [merge_some hA e] at hm
      obtain ⟨o', ho', eo⟩ := Option.map_eq_some_iff.mp hm
      injection eo with e1 e2
      subst e1
      subst e2
      obtain ⟨hfree, i, r, hi, hr, hmin⟩ := free_first e
      have hw := wish_none.mp hfree
      have hn : wishFrom 0 (C ++ E) n' = none := wish_none.mpr fun r hr hnr => by
        rcases List.mem_append.mp hr with z | z
        · exact hw r (List.mem_append_left _ z) hnr
        · have := hE r z
          rw [List.filter_cons_of_pos (by simpa using hnr)] at this
          rw [← this]; rfl
      have hlt : i < C.length := by
        obtain ⟨j, hj, ej⟩ := List.mem_iff_getElem.mp hc0
        have h1 : (C ++ D)[j]? = some c0 := by rw [List.getElem?_append_left hj, List.getElem?_eq_getElem hj, ej]
        have := hmin j c0 n' h1 (hw c0 (List.mem_append_left _ hc0) hn0) hfree
        omega
      have hl : leastFree (C ++ E) = some n' := by
        refine free_is hn _ i r (by rw [List.getElem?_append_left hlt]; rw [List.getElem?_append_left hlt] at hi; exact hi) hr fun j q y hj hq hy hnone => ?_
        have hjC : j < C.length := by omega
        rw [List.getElem?_append_left hjC] at hq
        have hy2 : wishFrom 0 (C ++ D) y = none := wish_none.mpr fun d hd hyd => by
          rcases List.mem_append.mp hd with z | z
          · exact wish_none.mp hnone d (List.mem_append_left _ z) hyd
          · obtain ⟨e', he', ed⟩ := hD d z
            have hye : y ∈ e' := by rw [← ed] at hyd; exact (List.mem_filter.mp hyd).1
            have hh := wish_none.mp hnone e' (List.mem_append_right _ he') hye
            cases e' with
            | nil => simp at hye
            | cons x t =>
              obtain rfl : x = y := by simpa using hh
              rw [List.filter_cons_of_pos (by simpa using hyd)] at ed
              rw [← ed]; rfl
        have := hmin j q y (by rw [List.getElem?_append_left hjC]; exact hq) hy hy2
        omega
      rw [merge_some hA2 hl]
      have ih := swap_tail o' (L2.without n' C) (L2.without n' D) (L2.without n' E) (by
          have : L2.without n' C ++ L2.without n' D = L2.without n' (C ++ D) := (List.map_append ..).symm
          rw [this]; exact nd_without hnd) (by
          have : L2.without n' C ++ L2.without n' D = L2.without n' (C ++ D) := (List.map_append ..).symm
          rw [this]; exact ho') (fun r hr => by
          obtain ⟨q, hq, rfl⟩ := List.mem_map.mp hr
          exact kept_tail hno (hE q hq)) (fun y hy => by
          obtain ⟨c, hc, hyc⟩ := hC y (List.mem_cons_of_mem _ hy)
          have : y ≠ n' := fun z => hno (z ▸ hy)
          exact ⟨_, List.mem_map.mpr ⟨c, hc, rfl⟩, List.mem_filter.mpr ⟨hyc, by simpa using this⟩⟩) (fun d hd => by
          obtain ⟨q, hq, rfl⟩ := List.mem_map.mp hd
          obtain ⟨e', he', ed⟩ := hD q hq
          exact ⟨_, List.mem_map.mpr ⟨e', he', rfl⟩, sub_tail ed⟩)
      have eq : L2.without n' C ++ L2.without n' E = L2.without n' (C ++ E) := (List.map_append ..).symm
      rw [eq] at ih
      rw [ih]; rfl
/-- lines within lines -/
theorem filter_nest {xs a b : List Str} (h : ∀ x ∈ b, x ∈ a) : (xs.filter fun x => decide (x ∈ b)) = (xs.filter fun x => decide (x ∈ a)).filter fun x => decide (x ∈ b) := by
  rw [List.filter_filter]
  refine List.filter_congr fun x _ => ?_
  by_cases hb : x ∈ b
  · simp [hb, h x hb]
  · simp [hb]
theorem Fm.within {ks : List Str} {L Ps : Str → List Str} (F : Fm ks L Ps) (h8 : ks.length ≤ 8) : ∀ (n : Nat) (x : Str), x ∈ ks → (L x).length = n → ∀ y ∈ L x, ((L x).filter fun z => decide (z ∈ L y)) = L y ∧ (y ≠ x → (L y).length < (L x).length) := by
  have lp := F.lnP h8
  have up := famOf_up F
  intro n
  induction n using Nat.strongRecOn with
  | _ n ih =>
    intro x hx e y hy
    obtain ⟨o, hm, hL⟩ := F.ln x hx
    obtain ⟨n1, n2, n3⟩ := F.ps x hx
    obtain ⟨⟨_, s2⟩, s3⟩ := sound _ _ rfl (fun r hr => (F.rowsIn n1 n3 r hr).1) o hm
    rw [kept_iff] at s3
    have hxo : x ∉ o := by have := (F.ld x hx).1; rw [hL] at this; exact (List.nodup_cons.mp this).1
    have hxr : ∀ r ∈ rowsOf L (Ps x), x ∉ r := fun r hr z => hxo ((s2 x).mpr ⟨r, hr, z⟩)
    have cut : ∀ r ∈ rowsOf L (Ps x), ((L x).filter fun z => decide (z ∈ r)) = r := fun r hr => by
      rw [hL, List.filter_cons_of_neg (by simpa using hxr r hr)]; exact s3 r hr
    have self : (L x).filter (fun z => decide (z ∈ L x)) = L x := List.filter_eq_self.mpr fun z hz => decide_eq_true hz
    rcases (lp.mem _ (mem_famOf hx) y).mp hy with rfl | ⟨p, hp, hyp⟩
    · exact ⟨self, fun z => absurd rfl z⟩
    · have hpk := n3 p hp
      have lt := lp.len _ (mem_famOf hx) p hp
      obtain ⟨i1, i3⟩ := ih _ (by rw [← e]; exact lt) p hpk rfl y hyp
      have c := cut (L p) (mem_rowsOf.mpr (.inl ⟨p, hp, rfl⟩))
      have sub1 : ∀ z ∈ L y, z ∈ L p := lp.trans up _ _ (mem_famOf hpk) rfl y hyp
      refine ⟨by rw [filter_nest sub1, c]; exact i1, fun _ => ?_⟩
      by_cases z : y = p
      · rw [z]; exact lt
      · exact Nat.lt_trans (i3 z) lt
end K29
namespace K29
open PySem L2 PySem.W HT
theorem FamV.keyed {H : Hp} {vs : List V} {fam : List (Str × List Str)} (h : FamV H vs fam) : ∃ kvs, KeyedV H 1 vs kvs ∧ kvs.map (·.1) = fam.map fun p => [p.1] := by
  induction h with
  | nil => exact ⟨[], .nil, rfl⟩
  | @cons y p _ _ hp _ ih =>
    obtain ⟨a, b, e, q, r⟩ := hp
    obtain ⟨kvs, h1, h2⟩ := ih
    exact ⟨([p.1], [.ref b]) :: kvs, .cons ⟨a, e, q, rfl⟩ h1, by rw [List.map_cons, List.map_cons, h2]⟩
theorem keyed_keys {H : Hp} : ∀ {vs : List V} {fam : List (Str × List Str)} {kvs : List (List Str × List V)}, FamV H vs fam → KeyedV H 1 vs kvs → kvs.map (·.1) = fam.map fun p => [p.1]
  | _, _, _, .nil, .nil => rfl
  | _, _, _, .cons ⟨a, b, e, q, r⟩ t, .cons (b := kv) ⟨a', e', q', l'⟩ t' => by
    have ea : a = a' := by rw [e] at e'; cases e'; rfl
    subst ea
    rw [q] at q'
    rw [List.map_cons, List.map_cons, keyed_keys t t']
    obtain ⟨ks, rest⟩ := kv
    match ks, l' with
    | [k], _ =>
      injection (Option.some.inj q') with z
      injection z with z1 z2
      injection z1 with z3
      rw [z3]
theorem famKey_nd {fam : List (Str × List Str)} (h : (fam.map (·.1)).Nodup) : (fam.map fun p => [p.1]).Nodup := by
  have : (fam.map fun p => [p.1]) = (fam.map (·.1)).map fun x => [x] := by rw [List.map_map]; rfl
  rw [this]
  exact List.pairwise_map.mpr (h.imp fun {a b} n e => n (by injection e))
theorem pair_at' {H : Hp} {vs : List V} {fam : List (Str × List Str)} (h : FamV H vs fam) {i : Nat} {v : V} (hv : vs[i]? = some v) : ∃ p, fam[i]? = some p ∧ ∃ a b, v = V.ref a ∧ H a = some (.tup [.str p.1, .ref b]) ∧ H b = some (.tup (p.2.map V.str)) := pair_at h hv
section
variable {P : Program} {w : World} {K : Frag} {mg : Str → Option Value} {base : Heap} {f : Addr} {fd : FuncData}
/-! ### without_kind -/
def withoutF (fam : List (Str × List Str)) (k : Str) : List (Str × List Str) := fam.filter fun p => !decide (p.1 = k)
@[irreducible] def spWo : Sp := fun vs H Q _ => ∃ (t : Addr) (o : Obj) (ws : List V) (fam : List (Str × List Str)) (k : Str), vs = [.ref t, .str k] ∧ H t = some (.frz o (.tup ws)) ∧ FamV H ws fam ∧ fam.length ≤ 20 ∧
  ∀ r ws' H', Same H H' → H' r = some (.tup ws') → FamV H' ws' (withoutF fam k) → Q (.ref r) H'
theorem wo_sp {t : Addr} {o : Obj} {ws : List V} {fam : List (Str × List Str)} {k : Str} {H : Hp} {Q : VK} {E : XK} (ht : H t = some (.frz o (.tup ws))) (hf : FamV H ws fam) (hl : fam.length ≤ 20)
    (q : ∀ r ws' H', Same H H' → H' r = some (.tup ws') → FamV H' ws' (withoutF fam k) → Q (.ref r) H') : spWo [.ref t, .str k] H Q E := by unfold spWo; exact ⟨t, o, ws, fam, k, rfl, ht, hf, hl, q⟩
theorem scWo : FnScope ["family", "kind"] ["family", "kind"] (defScope sWithout) := ⟨rfl, rfl, rfl, by decide +kernel, rfl, by decide +kernel, by decide +kernel⟩
abbrev eWo : Expr := arg0 (retV (bodyAt (defBody sWithout) 0))
theorem csWo : CompScope ["family", "kind"] (defScope sWithout) ["pair", "kind"] [none, some 1] (compSc eWo) := ⟨rfl, by decide +kernel, by decide +kernel, rfl, fv_of (by decide +kernel), by decide +kernel⟩
theorem ok_wo (F : Fun K "without_kind" "without_kind" sWithout f fd) (B : Blt mg) : FnOk P w K mg base CX0 1 f fd ["family", "kind"] spWo := by
  refine F.ok scWo (fun vs H Q E h => ?_) (fun cdv A outer s H vs Q E hr h => ?_)
  · unfold spWo at h; obtain ⟨t, o, ws, fam, k, rfl, _⟩ := h; rfl
  · unfold spWo at h
    obtain ⟨t, o, ws, fam, k, rfl, ht, hf, hl, q⟩ := h
    refine ⟨_, pss_one (ps_ret (pe_callTy call_tuple_of rfl B.tuple boot_tuple (pa_cons (pe_comp rfl csWo (pi_tup (pv 0)) (fun s H fp => ⟨pg_name (i := 0) csWo.nd rfl (Or.inl rfl), pifs_one (pt_cmpR op_ne (pe_ix (ix_tup_K K rfl) (pv 0) pe_int (fun _ _ => rfl)) (pv 1) (nomark _)), pv 0⟩)) pa_nil))), ?_⟩
    have hlen := hf.length
    refine ⟨_, rfl, t, rfl, ⟨_, FamV.sqT ht⟩, fun c hc => ?_⟩
    refine comp_tup (xs := ws) (fun i ys τ H1 => ∃ t0 : Option V, τ = [t0, some (.str k)] ∧ FamV H ys (withoutF (fam.take i) k) ∧ H1 = upd H c (.lst ys)) ⟨none, rfl, .nil, rfl⟩ (fun i ys τ H1 ⟨_, _, _, z⟩ => by rw [z]; exact ⟨upd_same, FamV.sqT (by rw [upd_ne (ne_of_none ht hc)]; exact ht)⟩) ?_ ?_
    · rintro i x ys τ H1 hx ⟨t0, rfl, F1, rfl⟩
      have hlt : i < ws.length := (List.getElem?_eq_some_iff.mp hx).1
      obtain ⟨p, hp, a, b, rfl, ha, hb⟩ := pair_at' hf hx
      have tk : fam.take (i + 1) = fam.take i ++ [p] := by rw [List.take_succ, hp]; rfl
      refine ⟨_, rfl, a, _, 0, .str p.1, rfl, rfl, SqT.of (by rw [upd_ne (ne_of_none ha hc)]; exact ha), (show atI [V.str p.1, V.ref b] ((0 : Nat) : Int) = some (.str p.1) from atI_nat rfl), _, rfl, rfl, _, rfl, ?_⟩
      refine ite2 (fun hne => ?_) (fun hne => ?_)
      · have hne' : p.1 ≠ k := fun z => by rw [z] at hne; simp at hne
        refine ⟨_, rfl, upd_same, ?_, cw_next hlt ⟨_, rfl, ?_, by rw [upd_upd]⟩⟩
        · have h1 := F1.length
          have h2 : (withoutF (fam.take i) k).length ≤ (fam.take i).length := List.length_filter_le _ _
          rw [List.length_take] at h2
          rw [sizeLine_eq]; omega
        · have e1 : withoutF (fam.take (i + 1)) k = withoutF (fam.take i) k ++ [p] := by rw [tk]; unfold withoutF; rw [List.filter_append, List.filter_cons_of_pos (by simpa using hne')]; rfl
          rw [e1]
          exact FamV.append F1 ha hb
      · have hne' : p.1 = k := by
          by_cases z : p.1 = k
          · exact z
          · exact absurd (by simp [z]) hne
        refine cw_next hlt ⟨_, rfl, ?_, rfl⟩
        have e1 : withoutF (fam.take (i + 1)) k = withoutF (fam.take i) k := by rw [tk]; unfold withoutF; rw [List.filter_append, List.filter_cons_of_neg (by simpa using hne')]; simp
        rw [e1]; exact F1
    · rintro ys τ H1 ⟨t0, rfl, F1, rfl⟩
      rw [hlen, List.take_length] at F1
      refine ⟨c, _, rfl, .inl ⟨SqL.of upd_same, fun r hr => ?_⟩⟩
      have S := (same_new (o := .lst ys) hc).trans (same_new (o := .tup ys) hr)
      exact q r ys _ S upd_same (F1.same S)
/-! ### with_parents -/
@[irreducible] def spWp : Sp := fun vs H Q _ => ∃ (t pa : Addr) (o : Obj) (ws : List V) (fam : List (Str × List Str)) (k : Str) (ps : List Str) (L : Str → List Str), vs = [.ref t, .str k, .ref pa] ∧ H t = some (.frz o (.tup ws)) ∧ FamV H ws fam ∧ (fam.map (·.1)).Nodup ∧ fam.length ≤ 8 ∧ H pa = some (.tup (ps.map V.str)) ∧ FamOk (withoutF fam k ++ [(k, ps)]) L ∧
  ∀ t' o' ws' fam' H', Same H H' → H' t' = some (.frz o' (.tup ws')) → o'.dict = none → FamV H' ws' fam' → fam'.Perm (withoutF fam k ++ [(k, ps)]) → ((fam'.map (·.1)).Pairwise fun a b => ltS a b = true) → Q (.ref t') H'
theorem wp_sp {t pa : Addr} {o : Obj} {ws : List V} {fam : List (Str × List Str)} {k : Str} {ps : List Str} {L : Str → List Str} {H : Hp} {Q : VK} {E : XK} (ht : H t = some (.frz o (.tup ws))) (hf : FamV H ws fam) (nd : (fam.map (·.1)).Nodup) (hl : fam.length ≤ 8) (hp : H pa = some (.tup (ps.map V.str))) (ok : FamOk (withoutF fam k ++ [(k, ps)]) L)
    (q : ∀ t' o' ws' fam' H', Same H H' → H' t' = some (.frz o' (.tup ws')) → o'.dict = none → FamV H' ws' fam' → fam'.Perm (withoutF fam k ++ [(k, ps)]) → ((fam'.map (·.1)).Pairwise fun a b => ltS a b = true) → Q (.ref t') H') : spWp [.ref t, .str k, .ref pa] H Q E := by
  unfold spWp; exact ⟨t, pa, o, ws, fam, k, ps, L, rfl, ht, hf, nd, hl, hp, ok, q⟩
abbrev nWp : List Str := ["family", "kind", "parents", "told"]
theorem scWp : FnScope nWp ["family", "kind", "parents"] (defScope sWith) := ⟨rfl, rfl, rfl, by decide +kernel, rfl, by decide +kernel, by decide +kernel⟩
theorem ok_wp {fW fL : Addr} {dW dL : FuncData} (F : Fun K "with_parents" "with_parents" sWith f fd) (B : Blt mg) (B2 : Blt2 mg) (GW : FnOk P w K mg base CX0 1 fW dW ["family", "kind"] spWo) (kW : keepIn K (.ref fW) = true) (bW : Binds K dW ["family", "kind"] []) (mW : mg "without_kind" = some (.ref fW))
    (GL : FnOk P w K mg base CX0 5 fL dL ["family"] spLines) (kL : keepIn K (.ref fL) = true) (bL : Binds K dL ["family"] []) (mL : mg "lines_of" = some (.ref fL)) : FnOk P w K mg base CX0 6 f fd ["family", "kind", "parents"] spWp := by
  refine F.ok scWp (fun vs H Q E h => ?_) (fun cdv A outer s H vs Q E hr h => ?_)
  · unfold spWp at h; obtain ⟨t, pa, o, ws, fam, k, ps, L, rfl, _⟩ := h; rfl
  · unfold spWp at h
    obtain ⟨t, pa, o, ws, fam, k, ps, L, rfl, ht, hf, nd, hl, hp, ok, q⟩ := h
    have hr5 : Room 5 _ := hr
    have hr1 : Room 1 _ := hr5.mono (by decide)
    refine ⟨_, pss_cons (ps_set (i := 3) scWp.nd rfl (Or.inl rfl) (pe_callTy call_tuple_frz rfl B.tuple boot_tuple (pa_cons (pe_callB call_sortedG rfl B2.sorted boot_sorted (pa_cons (pe_op op_catA (pe_call GW hr1 rfl mW kW bW .nil pass0 (pa_cons (pv 0) (pa_cons (pv 1) pa_nil))) (pe_tup (pa_cons (pe_tup (pa_cons (pv 1) (pa_cons (pv 2) pa_nil))) pa_nil))) pa_nil)) pa_nil)))
      (pss_cons (ps_expr (pe_call GL hr5 rfl mL kL bL .nil pass0 (pa_cons (pv 3) pa_nil)))
      (pss_one (ps_ret (pv 3)))), ?_⟩
    have wl : (withoutF fam k).length ≤ fam.length := List.length_filter_le _ _
    refine ⟨_, rfl, _, rfl, wo_sp ht hf (by omega) fun r ws' H1 S1 h1 F1 => ?_⟩
    refine ⟨_, rfl, _, rfl, by show 2 ≤ sizeLine; rw [sizeLine_eq]; decide, fun c1 hc1 => ⟨by show 1 ≤ sizeLine; rw [sizeLine_eq]; decide, fun c2 hc2 => ?_⟩⟩
    have T1 := same_new (o := .tup [V.str k, .ref pa]) hc1
    have T2 := T1.trans (same_new (o := .tup [V.ref c1]) hc2)
    have S2 := S1.trans T2
    have hwl := F1.length
    refine ⟨r, c2, _, _, rfl, rfl, T2 _ _ h1, upd_same, by rw [sizeLine_eq]; show _ + 1 ≤ _; omega, fun c3 H3 S3 h3 => ?_⟩
    have hc1' : upd (upd H1 c1 (.tup [V.str k, .ref pa])) c2 (.tup [V.ref c1]) c1 = some (.tup [V.str k, .ref pa]) := by rw [upd_ne (ne_of_none upd_same hc2)]; exact upd_same
    have F3 : FamV H3 (ws' ++ [.ref c1]) (withoutF fam k ++ [(k, ps)]) := FamV.append (F1.same (T2.trans S3)) (S3 _ _ hc1') (S3 _ _ (S2 _ _ hp))
    have S03 := S2.trans S3
    obtain ⟨kvs, K3, ek⟩ := F3.keyed
    have l3 := F3.length
    rw [List.length_append, List.length_append, List.length_singleton, List.length_singleton] at l3
    refine ⟨c3, _, kvs, 1, rfl, .inr (SqT.of h3), K3, Nat.le_refl _, by rw [ek]; exact famKey_nd ok.nd, by rw [List.length_append, List.length_singleton]; omega, fun D ys' kvs' hD hperm hK hpk hso => ?_⟩
    obtain ⟨fam', hpf, F4⟩ := paired_perm hperm F3
    rw [keyed_keys F4 hK] at hso
    have so : (fam'.map (·.1)).Pairwise fun a b => ltS a b = true := by
      rw [List.pairwise_map] at hso ⊢
      exact hso.imp fun {a b} z => by rw [ltL_one] at z; exact z
    have SD := same_new (o := .lst ys') hD
    refine ⟨D, ys', rfl, SqL.of upd_same, fun t' o' ht' ho' => ?_⟩
    have St := SD.trans (same_new (o := .frz o' (.tup ys')) ht')
    have S04 := S03.trans St
    have F5 := FamV.same F4 St
    refine ⟨_, rfl, lines_sp upd_same F5 (ok.perm hpf) fun d kvs2 H5 hd S5 h5 hl5 hpm5 => ?_⟩
    exact ⟨_, rfl, q t' o' ys' fam' H5 (S04.trans S5) (S5 _ _ upd_same) ho' (F5.same S5) hpf so⟩
/-! ### check_parents, kind_changed -/
@[irreducible] def spCp : Sp := fun vs H Q _ => ∃ (t b : Addr) (o : Obj) (ws : List V) (fam : List (Str × List Str)) (xs : List Str), vs = [.ref t, .ref b] ∧ H t = some (.frz o (.tup ws)) ∧ o.dict = none ∧ FamV H ws fam ∧ (fam.map (·.1)).Nodup ∧ H b = some (.tup (xs.map V.str)) ∧ (∀ x ∈ xs, Nm x) ∧ xs.Nodup ∧ xs.length ≤ 4 ∧ (∀ x ∈ xs, ∃ q ∈ fam, q.1 = x) ∧ ∀ H', Same H H' → Q .non H'
theorem cp_sp {t b : Addr} {o : Obj} {ws : List V} {fam : List (Str × List Str)} {xs : List Str} {H : Hp} {Q : VK} {E : XK} (ht : H t = some (.frz o (.tup ws))) (ho : o.dict = none) (hf : FamV H ws fam) (fnd : (fam.map (·.1)).Nodup) (hb : H b = some (.tup (xs.map V.str))) (nm : ∀ x ∈ xs, Nm x) (nd : xs.Nodup) (h4 : xs.length ≤ 4) (hin : ∀ x ∈ xs, ∃ q ∈ fam, q.1 = x) (q : ∀ H', Same H H' → Q .non H') : spCp [.ref t, .ref b] H Q E := by
  unfold spCp; exact ⟨t, b, o, ws, fam, xs, rfl, ht, ho, hf, fnd, hb, nm, nd, h4, hin, q⟩
theorem scCp : FnScope ["family", "thing"] ["family", "thing"] (defScope sCheckP) := ⟨rfl, rfl, rfl, by decide +kernel, rfl, by decide +kernel, by decide +kernel⟩
theorem ok_cp {fA : Addr} {dA : FuncData} (F : Fun K "check_parents" "check_parents" sCheckP f fd) (GA : FnOk P w K mg base CX0 3 fA dA ["family", "thing"] spAreP) (kA : keepIn K (.ref fA) = true) (bA : Binds K dA ["family", "thing"] []) (mA : mg "are_parents" = some (.ref fA)) : FnOk P w K mg base CX0 4 f fd ["family", "thing"] spCp := by
  refine F.ok scCp (fun vs H Q E h => ?_) (fun cdv A outer s H vs Q E hr h => ?_)
  · unfold spCp at h; obtain ⟨t, b, o, ws, fam, xs, rfl, _⟩ := h; rfl
  · unfold spCp at h
    obtain ⟨t, b, o, ws, fam, xs, rfl, ht, ho, hf, fnd, hb, nm, nd, h4, hin, q⟩ := h
    refine ⟨_, pss_one (ps_if (pt_not (pt_val (pe_call GA hr rfl mA kA bA .nil pass0 (pa_cons (pv 0) (pa_cons (pv 1) pa_nil))))) pss_never pss_nil), ?_⟩
    exact ⟨_, rfl, _, rfl, areP_sp ht ho hf fnd hb nm nd h4 hin fun H1 S1 => ⟨true, rfl, q H1 S1⟩⟩
@[irreducible] def spKc : Sp := fun vs H Q _ => ∃ (t pa : Addr) (o : Obj) (ws : List V) (fam : List (Str × List Str)) (k : Str) (ps : List Str) (L : Str → List Str), vs = [.ref t, .str k, .ref pa] ∧ H t = some (.frz o (.tup ws)) ∧ o.dict = none ∧ FamV H ws fam ∧ FamOk fam L ∧ LnP fam L ∧ (∃ p ∈ fam, p.1 = k) ∧ H pa = some (.tup (ps.map V.str)) ∧ ps.Nodup ∧ ps.length ≤ 4 ∧ (∀ x ∈ ps, ∃ q ∈ fam, q.1 = x) ∧ (∀ x ∈ ps, k ∉ L x) ∧ FamOk (withoutF fam k ++ [(k, ps)]) L ∧
  ∀ t' o' ws' fam' H', Same H H' → H' t' = some (.frz o' (.tup ws')) → o'.dict = none → FamV H' ws' fam' → fam'.Perm (withoutF fam k ++ [(k, ps)]) → ((fam'.map (·.1)).Pairwise fun a b => ltS a b = true) → Q (.ref t') H'
theorem kc_sp {t pa : Addr} {o : Obj} {ws : List V} {fam : List (Str × List Str)} {k : Str} {ps : List Str} {L : Str → List Str} {H : Hp} {Q : VK} {E : XK} (ht : H t = some (.frz o (.tup ws))) (ho : o.dict = none) (hf : FamV H ws fam) (ok : FamOk fam L) (lp : LnP fam L) (hk : ∃ p ∈ fam, p.1 = k) (hp : H pa = some (.tup (ps.map V.str))) (pnd : ps.Nodup) (h4 : ps.length ≤ 4) (hin : ∀ x ∈ ps, ∃ q ∈ fam, q.1 = x) (hno : ∀ x ∈ ps, k ∉ L x) (ok2 : FamOk (withoutF fam k ++ [(k, ps)]) L)
    (q : ∀ t' o' ws' fam' H', Same H H' → H' t' = some (.frz o' (.tup ws')) → o'.dict = none → FamV H' ws' fam' → fam'.Perm (withoutF fam k ++ [(k, ps)]) → ((fam'.map (·.1)).Pairwise fun a b => ltS a b = true) → Q (.ref t') H') : spKc [.ref t, .str k, .ref pa] H Q E := by
  unfold spKc; exact ⟨t, pa, o, ws, fam, k, ps, L, rfl, ht, ho, hf, ok, lp, hk, hp, pnd, h4, hin, hno, ok2, q⟩
abbrev nKc : List Str := ["family", "kind", "parents", "parent", "way"]
theorem scKc : FnScope nKc ["family", "kind", "parents"] (defScope sChanged) := ⟨rfl, rfl, rfl, by decide +kernel, rfl, by decide +kernel, by decide +kernel⟩
theorem ok_kc {fC fQ fY fW : Addr} {dC dQ dY dW : FuncData} (F : Fun K "kind_changed" "kind_changed" sChanged f fd) (GC : FnOk P w K mg base CX0 3 fC dC ["family", "thing"] spCheck) (kC : keepIn K (.ref fC) = true) (bC : Binds K dC ["family", "thing"] []) (mC : mg "check_kind" = some (.ref fC))
    (GQ : FnOk P w K mg base CX0 4 fQ dQ ["family", "thing"] spCp) (kQ : keepIn K (.ref fQ) = true) (bQ : Binds K dQ ["family", "thing"] []) (mQ : mg "check_parents" = some (.ref fQ))
    (GY : FnOk P w K mg base CX0 6 fY dY ["family", "a", "b"] spWay) (kY : keepIn K (.ref fY) = true) (bY : Binds K dY ["family", "a", "b"] []) (mY : mg "way_of" = some (.ref fY))
    (GW : FnOk P w K mg base CX0 6 fW dW ["family", "kind", "parents"] spWp) (kW : keepIn K (.ref fW) = true) (bW : Binds K dW ["family", "kind", "parents"] []) (mW : mg "with_parents" = some (.ref fW)) : FnOk P w K mg base CX0 7 f fd ["family", "kind", "parents"] spKc := by
  refine F.ok scKc (fun vs H Q E h => ?_) (fun cdv A outer s H vs Q E hr h => ?_)
  · unfold spKc at h; obtain ⟨t, pa, o, ws, fam, k, ps, L, rfl, _⟩ := h; rfl
  · unfold spKc at h
    obtain ⟨t, pa, o, ws, fam, k, ps, L, rfl, ht, ho, hf, ok, lp, ⟨pk, hpk, rfl⟩, hp, pnd, h4, hin, hno, ok2, q⟩ := h
    have hr6 : Room 6 _ := hr
    have hr4 : Room 4 _ := hr6.mono (by decide)
    have hr3 : Room 3 _ := hr6.mono (by decide)
    refine ⟨_, pss_cons (ps_expr (pe_call GC hr3 rfl mC kC bC .nil pass0 (pa_cons (pv 0) (pa_cons (pv 1) pa_nil))))
      (pss_cons (ps_expr (pe_call GQ hr4 rfl mQ kQ bQ .nil pass0 (pa_cons (pv 0) (pa_cons (pv 2) pa_nil))))
      (pss_cons (ps_for PassesOwn.never rfl (pi_tup (pv 2)) (pg_name (i := 3) scKc.nd rfl (Or.inl rfl))
        (pss_cons (ps_set (i := 4) scKc.nd rfl (Or.inl rfl) (pe_call GY hr6 rfl mY kY bY .nil pass0 (pa_cons (pv 0) (pa_cons (pv 3) (pa_cons (pv 1) pa_nil)))))
        (pss_one (ps_if (pt_cmpR op_notN (pv 4) pe_non (nomark _)) pss_never pss_nil))))
      (pss_one (ps_ret (pe_call GW hr6 rfl mW kW bW .nil pass0 (pa_cons (pv 0) (pa_cons (pv 1) (pa_cons (pv 2) pa_nil)))))))), ?_⟩
    obtain ⟨kvs0, hpv, hkeys⟩ := hf.pairs
    have nmp : ∀ x ∈ ps, Nm x := fun x hx => by obtain ⟨z, hz, rfl⟩ := hin x hx; exact ok.nm z hz
    refine ⟨_, rfl, _, rfl, check_sp ht ho hpv (by rw [hkeys]; exact ok.nd) (ok.nm pk hpk) (by rw [hkeys]; exact List.mem_map.mpr ⟨pk, hpk, rfl⟩) fun H1 S1 => ?_⟩
    refine ⟨_, rfl, _, rfl, cp_sp (S1 _ _ ht) ho (hf.same S1) ok.nd (S1 _ _ hp) nmp pnd h4 hin fun H2 S2 => ?_⟩
    have S2 := S1.trans S2
    have hp2 := S2 _ _ hp
    refine ⟨_, rfl, pa, rfl, ⟨_, SqT.of hp2⟩, for_tup (xs := ps.map V.str) (fun i σ H3 => ∃ v3 v4 : Option V, σ = [some (.ref t), some (.str pk.1), some (.ref pa), v3, v4] ∧ Same H2 H3) ⟨none, none, rfl, Same.refl _⟩ (fun i σ H3 _ ⟨_, _, _, z⟩ => SqT.of (z _ _ hp2)) ?_ ?_⟩
    · rintro i x σ H3 hx ⟨v3, v4, rfl, S3⟩
      have hjl : i < (ps.map V.str).length := (List.getElem?_eq_some_iff.mp hx).1
      have hil : i < ps.length := by simpa using hjl
      obtain rfl : V.str ps[i] = x := by simpa [hil] using hx
      have hm := List.getElem_mem hil
      have S23 := S2.trans S3
      refine ⟨_, rfl, _, rfl, _, rfl, way_sp (S23 _ _ ht) ho (hf.same S23) ok lp (hin _ hm) ⟨pk, hpk, rfl⟩ (fun _ H4 S4 => ?_) (fun z => absurd z (hno _ hm))⟩
      exact ⟨_, rfl, rfl, _, rfl, _, _, rfl, S3.trans S4⟩
    · rintro σ H3 ⟨v3, v4, rfl, S3⟩
      have S23 := S2.trans S3
      refine ⟨_, rfl, _, rfl, _, rfl, wp_sp (S23 _ _ ht) (hf.same S23) ok.nd ok.few (S23 _ _ hp) ok2 fun t' o' ws' fam' H4 S4 h4' ho' F4 p4 so4 => ?_⟩
      exact q t' o' ws' fam' H4 (S23.trans S4) h4' ho' F4 p4 so4
end
end K29
namespace K29
open PySem L2 PySem.W HT
/-! ### pure: one parent, none, a forebear named last -/
theorem merge_one : ∀ (r : List Str), r.Nodup → mergeG (total [r]) [r] = some r
  | [], _ => merge_stop rfl
  | n :: t, h => by
    have hA : (([n :: t] : List (List Str)).any fun r => !r.isEmpty) = true := rfl
    have hf : wishFrom 0 [n :: t] n = none := wish_none.mpr fun r hr _ => by rw [List.mem_singleton.mp hr]; rfl
    have hl : leastFree [n :: t] = some n := free_is hf _ 0 _ rfl rfl fun j _ _ hj => absurd hj (Nat.not_lt_zero _)
    rw [merge_some hA hl]
    have hn := (List.nodup_cons.mp h).1
    have e : L2.without n [n :: t] = [t] := by
      show [(n :: t).filter fun y => !decide (y = n)] = [t]
      rw [List.filter_cons_of_neg (by simp)]
      congr 1
      refine List.filter_eq_self.mpr fun y hy => ?_
      have : y ≠ n := fun z => hn (z ▸ hy)
      simpa using this
    rw [e, merge_one t (List.nodup_cons.mp h).2]; rfl
theorem Fm.line0 {ks : List Str} {L Ps : Str → List Str} (F : Fm ks L Ps) {x : Str} (hx : x ∈ ks) (h : Ps x = []) : L x = [x] := by
  obtain ⟨o, hm, hL⟩ := F.ln x hx
  rw [h] at hm
  have : o = [] := by
    have e : mergeG (total (rowsOf L [])) (rowsOf L []) = some [] := merge_stop rfl
    rw [e] at hm; exact (Option.some.inj hm).symm
  rw [hL, this]
theorem Fm.line1 {ks : List Str} {L Ps : Str → List Str} (F : Fm ks L Ps) {x p : Str} (hx : x ∈ ks) (h : Ps x = [p]) : L x = x :: L p := by
  obtain ⟨o, hm, hL⟩ := F.ln x hx
  obtain ⟨n1, n2, n3⟩ := F.ps x hx
  rw [h] at hm n3
  have hp := n3 p List.mem_cons_self
  obtain ⟨o', hm', hL'⟩ := F.ln p hp
  have nd := (F.ld p hp).1
  have hpL : p ∈ L p := by rw [hL']; exact List.mem_cons_self
  have e : mergeG (total ([L p] ++ [[p]])) ([L p] ++ [[p]]) = some (L p) := by
    refine swap_tail (L p) [L p] [] [[p]] (fun r hr => by rw [List.append_nil] at hr; rw [List.mem_singleton.mp hr]; exact nd) (by rw [List.append_nil]; exact merge_one _ nd) (fun r hr => ?_) (fun y hy => ⟨_, List.mem_cons_self, hy⟩) (fun d hd => by cases hd)
    rw [List.mem_singleton.mp hr, hL']
    rw [hL'] at nd
    have hno := (List.nodup_cons.mp nd).1
    rw [List.filter_cons_of_pos (by simp)]
    congr 1
    refine List.filter_eq_nil_iff.mpr fun y hy => ?_
    have : y ≠ p := fun z => hno (z ▸ hy)
    simpa using this
  have e2 : rowsOf L [p] = [L p] ++ [[p]] := rfl
  rw [e2, e] at hm
  rw [hL, ← Option.some.inj hm]
/-- where a forebear may be named last -/
theorem Fm.last {ks : List Str} {L Ps : Str → List Str} (F : Fm ks L Ps) (h8 : ks.length ≤ 8) {x z : Str} (hx : x ∈ ks) (hne : Ps x ≠ []) (hz : z ∈ L x) (hzp : z ∉ Ps x) (hzx : z ≠ x) (hord : ((L x).filter fun y => decide (y ∈ Ps x ++ [z])) = ((L x).filter fun y => decide (y ∈ Ps x)) ++ [z]) :
    ∃ o, mergeG (total (rowsOf L (Ps x ++ [z]))) (rowsOf L (Ps x ++ [z])) = some o ∧ L x = x :: o := by
  obtain ⟨o, hm, hL⟩ := F.ln x hx
  obtain ⟨n1, n2, n3⟩ := F.ps x hx
  have lp := F.lnP h8
  obtain ⟨⟨_, s2⟩, s3⟩ := sound _ _ rfl (fun r hr => (F.rowsIn n1 n3 r hr).1) o hm
  rw [kept_iff] at s3
  refine ⟨o, ?_, hL⟩
  have hxo : x ∉ o := by have := (F.ld x hx).1; rw [hL] at this; exact (List.nodup_cons.mp this).1
  have hxp : x ∉ Ps x := fun w => hxo ((s2 x).mpr ⟨Ps x, mem_rowsOf.mpr (.inr rfl), w⟩)
  have e1 : rowsOf L (Ps x ++ [z]) = (Ps x).map L ++ [L z, Ps x ++ [z]] := by unfold rowsOf; rw [List.map_append, List.append_assoc]; rfl
  rw [e1]
  obtain ⟨w1, w2⟩ := F.within h8 _ x hx rfl z hz
  have hzk := (F.ld x hx).2 z hz
  have hxz : x ∉ L z := fun w => by
    have lt := w2 hzx
    have le : (L x).length ≤ (L z).length := len_sub (F.ld x hx).1 fun y hy => lp.trans (famOf_up F) _ _ (mem_famOf hzk) rfl x w y hy
    omega
  have cut : ∀ r : List Str, x ∉ r → ((L x).filter fun y => decide (y ∈ r)) = o.filter fun y => decide (y ∈ r) := fun r hr => by rw [hL, List.filter_cons_of_neg (by simpa using hr)]
  refine swap_tail o _ [Ps x] _ (fun r hr => (F.rowsIn n1 n3 r hr).1) hm (fun r hr => ?_) (fun y hy => ?_) (fun d hd => ?_)
  · rcases List.mem_cons.mp hr with rfl | hr
    · rw [← cut _ hxz]; exact w1
    · rw [List.mem_singleton.mp hr]
      have hx2 : x ∉ Ps x ++ [z] := fun w => by
        rcases List.mem_append.mp w with w | w
        · exact hxp w
        · exact hzx (List.mem_singleton.mp w).symm
      rw [← cut _ hx2, hord, cut _ hxp, s3 _ (mem_rowsOf.mpr (.inr rfl))]
  · obtain ⟨r, hr, hyr⟩ := (s2 y).mp hy
    rcases mem_rowsOf.mp hr with ⟨p, hp, rfl⟩ | rfl
    · exact ⟨_, List.mem_map.mpr ⟨p, hp, rfl⟩, hyr⟩
    · exact ⟨L y, List.mem_map.mpr ⟨y, hyr, rfl⟩, (lp.mem _ (mem_famOf (n3 y hyr)) y).mpr (.inl rfl)⟩
  · rw [List.mem_singleton.mp hd]
    refine ⟨Ps x ++ [z], List.mem_cons_of_mem _ List.mem_cons_self, ?_⟩
    rw [List.filter_append, List.filter_eq_self.mpr fun y hy => decide_eq_true hy, List.filter_cons_of_neg (by simpa using hzp)]
    simp
/-- behind a cut, what is not in a list all of which is ahead of it -/
theorem behind_ord {xs ps pre suf : List Str} {z : Str} (nd : xs.Nodup) (e : xs = pre ++ suf) (hp : ∀ p ∈ ps, p ∈ pre) (hz : z ∈ suf) (hzp : z ∉ ps) : (xs.filter fun y => decide (y ∈ ps ++ [z])) = (xs.filter fun y => decide (y ∈ ps)) ++ [z] := by
  subst e
  obtain ⟨nd1, nd2, nd3⟩ := List.nodup_append.mp nd
  rw [List.filter_append, List.filter_append]
  have a1 : (pre.filter fun y => decide (y ∈ ps ++ [z])) = pre.filter fun y => decide (y ∈ ps) := List.filter_congr fun y hy => by
    have : y ≠ z := nd3 y hy z hz
    simp [this]
  have a2 : (suf.filter fun y => decide (y ∈ ps)) = [] := List.filter_eq_nil_iff.mpr fun y hy => by
    have : y ∉ ps := fun w => nd3 y (hp y w) y hy rfl
    simpa using this
  have a3 : (suf.filter fun y => decide (y ∈ ps ++ [z])) = [z] := by
    have : (suf.filter fun y => decide (y ∈ ps ++ [z])) = suf.filter fun y => decide (y = z) := List.filter_congr fun y hy => by
      have : y ∉ ps := fun w => nd3 y (hp y w) y hy rfl
      simp [this]
    rw [this]
    clear this a1 a2
    obtain ⟨s1, s2, rfl⟩ := List.append_of_mem hz
    obtain ⟨_, m2, m3⟩ := List.nodup_append.mp nd2
    have m4 := (List.nodup_cons.mp m2).1
    rw [List.filter_append, List.filter_cons_of_pos (by simp), List.filter_eq_nil_iff.mpr fun y hy => by simpa using m3 y hy z List.mem_cons_self, List.filter_eq_nil_iff.mpr fun y hy => by simpa using fun w : y = z => m4 (w ▸ hy)]
    rfl
  rw [a1, a2, a3, List.append_nil]
section
variable {P : Program} {w : World} {K : Frag} {mg : Str → Option Value} {base : Heap} {f : Addr} {fd : FuncData}
/-! ### _law_behind_all -/
structure SomeP (xs ps rs : List Str) : Prop where
  mem : ∀ z ∈ rs, z ∈ xs ∧ z ∉ ps ∧ ((xs.filter fun y => decide (y ∈ ps ++ [z])) = (xs.filter fun y => decide (y ∈ ps)) ++ [z])
  hd : ∀ z ∈ rs, ∀ x t, xs = x :: t → z ≠ x
@[irreducible] def spBa : Sp := fun vs H Q _ => ∃ (t l : Addr) (xs ps : List Str), vs = [.ref t, .ref l] ∧ H t = some (.tup (xs.map V.str)) ∧ H l = some (.lst (ps.map V.str)) ∧ xs.Nodup ∧ (∀ p ∈ ps, p ∈ xs) ∧ xs.length ≤ 20 ∧ ps.length ≤ 20 ∧
  ∀ r rs H', H r = none → Same H H' → H' r = some (.lst (rs.map V.str)) → SomeP xs ps rs → rs.length ≤ 20 → Q (.ref r) H'
theorem ba_sp {t l : Addr} {xs ps : List Str} {H : Hp} {Q : VK} {E : XK} (ht : H t = some (.tup (xs.map V.str))) (hl : H l = some (.lst (ps.map V.str))) (nd : xs.Nodup) (sub : ∀ p ∈ ps, p ∈ xs) (h1 : xs.length ≤ 20) (h2 : ps.length ≤ 20)
    (q : ∀ r rs H', H r = none → Same H H' → H' r = some (.lst (rs.map V.str)) → SomeP xs ps rs → rs.length ≤ 20 → Q (.ref r) H') : spBa [.ref t, .ref l] H Q E := by unfold spBa; exact ⟨t, l, xs, ps, rfl, ht, hl, nd, sub, h1, h2, q⟩
abbrev nBa : List Str := ["_law_found", "_law_own", "_law_last"]
theorem scBa : FnScope nBa ["_law_found", "_law_own"] (defScope sBehind) := ⟨rfl, rfl, rfl, by decide +kernel, rfl, by decide +kernel, by decide +kernel⟩
def binR (e : Expr) : Expr := match e with | .BinOp _ _ b _ => b | _ => .Constant .none 0 ⟨0, 0, 0, 0⟩
abbrev eBa1 : Expr := binR (arg0 (asgV (bodyAt (defBody sBehind) 0)))
abbrev eBa2 : Expr := retV (bodyAt (defBody sBehind) 1)
theorem csBa1 : CompScope nBa (defScope sBehind) ["_law_one", "_law_found"] [none, some 0] (compSc eBa1) := ⟨rfl, by decide +kernel, by decide +kernel, rfl, fv_of (by decide +kernel), by decide +kernel⟩
theorem csBa2 : CompScope nBa (defScope sBehind) ["_law_one", "_law_own"] [none, some 1] (compSc eBa2) := ⟨rfl, by decide +kernel, by decide +kernel, rfl, fv_of (by decide +kernel), by decide +kernel⟩
theorem firstAt {xs : List Str} (nd : xs.Nodup) {j : Nat} {y : Str} (h : xs[j]? = some y) : ∀ m, m < j → xs[m]? ≠ some y := fun m hm e => by
  have hj := (List.getElem?_eq_some_iff.mp h).1
  have := (List.getElem?_inj (by omega) nd).mp (e.trans h.symm)
  omega
theorem ok_ba (F : Fun K "_law_behind_all" "_law_behind_all" sBehind f fd) (B : Blt mg) : FnOk P w K mg base CX0 1 f fd ["_law_found", "_law_own"] spBa := by
  refine F.ok scBa (fun vs H Q E h => ?_) (fun cdv A outer s H vs Q E hr h => ?_)
  · unfold spBa at h; obtain ⟨t, l, xs, ps, rfl, _⟩ := h; rfl
  · unfold spBa at h
    obtain ⟨t, l, xs, ps, rfl, ht, hl, nd, sub, h1, h2, q⟩ := h
    refine ⟨_, pss_cons (ps_set (i := 2) scBa.nd rfl (Or.inl rfl) (pe_callB (call_maxI rfl) rfl B.max boot_max (pa_cons (pe_op op_cat (pe_lst (pa_cons pe_int pa_nil)) (pe_comp rfl csBa1 (pi_list (pv 1)) (fun s H fp => ⟨pg_name (i := 0) csBa1.nd rfl (Or.inl rfl), pifs_nil, pe_bm_K K rfl PySem.F.plainAttrs_tuple PySem.F.slot_tuple_index PySem.F.type_tuple_index (mt_indexT_K K rfl) (pv 1) (pa_cons (pv 0) pa_nil)⟩))) pa_nil)))
      (pss_one (ps_ret (pe_comp rfl csBa2 (pi_tup (pe_slice sl_tupA (pv 0) (po_some (pe_op op_add (pv 2) pe_int)) po_none)) (fun s H fp => ⟨pg_name (i := 0) csBa2.nd rfl (Or.inl rfl), pifs_one (pt_cmpR (op_notIn_K K rfl) (pv 0) (pv 1) rfl), pv 0⟩)))), ?_⟩
    refine ⟨by show 1 ≤ sizeLine; rw [sizeLine_eq]; decide, fun c0 hc0 => ?_⟩
    have S0 := same_new (o := .lst [V.int 0]) hc0
    have hl0 := S0 _ _ hl
    have ht0 := S0 _ _ ht
    have h00 : upd H c0 (.lst [V.int 0]) c0 = some (.lst [V.int 0]) := upd_same
    generalize upd H c0 (.lst [V.int 0]) = H0 at S0 hl0 ht0 h00 ⊢
    refine ⟨_, rfl, l, rfl, ⟨_, SqL.of hl0⟩, fun c hc => ?_⟩
    refine comp_list (xs := ps.map V.str) (fun i ys τ H1 => ∃ (t0 : Option V) (ns : List Nat), τ = [t0, some (.ref t)] ∧ ys = (ns.map fun (n : Nat) => (n : Int)).map V.int ∧ ns.length = i ∧ (∀ k, k < i → ∃ n ∈ ns, xs[n]? = ps[k]?) ∧ (∀ n ∈ ns, n < xs.length) ∧ H1 = upd H0 c (.lst ys)) ⟨none, [], rfl, rfl, rfl, fun k hk => absurd hk (Nat.not_lt_zero _), fun n hn => (by cases hn), rfl⟩ (fun i ys τ H1 ⟨_, _, _, _, _, _, _, z⟩ => by rw [z]; exact ⟨upd_same, SqL.of (by rw [upd_ne (ne_of_none hl0 hc)]; exact hl0)⟩) ?_ ?_
    · rintro i x ys τ H1 hx ⟨t0, ns, rfl, rfl, nl, hal, hlt, rfl⟩
      have hjl : i < (ps.map V.str).length := (List.getElem?_eq_some_iff.mp hx).1
      have hil : i < ps.length := by simpa using hjl
      obtain rfl : V.str ps[i] = x := by simpa [hil] using hx
      obtain ⟨j, hj, ej⟩ := List.mem_iff_getElem.mp (sub _ (List.getElem_mem hil))
      have hj? : xs[j]? = some ps[i] := by rw [List.getElem?_eq_getElem hj, ej]
      have ht1 : upd H0 c (.lst ((ns.map fun (n : Nat) => (n : Int)).map V.int)) t = some (.tup (xs.map V.str)) := by rw [upd_ne (ne_of_none ht0 hc)]; exact ht0
      refine ⟨_, rfl, .inr (.inr (.inr (.inr ⟨rfl, _, Rd.of ht1⟩))), _, rfl, t, xs, ps[i], j, rfl, rfl, SqT.of ht1, hj?, firstAt nd hj?, upd_same, by rw [List.length_map, List.length_map, sizeLine_eq]; omega, cw_next hjl ⟨_, ns ++ [j], rfl, ?_, by rw [List.length_append, List.length_singleton, nl], fun k hk => ?_, fun n hn => ?_, by rw [upd_upd]⟩⟩
      · rw [List.map_append, List.map_append]; rfl
      · by_cases c1 : k < i
        · obtain ⟨n, hn, e⟩ := hal k c1
          exact ⟨n, List.mem_append_left _ hn, e⟩
        · obtain rfl : k = i := by omega
          exact ⟨j, List.mem_append_right _ List.mem_cons_self, by rw [hj?, List.getElem?_eq_getElem hil]⟩
      · rcases List.mem_append.mp hn with z | z
        · exact hlt n z
        · rw [List.mem_singleton.mp z]; exact hj
    rintro ys τ H1 ⟨t0, ns, rfl, rfl, nl, hal, hlt, rfl⟩
    rw [List.length_map] at nl hal
    have S1 := S0.trans (same_new (o := .lst ((ns.map fun (n : Nat) => (n : Int)).map V.int)) hc)
    have h01 : upd H0 c (.lst ((ns.map fun (n : Nat) => (n : Int)).map V.int)) c0 = some (.lst [V.int 0]) := by rw [upd_ne (ne_of_none h00 hc)]; exact h00
    refine ⟨c0, c, _, _, rfl, rfl, h01, upd_same, by rw [List.length_map, List.length_map, sizeLine_eq]; show 1 + _ ≤ _; omega, fun c2 hc2 => ?_⟩
    have S2 := S1.trans (same_new (o := .lst ([V.int 0] ++ (ns.map fun (n : Nat) => (n : Int)).map V.int)) hc2)
    refine ⟨c2, 0 :: ns.map fun (n : Nat) => (n : Int), rfl, SqL.of upd_same, by simp, fun m hm hmax => ?_⟩
    obtain ⟨m, rfl⟩ : ∃ n : Nat, m = (n : Int) := by
      rcases List.mem_cons.mp hm with z | z
      · exact ⟨0, z⟩
      · obtain ⟨n, _, e⟩ := List.mem_map.mp z; exact ⟨n, e.symm⟩
    generalize upd (upd H0 c (.lst ((ns.map fun (n : Nat) => (n : Int)).map V.int))) c2 (.lst ([V.int 0] ++ (ns.map fun (n : Nat) => (n : Int)).map V.int)) = H2 at S2 ⊢
    have ht2 := S2 _ _ ht
    refine ⟨_, rfl, _, rfl, _, 1, rfl, rfl, _, rfl, t, _, rfl, ht2, fun sp H3 S3 h3 => ?_⟩
    have ecut : cutV (xs.map V.str) (some ((m : Int) + 1)) none = (xs.drop (m + 1)).map V.str := by
      rw [List.map_drop]
      exact cut_from (xs.map V.str) (m + 1)
    rw [ecut] at h3
    have S3 := S2.trans S3
    have hl3 := S3 _ _ hl
    have pre : ∀ p ∈ ps, p ∈ xs.take (m + 1) := fun p hp => by
      obtain ⟨k, hk, ek⟩ := List.mem_iff_getElem.mp hp
      obtain ⟨n, hn, e⟩ := hal k hk
      have hn2 := hlt n hn
      have hmn := hmax n (List.mem_cons_of_mem _ (List.mem_map.mpr ⟨n, hn, rfl⟩))
      rw [List.getElem?_eq_getElem hn2, List.getElem?_eq_getElem hk, ek] at e
      rw [← Option.some.inj e]
      exact List.mem_take_iff_getElem.mpr ⟨n, by omega, rfl⟩
    refine ⟨sp, rfl, ⟨_, SqT.of h3⟩, fun r hr => ?_⟩
    refine comp_tup (xs := (xs.drop (m + 1)).map V.str) (fun i ys τ H4 => ∃ t0 : Option V, τ = [t0, some (.ref l)] ∧ ys = (((xs.drop (m + 1)).take i).filter fun y => !decide (y ∈ ps)).map V.str ∧ H4 = upd H3 r (.lst ys)) ⟨none, rfl, rfl, rfl⟩ (fun i ys τ H4 ⟨_, _, _, z⟩ => by rw [z]; exact ⟨upd_same, SqT.of (by rw [upd_ne (ne_of_none h3 hr)]; exact h3)⟩) ?_ ?_
    · rintro i x ys τ H4 hx ⟨t0, rfl, rfl, rfl⟩
      have hjl : i < ((xs.drop (m + 1)).map V.str).length := (List.getElem?_eq_some_iff.mp hx).1
      have hil : i < (xs.drop (m + 1)).length := by simpa using hjl
      obtain ⟨y, ey, rfl⟩ : ∃ y, (xs.drop (m + 1))[i]? = some y ∧ V.str y = x := by
        rw [List.getElem?_map] at hx
        obtain ⟨y, e1, e2⟩ := Option.map_eq_some_iff.mp hx
        exact ⟨y, e1, e2⟩
      have tk : (xs.drop (m + 1)).take (i + 1) = (xs.drop (m + 1)).take i ++ [y] := by rw [List.take_succ, ey]; rfl
      refine ⟨_, rfl, _, rfl, l, _, rfl, .inl (SqL.of (by rw [upd_ne (ne_of_none hl3 hr)]; exact hl3)), rfl, flat_strs _, _, rfl, ?_⟩
      rw [if_pos rfl, inV_strs]
      refine ite2 (fun hin => ?_) (fun hin => ?_)
      · refine ⟨_, rfl, upd_same, ?_, cw_next hjl ⟨_, rfl, ?_, by rw [upd_upd]⟩⟩
        · have h2 := List.length_filter_le (fun y => !decide (y ∈ ps)) ((xs.drop (m + 1)).take i)
          rw [List.length_take, List.length_drop] at h2
          rw [List.length_map, sizeLine_eq]; omega
        · rw [tk, List.filter_append, List.filter_cons_of_pos (by exact hin), List.map_append]; rfl
      · refine cw_next hjl ⟨_, rfl, ?_, rfl⟩
        rw [tk, List.filter_append, List.filter_cons_of_neg (by exact hin), List.filter_nil, List.append_nil]
    · rintro ys τ H4 ⟨t0, rfl, rfl, rfl⟩
      rw [List.length_map, List.take_length]
      have hlen := List.length_filter_le (fun y => !decide (y ∈ ps)) (xs.drop (m + 1))
      rw [List.length_drop] at hlen
      have exs : xs = xs.take (m + 1) ++ xs.drop (m + 1) := (List.take_append_drop _ _).symm
      refine q r _ _ (S3.free hr) (S3.trans (same_new hr)) upd_same ⟨fun z hz => ?_, fun z hz x tl e => ?_⟩ (by omega)
      · obtain ⟨z1, z2⟩ := List.mem_filter.mp hz
        have z2' : z ∉ ps := by simpa using z2
        exact ⟨List.mem_of_mem_drop z1, z2', behind_ord nd exs pre z1 z2'⟩
      · obtain ⟨z1, _⟩ := List.mem_filter.mp hz
        rw [e, List.drop_succ_cons] at z1
        rw [e] at nd
        intro zx
        exact (List.nodup_cons.mp nd).1 (zx ▸ List.mem_of_mem_drop z1)
end
end K29
namespace K29
open PySem L2 PySem.W HT
/-! ### pure: the changed family -/
theorem changed_perm {fam : List (Str × List Str)} {ks : List Str} {Ps : Str → List Str} {k : Str} {q : List Str} (pm : fam.Perm (famOf Ps ks)) (nd : ks.Nodup) (hk : k ∈ ks) : (withoutF fam k ++ [(k, q)]).Perm (famOf (fun y => if y = k then q else Ps y) ks) := by
  have h1 : (withoutF fam k).Perm (withoutF (famOf Ps ks) k) := pm.filter _
  have h2 : withoutF (famOf Ps ks) k = famOf (fun y => if y = k then q else Ps y) (ks.filter fun x => !decide (x = k)) := by
    unfold withoutF famOf
    rw [List.filter_map]
    refine List.map_congr_left fun x hx => ?_
    have hx2 := (List.mem_filter.mp hx).2
    have : x ≠ k := fun z => by simp [z] at hx2
    simp [this]
  have h3 : ((ks.filter fun x => !decide (x = k)) ++ [k]).Perm ks := by
    refine nd_perm (List.nodup_append.mpr ⟨nd.filter _, (by simp), fun a ha b hb => ?_⟩) nd fun x => ?_
    · have := (List.mem_filter.mp ha).2
      rw [List.mem_singleton.mp hb]
      simpa using this
    · rw [List.mem_append, List.mem_filter, List.mem_singleton]
      constructor
      · rintro (z | z)
        · exact z.1
        · rw [z]; exact hk
      · intro z
        by_cases e : x = k
        · exact .inr e
        · exact .inl ⟨z, by simpa using e⟩
  have h4 : (famOf (fun y => if y = k then q else Ps y) ((ks.filter fun x => !decide (x = k)) ++ [k])).Perm (famOf (fun y => if y = k then q else Ps y) ks) := h3.map _
  have h5 : famOf (fun y => if y = k then q else Ps y) ((ks.filter fun x => !decide (x = k)) ++ [k]) = famOf (fun y => if y = k then q else Ps y) (ks.filter fun x => !decide (x = k)) ++ [(k, q)] := by
    unfold famOf
    rw [List.map_append]
    show _ ++ [(k, if k = k then q else Ps k)] = _
    rw [if_pos rfl]
  rw [h5, ← h2] at h4
  exact (h1.append_right _).trans h4
theorem Fm.changed {ks : List Str} {L Ps : Str → List Str} (F : Fm ks L Ps) (h8 : ks.length ≤ 8) {x z : Str} (hx : x ∈ ks) (hne : Ps x ≠ []) (h3 : (Ps x).length ≤ 3) (hz : z ∈ L x) (hzp : z ∉ Ps x) (hzx : z ≠ x) (hord : ((L x).filter fun y => decide (y ∈ Ps x ++ [z])) = ((L x).filter fun y => decide (y ∈ Ps x)) ++ [z]) :
    Fm ks L (fun y => if y = x then Ps x ++ [z] else Ps y) := by
  refine ⟨fun y hy => ?_, fun y hy => ?_, F.ld⟩
  · by_cases e : y = x
    · rw [if_pos e]
      obtain ⟨n1, n2, n3⟩ := F.ps x hx
      refine ⟨List.nodup_append.mpr ⟨n1, (by simp), fun a ha b hb => ?_⟩, by rw [List.length_append, List.length_singleton]; omega, fun a ha => ?_⟩
      · rw [List.mem_singleton.mp hb]
        intro w; exact hzp (w ▸ ha)
      · rcases List.mem_append.mp ha with w | w
        · exact n3 a w
        · rw [List.mem_singleton.mp w]; exact (F.ld x hx).2 z hz
    · rw [if_neg e]; exact F.ps y hy
  · by_cases e : y = x
    · rw [if_pos e, e]; exact F.last h8 hx hne hz hzp hzx hord
    · rw [if_neg e]; exact F.ln y hy
theorem Fm.noRound {ks : List Str} {L Ps : Str → List Str} (F : Fm ks L Ps) (h8 : ks.length ≤ 8) {x y : Str} (hx : x ∈ ks) (hy : y ∈ L x) (ne : y ≠ x) : x ∉ L y := fun h => by
  have hyk := (F.ld x hx).2 y hy
  have a := (F.within h8 _ x hx rfl y hy).2 ne
  have b := (F.within h8 _ y hyk rfl x h).2 (Ne.symm ne)
  omega
structure FamAll (H : Hp) (ks : List Str) (t d : Addr) (o o2 : Obj) (ws : List V) (kvs : List (Key × V)) (L Ps : Str → List Str) (fam : List (Str × List Str)) : Prop where
  ht : H t = some (.frz o (.tup ws))
  od : o.dict = none
  fv : FamV H ws fam
  pm : fam.Perm (famOf Ps ks)
  fm : Fm ks L Ps
  nd : ks.Nodup
  nm : ∀ x ∈ ks, Nm x
  k8 : ks.length ≤ 8
  hd : H d = some (.frz o2 (.dK kvs))
  hk : kvs.map (·.1) = ks.map Sum.inr
  pl : ∀ x ∈ ks, LnL H kvs Ps x
section
variable {H H' : Hp} {ks : List Str} {t d : Addr} {o o2 : Obj} {ws : List V} {kvs : List (Key × V)} {L Ps : Str → List Str} {fam : List (Str × List Str)}
theorem FamAll.same (R : FamAll H ks t d o o2 ws kvs L Ps fam) (S : Same H H') : FamAll H' ks t d o o2 ws kvs L Ps fam :=
  ⟨S _ _ R.ht, R.od, R.fv.same S, R.pm, R.fm, R.nd, R.nm, R.k8, S _ _ R.hd, R.hk, fun x hx => let ⟨a, e, q⟩ := R.pl x hx; ⟨a, e, S _ _ q⟩⟩
theorem FamAll.fok (R : FamAll H ks t d o o2 ws kvs L Ps fam) : FamOk fam L := (R.fm.famOk R.nd R.nm R.k8).perm R.pm
theorem FamAll.kin (R : FamAll H ks t d o o2 ws kvs L Ps fam) {x : Str} (hx : x ∈ ks) : ∃ q ∈ fam, q.1 = x := ⟨(x, Ps x), R.pm.mem_iff.mpr (List.mem_map.mpr ⟨x, hx, rfl⟩), rfl⟩
theorem FamAll.get (R : FamAll H ks t d o o2 ws kvs L Ps fam) {x : Str} (hx : x ∈ ks) : ∃ a, DGet H d (.str x) (some (.ref a)) ∧ H a = some (.lst ((Ps x).map V.str)) := by
  obtain ⟨a, e, h⟩ := R.pl x hx
  exact ⟨a, .inl ⟨kvs, Sum.inr x, .inr ⟨o2, R.hd⟩, rfl, e.symm⟩, h⟩
theorem FamAll.klen (R : FamAll H ks t d o o2 ws kvs L Ps fam) : kvs.length = ks.length := by have := congrArg List.length R.hk; simpa using this
theorem FamAll.ln8 (R : FamAll H ks t d o o2 ws kvs L Ps fam) {x : Str} (hx : x ∈ ks) : (L x).length ≤ 8 := Nat.le_trans (len_sub (R.fm.ld x hx).1 (R.fm.ld x hx).2) R.k8
theorem FamAll.nmL (R : FamAll H ks t d o o2 ws kvs L Ps fam) {x : Str} (hx : x ∈ ks) : ∀ y ∈ L x, Nm y := fun y hy => R.nm y ((R.fm.ld x hx).2 y hy)
theorem FamAll.nmP (R : FamAll H ks t d o o2 ws kvs L Ps fam) {x : Str} (hx : x ∈ ks) : ∀ y ∈ Ps x, Nm y := fun y hy => R.nm y ((R.fm.ps x hx).2.2 y hy)
theorem FamAll.sub (R : FamAll H ks t d o o2 ws kvs L Ps fam) {x : Str} (hx : x ∈ ks) : ∀ y ∈ Ps x, y ∈ L x ∧ y ≠ x := fun y hy => by
  have lp := R.fm.lnP R.k8
  have hyk := (R.fm.ps x hx).2.2 y hy
  refine ⟨(lp.mem _ (mem_famOf hx) y).mpr (.inr ⟨y, hy, (lp.mem _ (mem_famOf hyk) y).mpr (.inl rfl)⟩), fun e => ?_⟩
  have := lp.len _ (mem_famOf hx) y hy
  rw [e] at this; exact absurd this (Nat.lt_irrefl _)
end
theorem eq_tups {H : Hp} {a b : Addr} {xs ys : List Str} {Q : VK} (ha : H a = some (.tup (xs.map V.str))) (hb : H b = some (.tup (ys.map V.str))) (h1 : ∀ x ∈ xs, Nm x) (h2 : ∀ x ∈ ys, Nm x) (q : Q (.bl (decide (xs = ys))) H) : rEqD (.ref a) (.ref b) H Q := by
  refine ⟨.tuple (xs.map PyData.str), .tuple (ys.map PyData.str), .tup ha (strs_rep _ xs), .tup hb (strs_rep _ ys), strs_lay h1, strs_lay h2, by show PyData.depthAll _ + 1 ≤ 60; rw [strs_depth]; decide, ?_⟩
  rw [show PyData.eqv (.tuple (xs.map PyData.str)) (.tuple (ys.map PyData.str)) = decide (xs = ys) from strs_eqv xs ys]
  exact q
section
variable {P : Program} {w : World} {K : Frag} {mg : Str → Option Value} {base : Heap} {f : Addr} {fd : FuncData}
/-! ### _law_one_parent -/
@[irreducible] def spOp : Sp := fun vs H Q _ => ∃ (ks : List Str) (t d : Addr) (o o2 : Obj) (ws : List V) (kvs : List (Key × V)) (L Ps : Str → List Str) (fam : List (Str × List Str)) (k : Str) (l : Addr), vs = [.ref t, .str k, .ref l] ∧ FamAll H ks t d o o2 ws kvs L Ps fam ∧ k ∈ ks ∧ H l = some (.lst ((Ps k).map V.str)) ∧ ∀ H', Same H H' → Q (.bl true) H'
theorem op_sp {ks : List Str} {t d : Addr} {o o2 : Obj} {ws : List V} {kvs : List (Key × V)} {L Ps : Str → List Str} {fam : List (Str × List Str)} {k : Str} {l : Addr} {H : Hp} {Q : VK} {E : XK} (A : FamAll H ks t d o o2 ws kvs L Ps fam) (hk : k ∈ ks) (hl : H l = some (.lst ((Ps k).map V.str))) (q : ∀ H', Same H H' → Q (.bl true) H') : spOp [.ref t, .str k, .ref l] H Q E := by
  unfold spOp; exact ⟨ks, t, d, o, o2, ws, kvs, L, Ps, fam, k, l, rfl, A, hk, hl, q⟩
abbrev nOp : List Str := ["_law_family_here", "_law_kind", "_law_own", "_law_found"]
theorem scOp : FnScope nOp ["_law_family_here", "_law_kind", "_law_own"] (defScope sOneP) := ⟨rfl, rfl, rfl, by decide +kernel, rfl, by decide +kernel, by decide +kernel⟩
theorem ok_op {fO fW : Addr} {dO dW : FuncData} (F : Fun K "_law_one_parent" "_law_one_parent" sOneP f fd) (B : Blt mg)
    (GO : FnOk P w K mg base CX0 6 fO dO ["family", "kind"] spLineOf) (kO : keepIn K (.ref fO) = true) (bO : Binds K dO ["family", "kind"] []) (mO : mg "line_of" = some (.ref fO))
    (GW : FnOk P w K mg base CX0 1 fW dW ["_law_found"] spRow) (kW : keepIn K (.ref fW) = true) (bW : Binds K dW ["_law_found"] []) (mW : mg "_law_is_row" = some (.ref fW)) : FnOk P w K mg base CX0 7 f fd ["_law_family_here", "_law_kind", "_law_own"] spOp := by
  refine F.ok scOp (fun vs H Q E h => ?_) (fun cdv A outer s H vs Q E hr h => ?_)
  · unfold spOp at h; obtain ⟨ks, t, d, o, o2, ws, kvs, L, Ps, fam, k, l, rfl, _⟩ := h; rfl
  · unfold spOp at h
    obtain ⟨ks, t, d, o, o2, ws, kvs, L, Ps, fam, k, l, rfl, R, hk, hl, q⟩ := h
    have hu := hr.units
    have hr6 : Room 6 _ := hr
    have hr1 : Room 1 _ := hr6.mono (by decide)
    refine ⟨_, pss_cons (ps_set (i := 3) scOp.nd rfl (Or.inl rfl) (pe_call GO hr6 rfl mO kO bO .nil pass0 (pa_cons (pv 0) (pa_cons (pv 1) pa_nil))))
      (pss_cons (ps_if (pt_not (pt_val (pe_call GW hr1 rfl mW kW bW .nil pass0 (pa_cons (pv 3) pa_nil)))) (pss_one (ps_ret pe_bl)) pss_nil)
      (pss_cons (ps_if (pt_cmpR (op_eqD hu) (pv 2) (pe_lst pa_nil) (nomark _)) (pss_one (ps_ret (pe_cmpR (op_eqD hu) (pv 3) (pe_tup (pa_cons (pv 1) pa_nil)) (nomark _)))) pss_nil)
      (pss_one (ps_ret (pe_or (pe_cmpR op_gt (pe_callB call_len_seq rfl B.len boot_len (pa_cons (pv 2) pa_nil)) pe_int (nomark _))
        (pe_one (pe_cmpR (op_eqD hu) (pv 3) (pe_op op_catA (pe_tup (pa_cons (pv 1) pa_nil)) (pe_call GO hr6 rfl mO kO bO .nil pass0 (pa_cons (pv 0) (pa_cons (pe_ix ix_list (pv 2) pe_int (fun _ _ => rfl)) pa_nil)))) (nomark _)))))))), ?_⟩
    refine ⟨_, rfl, _, rfl, lineOf_sp R.ht R.od R.fv R.fok (R.kin hk) fun lp H1 S1 h1 => ?_⟩
    have l8 := R.ln8 hk
    refine ⟨_, rfl, row_sp h1 (by omega) fun H2 S12 => ⟨true, rfl, ?_⟩⟩
    have S2 := S1.trans S12
    refine ⟨_, rfl, Nat.zero_le _, fun e0 he0 => ?_⟩
    have T0 := same_new (o := .lst []) he0
    have S3 := S2.trans T0
    have h3 := T0 _ _ (S12 _ _ h1)
    have he : upd H2 e0 (.lst []) e0 = some (.lst []) := upd_same
    clear T0
    generalize upd H2 e0 (.lst []) = H3 at S3 h3 he ⊢
    refine eq_nil (S3 _ _ hl) he (R.nmP hk) ⟨_, rfl, ?_⟩
    refine ite2 (fun hE => ?_) (fun hE => ?_)
    · have hP : Ps k = [] := by simpa using hE
      refine ⟨_, rfl, _, rfl, by show 1 ≤ sizeLine; rw [sizeLine_eq]; decide, fun tp htp => ?_⟩
      have T1 := same_new (o := .tup [V.str k]) htp
      refine eq_tups (xs := L k) (ys := [k]) (T1 _ _ h3) upd_same (R.nmL hk) (fun x hx => by rw [List.mem_singleton.mp hx]; exact R.nm k hk) ?_
      rw [decide_eq_true (R.fm.line0 hk hP)]
      exact q _ (S3.trans T1)
    · have hP : Ps k ≠ [] := fun z => hE (by simp [z])
      refine ⟨_, rfl, l, _, rfl, .inl (SqL.of (S3 _ _ hl)), _, _, rfl, rfl, _, rfl, ?_⟩
      rw [List.length_map]
      refine ite2 (fun hc => q _ S3) (fun hc => ?_)
      have hlen : (Ps k).length = 1 := by
        have h0 : 0 < (Ps k).length := List.length_pos_iff.mpr hP
        have h1 : ¬ (1 : Int) < ((Ps k).length : Int) := by simpa using hc
        omega
      obtain ⟨p, hp⟩ := List.length_eq_one_iff.mp hlen
      have hpk : p ∈ ks := (R.fm.ps k hk).2.2 p (by rw [hp]; exact List.mem_cons_self)
      refine ⟨_, rfl, _, rfl, by show 1 ≤ sizeLine; rw [sizeLine_eq]; decide, fun tp htp => ?_⟩
      have T1 := same_new (o := .tup [V.str k]) htp
      have S4 := S3.trans T1
      have R4 := R.same S4
      have htp4 : upd H3 tp (.tup [V.str k]) tp = some (.tup [V.str k]) := upd_same
      have h4 := T1 _ _ h3
      clear T1
      generalize upd H3 tp (.tup [V.str k]) = H4 at S4 R4 htp4 h4 ⊢
      refine ⟨_, rfl, _, rfl, l, _, 0, .str p, rfl, rfl, SqL.of (S4 _ _ hl), (by rw [hp]; exact atI_nat (j := 0) rfl), lineOf_sp R4.ht R4.od R4.fv R4.fok (R4.kin hpk) fun l2 H5 S5 h5 => ?_⟩
      have p8 := R.ln8 hpk
      refine ⟨tp, l2, [V.str k], _, rfl, rfl, S5 _ _ htp4, h5, by rw [List.length_map, sizeLine_eq]; show 1 + _ ≤ _; omega, fun c H6 S6 h6 => ?_⟩
      have nmk : ∀ y ∈ k :: L p, Nm y := fun y hy => by
        rcases List.mem_cons.mp hy with z | z
        · rw [z]; exact R.nm k hk
        · exact R.nmL hpk y z
      refine eq_tups (xs := L k) (ys := k :: L p) (S6 _ _ (S5 _ _ h4)) h6 (R.nmL hk) nmk ?_
      rw [decide_eq_true (R.fm.line1 hk hp)]
      exact q _ (S4.trans (S5.trans S6))
/-! ### _law_named_last -/
@[irreducible] def spNl : Sp := fun vs H Q _ => ∃ (ks : List Str) (t d : Addr) (o o2 : Obj) (ws : List V) (kvs : List (Key × V)) (L Ps : Str → List Str) (fam : List (Str × List Str)) (k : Str) (n : Int), vs = [.ref t, .ref d, .str k, .int n] ∧ FamAll H ks t d o o2 ws kvs L Ps fam ∧ k ∈ ks ∧ ∀ H', Same H H' → Q (.bl true) H'
theorem nl_sp {ks : List Str} {t d : Addr} {o o2 : Obj} {ws : List V} {kvs : List (Key × V)} {L Ps : Str → List Str} {fam : List (Str × List Str)} {k : Str} {n : Int} {H : Hp} {Q : VK} {E : XK} (A : FamAll H ks t d o o2 ws kvs L Ps fam) (hk : k ∈ ks) (q : ∀ H', Same H H' → Q (.bl true) H') : spNl [.ref t, .ref d, .str k, .int n] H Q E := by
  unfold spNl; exact ⟨ks, t, d, o, o2, ws, kvs, L, Ps, fam, k, n, rfl, A, hk, q⟩
abbrev nNl : List Str := ["_law_family_here", "_law_parents_here", "_law_kind", "_law_number", "_law_found", "_law_some", "_law_other"]
theorem scNl : FnScope nNl ["_law_family_here", "_law_parents_here", "_law_kind", "_law_number"] (defScope sLast) := ⟨rfl, rfl, rfl, by decide +kernel, rfl, by decide +kernel, by decide +kernel⟩
abbrev eNl : Expr := arg0 (retV (bodyAt (defBody sLast) 4))
theorem csNl : CompScope nNl (defScope sLast) ["_law_one", "_law_other", "_law_family_here"] [none, some 6, some 0] (compSc eNl) := ⟨rfl, by decide +kernel, by decide +kernel, rfl, fv_of (by decide +kernel), by decide +kernel⟩
theorem ok_nl {fO fB fC : Addr} {dO dB dC : FuncData} (F : Fun K "_law_named_last" "_law_named_last" sLast f fd) (B : Blt mg)
    (GO : FnOk P w K mg base CX0 6 fO dO ["family", "kind"] spLineOf) (kO : keepIn K (.ref fO) = true) (bO : Binds K dO ["family", "kind"] []) (mO : mg "line_of" = some (.ref fO))
    (GB : FnOk P w K mg base CX0 1 fB dB ["_law_found", "_law_own"] spBa) (kB : keepIn K (.ref fB) = true) (bB : Binds K dB ["_law_found", "_law_own"] []) (mB : mg "_law_behind_all" = some (.ref fB))
    (GC : FnOk P w K mg base CX0 7 fC dC ["family", "kind", "parents"] spKc) (kC : keepIn K (.ref fC) = true) (bC : Binds K dC ["family", "kind", "parents"] []) (mC : mg "kind_changed" = some (.ref fC)) : FnOk P w K mg base CX0 8 f fd ["_law_family_here", "_law_parents_here", "_law_kind", "_law_number"] spNl := by
  refine F.ok scNl (fun vs H Q E h => ?_) (fun cdv A outer s H vs Q E hr h => ?_)
  · unfold spNl at h; obtain ⟨ks, t, d, o, o2, ws, kvs, L, Ps, fam, k, n, rfl, _⟩ := h; rfl
  · unfold spNl at h
    obtain ⟨ks, t, d, o, o2, ws, kvs, L, Ps, fam, k, n, rfl, R, hk, q⟩ := h
    have hu := hr.units
    have hu1 := Nat.lt_of_le_of_lt (Nat.add_le_add_left (show 1 ≤ 64 by decide) _) hu
    have hr7 : Room 7 _ := hr
    have hr6 : Room 6 _ := hr7.mono (by decide)
    have hr1 : Room 1 _ := hr6.mono (by decide)
    refine ⟨_, pss_cons (ps_set (i := 4) scNl.nd rfl (Or.inl rfl) (pe_call GO hr6 rfl mO kO bO .nil pass0 (pa_cons (pv 0) (pa_cons (pv 2) pa_nil))))
      (pss_cons (ps_set (i := 5) scNl.nd rfl (Or.inl rfl) (pe_call GB hr1 rfl mB kB bB .nil pass0 (pa_cons (pv 4) (pa_cons (pe_dget hu1 (pv 1) (pv 2) (fun _ _ => rfl)) pa_nil))))
      (pss_cons (ps_if (PW.pt (pw_or (pt_cmpR (op_eqD hu) (pe_dget hu1 (pv 1) (pv 2) (fun _ _ => rfl)) (pe_lst pa_nil) (nomark _)) (pw_or (pt_cmpR (op_eqD hu) (pv 5) (pe_lst pa_nil) (nomark _)) (pw_or1 (pt_cmpR op_gt (pe_callB call_len_seq rfl B.len boot_len (pa_cons (pe_dget hu1 (pv 1) (pv 2) (fun _ _ => rfl)) pa_nil)) pe_int (nomark _)))))) (pss_one (ps_ret pe_bl)) pss_nil)
      (pss_cons (ps_set (i := 6) scNl.nd rfl (Or.inr rfl) (pe_call GC hr7 rfl mC kC bC .nil pass0 (pa_cons (pv 0) (pa_cons (pv 2) (pa_cons (pe_callTy call_tuple_of rfl B.tuple boot_tuple (pa_cons (pe_op op_cat (pe_dget hu1 (pv 1) (pv 2) (fun _ _ => rfl)) (pe_lst (pa_cons (pe_ix ix_list (pv 5) (pe_op op_mod (pv 3) (pe_callB call_len_seq rfl B.len boot_len (pa_cons (pv 5) pa_nil))) (fun _ _ => rfl)) pa_nil))) pa_nil)) pa_nil)))))
      (pss_one (ps_ret (pe_callB (call_allB rfl) rfl B.all boot_all (pa_cons (pe_comp rfl csNl (pi_dict (pv 1)) (fun s H fp => ⟨pg_name (i := 0) csNl.nd rfl (Or.inl rfl), pifs_nil, pe_cmpR (op_eqD hu) (pe_call GO hr6 rfl mO kO bO .nil pass0 (pa_cons (pv 1) (pa_cons (pv 0) pa_nil))) (pe_call GO hr6 rfl mO kO bO .nil pass0 (pa_cons (pv 2) (pa_cons (pv 0) pa_nil))) (nomark _)⟩)) pa_nil))))))), ?_⟩
    have l8 := R.ln8 hk
    have p4 := (R.fm.ps k hk).2.1
    refine ⟨_, rfl, _, rfl, lineOf_sp R.ht R.od R.fv R.fok (R.kin hk) fun lp H1 S1 h1 => ?_⟩
    have R1 := R.same S1
    obtain ⟨pl, dg1, hp1⟩ := R1.get hk
    refine ⟨_, rfl, _, rfl, _, rfl, d, .ref pl, rfl, dg1, ba_sp h1 hp1 (R.fm.ld k hk).1 (fun y hy => (R.sub hk y hy).1) (by omega) (by omega) fun r rs H2 hr2 S2 h2 SP hrs => ?_⟩
    have S2 := S1.trans S2
    have R2 := R.same S2
    obtain ⟨pl2, dg2, hp2⟩ := R2.get hk
    have nmr : ∀ y ∈ rs, Nm y := fun y hy => R.nmL hk y (SP.mem y hy).1
    refine ⟨_, rfl, _, rfl, d, .ref pl2, rfl, dg2, Nat.zero_le _, fun e0 he0 => ?_⟩
    have T0 := same_new (o := .lst []) he0
    have S3 := S2.trans T0
    have R3 := R2.same T0
    have h3 := T0 _ _ h2
    have hp3 := T0 _ _ hp2
    have he : upd H2 e0 (.lst []) e0 = some (.lst []) := upd_same
    clear T0
    generalize upd H2 e0 (.lst []) = H3 at S3 h3 he R3 hp3 ⊢
    refine eq_nil hp3 he (R.nmP hk) ⟨_, rfl, ?_⟩
    refine ite2 (fun hE => q _ S3) (fun hE => ?_)
    have hP : Ps k ≠ [] := fun z => hE (by simp [z])
    refine ⟨_, rfl, Nat.zero_le _, fun e1 he1 => ?_⟩
    have T1 := same_new (o := .lst []) he1
    have S4 := S3.trans T1
    have R4 := R3.same T1
    have h4 := T1 _ _ h3
    have he' : upd H3 e1 (.lst []) e1 = some (.lst []) := upd_same
    clear T1
    generalize upd H3 e1 (.lst []) = H4 at S4 h4 he' R4 ⊢
    refine eq_nil h4 he' nmr ⟨_, rfl, ?_⟩
    refine ite2 (fun hE => q _ S4) (fun hE2 => ?_)
    have hrs0 : rs ≠ [] := fun z => hE2 (by simp [z])
    obtain ⟨pl4, dg4, hp4⟩ := R4.get hk
    refine ⟨_, rfl, _, rfl, d, .ref pl4, rfl, dg4, pl4, _, rfl, .inl (SqL.of hp4), _, _, rfl, rfl, _, rfl, ?_⟩
    rw [List.length_map]
    refine ite2 (fun hc => q _ S4) (fun hc => ?_)
    have h3' : (Ps k).length ≤ 3 := by
      have h1 : ¬ (3 : Int) < ((Ps k).length : Int) := by simpa using hc
      omega
    have hrl : 0 < rs.length := List.length_pos_iff.mpr hrs0
    obtain ⟨m, em⟩ := Int.eq_ofNat_of_zero_le (Int.emod_nonneg n (show (rs.length : Int) ≠ 0 by omega))
    have hml : m < rs.length := by
      have := Int.emod_lt_of_pos n (show (0 : Int) < (rs.length : Int) by omega)
      rw [em] at this; omega
    obtain ⟨z, hz⟩ : ∃ z, rs[m] = z := ⟨_, rfl⟩
    have hzm : z ∈ rs := hz ▸ List.getElem_mem hml
    obtain ⟨z1, z2, z3⟩ := SP.mem z hzm
    obtain ⟨ok', hmk', hLk⟩ := R.fm.ln k hk
    have zk : z ≠ k := SP.hd z hzm k ok' hLk
    have F' := R.fm.changed R.k8 hk hP h3' z1 z2 zk z3
    have pm' := changed_perm (q := Ps k ++ [z]) R.pm R.nd hk
    have fok' := (F'.famOk R.nd R.nm R.k8).perm pm'
    refine ⟨_, rfl, _, rfl, _, rfl, _, rfl, d, .ref pl4, rfl, dg4, _, rfl, _, rfl, _, rfl, r, _, rfl, .inl (SqL.of h4), n, (rs.length : Int), rfl, by rw [List.length_map], by omega, r, _, (m : Int), .str z, rfl, (congrArg V.int em : V.int (n % (rs.length : Int)) = V.int (m : Int)), SqL.of h4, atI_nat (by rw [List.getElem?_map, List.getElem?_eq_getElem hml, hz]; rfl), by show 1 ≤ sizeLine; rw [sizeLine_eq]; decide, fun c1 hc1 => ?_⟩
    have T5 := same_new (o := .lst [V.str z]) hc1
    have S5 := S4.trans T5
    have h5 : upd H4 c1 (.lst [V.str z]) c1 = some (.lst [V.str z]) := upd_same
    have hp5 := T5 _ _ hp4
    clear T5
    generalize upd H4 c1 (.lst [V.str z]) = H5 at S5 h5 hp5 ⊢
    refine ⟨pl4, c1, _, _, rfl, rfl, hp5, h5, by rw [List.length_map, sizeLine_eq]; show _ + 1 ≤ _; omega, fun c2 hc2 => ?_⟩
    have S6 := S5.trans (same_new (o := .lst ((Ps k).map V.str ++ [V.str z])) hc2)
    refine ⟨c2, _, rfl, .inl ⟨SqL.of upd_same, fun pa hpa => ?_⟩⟩
    have S7 := S6.trans (same_new (o := .tup ((Ps k).map V.str ++ [V.str z])) hpa)
    have e7 : (Ps k).map V.str ++ [V.str z] = (Ps k ++ [z]).map V.str := by rw [List.map_append]; rfl
    have h7 : upd (upd H5 c2 (.lst ((Ps k).map V.str ++ [V.str z]))) pa (.tup ((Ps k).map V.str ++ [V.str z])) pa = some (.tup ((Ps k ++ [z]).map V.str)) := by rw [upd_same, e7]
    generalize upd (upd H5 c2 (.lst ((Ps k).map V.str ++ [V.str z]))) pa (.tup ((Ps k).map V.str ++ [V.str z])) = H7 at S7 h7 ⊢
    have R7 := R.same S7
    have pf := F'.ps k hk
    rw [if_pos rfl] at pf
    have inL : ∀ x ∈ Ps k ++ [z], x ∈ L k ∧ x ≠ k := fun x hx => by
      rcases List.mem_append.mp hx with w | w
      · exact R.sub hk x w
      · rw [List.mem_singleton.mp w]; exact ⟨z1, zk⟩
    refine kc_sp R7.ht R7.od R7.fv R7.fok ((R.fm.lnP R.k8).perm R.pm) (R.kin hk) h7 pf.1 pf.2.1 (fun x hx => R.kin (pf.2.2 x hx)) (fun x hx => R.fm.noRound R.k8 hk (inL x hx).1 (inL x hx).2) fok' fun t' o' ws' fam' H8 S8 h8 ho8 F8 p8 so8 => ?_
    have S8' := S7.trans S8
    have R8 := R.same S8'
    have okN := fok'.perm p8
    have kin' : ∀ x ∈ ks, ∃ q ∈ fam', q.1 = x := fun x hx => ⟨(x, _), (p8.trans pm').mem_iff.mpr (List.mem_map.mpr ⟨x, hx, rfl⟩), rfl⟩
    have hkl := R.klen
    have k8 := R.k8
    refine ⟨_, rfl, d, kvs, rfl, .inr ⟨o2, R8.hd, fun c hc => ?_⟩⟩
    refine comp_dict (fun i ys τ H9 => ∃ t0 : Option V, τ = [t0, some (.ref t'), some (.ref t)] ∧ ys = (List.replicate i true).map V.bl ∧ Same H8 H9 ∧ H9 c = some (.lst ys)) ⟨none, rfl, rfl, same_new hc, upd_same⟩ (fun i ys τ H9 ⟨_, _, _, z, z2⟩ => ⟨z2, z _ _ R8.hd⟩) ?_ ?_
    · rintro i kv ys τ H9 hkv ⟨t0, rfl, rfl, S9, h9⟩
      have hlt : i < kvs.length := (List.getElem?_eq_some_iff.mp hkv).1
      obtain ⟨x, hxi, ek⟩ := key_at R.hk hkv
      rw [ek]
      have hx : x ∈ ks := List.mem_of_getElem? hxi
      have R9 := R8.same S9
      refine ⟨_, rfl, _, rfl, lineOf_sp (S9 _ _ h8) ho8 (F8.same S9) okN (kin' x hx) fun l1 HA SA hA => ?_⟩
      have RA := R9.same SA
      refine ⟨_, rfl, _, rfl, lineOf_sp RA.ht RA.od RA.fv RA.fok (RA.kin hx) fun l2 HB SB hB => ?_⟩
      refine eq_tups (xs := L x) (ys := L x) (SB _ _ hA) hB (R.nmL hx) (R.nmL hx) ?_
      rw [decide_eq_true rfl]
      have SC := SA.trans SB
      refine ⟨SC _ _ h9, by rw [List.length_map, List.length_replicate, sizeLine_eq]; omega, cw_next hlt ⟨_, rfl, ?_, fun b u e => ?_, upd_same⟩⟩
      · rw [List.replicate_succ', List.map_append]; rfl
      · rw [upd_ne (ne_of_none e hc)]; exact SC _ _ (S9 _ _ e)
    · rintro ys τ H9 ⟨t0, rfl, rfl, S9, h9⟩
      refine ⟨c, _, rfl, SqL.of h9, ?_⟩
      have al : (List.replicate kvs.length true).all id = true := by simp
      rw [al]
      exact q _ (S8'.trans S9)
end
end K29
namespace K29
open PySem L2 PySem.W HT
theorem call_len_seq_K {X : Cx} (K : Frag) (h : X.K = K) : CallR X (.builtin "len") (fun xs H Q => ∃ p ys, xs = [.ref p] ∧ (SqL K H p ys ∨ SqT K H p ys) ∧ Q (.int ys.length) H) := by subst h; exact call_len_seq
theorem filter_snoc {xs : List Str} {i : Nat} {x : Str} (h : xs[i]? = some x) (p : Str → Bool) : (xs.take (i + 1)).filter p = (xs.take i).filter p ++ if p x = true then [x] else [] := by
  rw [List.take_succ, h, List.filter_append]
  by_cases e : p x = true
  · rw [if_pos e]; simp [e]
  · rw [if_neg e]; simp [e]
section
variable {H H' : Hp} {ks : List Str} {t d p : Addr} {o o2 : Obj} {ws : List V} {kvs : List (Key × V)} {L Ps : Str → List Str} {fam : List (Str × List Str)}
theorem pot_ne {xs : List Str} {b : Addr} (hb : H b = some (.lst (xs.map V.str))) (pk : PotOk p H) : b ≠ p := by
  obtain ⟨x, y, e, _⟩ := pk
  refine ne_of hb e fun z => ?_
  injection z with z
  cases xs with
  | nil => cases z
  | cons a as => injection z with z1 _; cases z1
theorem FamAll.pot (R : FamAll H ks t d o o2 ws kvs L Ps fam) (pk : PotOk p H) (Pa : PotAt p H H') : FamAll H' ks t d o o2 ws kvs L Ps fam := by
  obtain ⟨x0, y0, e0, e1⟩ := id pk
  exact ⟨Pa.kp _ _ R.ht (ne_of R.ht e0 (by intro z; cases z)), R.od, R.fv.keep fun b xs e => Pa.kp _ _ e (ne_of e e0 (by intro z; cases z)), R.pm, R.fm, R.nd, R.nm, R.k8, Pa.kp _ _ R.hd (ne_of R.hd e0 (by intro z; cases z)), R.hk, fun x hx => let ⟨a, e, q⟩ := R.pl x hx; ⟨a, e, Pa.kp _ _ q (pot_ne q pk)⟩⟩
end
section
variable {P : Program} {w : World} {K : Frag} {mg : Str → Option Value} {base : Heap} {f : Addr} {fd : FuncData}
theorem pot_sp {a : Addr} {ns : List Int} {k : Int} {H : Hp} {Q : VK} {E : XK} (h : SqL K H a (ns.map V.int)) (k0 : 0 ≤ k) (k1 : k ≤ 100) (hl : ns.length ≤ 63) (q : ∀ p H', H p = none → PotOk p H' → Same H H' → Q (.ref p) H') : spPot K [.ref a, .int k] H Q E := by
  unfold spPot
  exact ⟨a, ns, k, rfl, h, k0, k1, hl, fun p x y hp x0 y0 y1 => q p _ hp ⟨x, y, upd_same, x0, y0, y1⟩ (same_new hp)⟩
theorem names_sp {p : Addr} {m : Nat} {H : Hp} {Q : VK} {E : XK} (h : PotOk p H) (hm : m ≤ 20) (q : ∀ (l : Addr) (ys : List Str) (H' : Hp), H l = none → ys.length = m → (∀ y ∈ ys, Nm y) → ys.Nodup → PotAt p H H' → H' l = some (.lst (ys.map V.str)) → Q (.ref l) H') : spNames [.ref p, .int m] H Q E := by
  unfold spNames; exact ⟨p, m, rfl, h, hm, q⟩
theorem sqL_same {H H' : Hp} {a : Addr} {xs : List V} (h : SqL K H a xs) (s : Same H H') : SqL K H' a xs := by
  rcases h with (h | ⟨o, h⟩) | h
  · exact .inl (.inl (s _ _ h))
  · exact .inl (.inr ⟨o, s _ _ h⟩)
  · exact .inr h
@[irreducible] def spLaw (K : Frag) : Sp := fun vs H Q _ => ∃ (a : Addr) (ns : List Int), vs = [.ref a] ∧ SqL K H a (ns.map V.int) ∧ ns.length ≤ 63 ∧ ∀ H', Q (.bl true) H'
abbrev nLaw : List Str := ["_law_script", "_law_k", "_law_pot_here", "_law_family_here", "_law_lines", "_law_parents_here", "_law_rich", "_law_kind"]
theorem scLaw : FnScope nLaw ["_law_script"] (defScope sLaw) := ⟨rfl, rfl, rfl, by decide +kernel, rfl, by decide +kernel, by decide +kernel⟩
abbrev bL : List Stmt := forBody (bodyAt (defBody sLaw) 0)
abbrev eL1 : Expr := arg0 (notV (ifTest (bodyAt bL 2)))
abbrev eL2 : Expr := binL (asgV (bodyAt bL 3))
theorem csL1 : CompScope nLaw (defScope sLaw) ["_law_kind", "_law_family_here", "_law_parents_here"] [none, some 3, some 5] (compSc eL1) := ⟨rfl, by decide +kernel, by decide +kernel, rfl, fv_of (by decide +kernel), by decide +kernel⟩
theorem csL2 : CompScope nLaw (defScope sLaw) ["_law_kind", "_law_parents_here"] [none, some 5] (compSc eL2) := ⟨rfl, by decide +kernel, by decide +kernel, rfl, fv_of (by decide +kernel), by decide +kernel⟩
theorem ok_law {fP fD fN fF fO fL : Addr} {dP dD dN dF dO dL : FuncData} (F : Fun K "law" "law" sLaw f fd) (B : Blt mg)
    (GP : FnOk P w K mg base CX0 1 fP dP ["_law_script", "_law_k"] (spPot K)) (kP : keepIn K (.ref fP) = true) (bP : Binds K dP ["_law_script", "_law_k"] []) (mP : mg "_law_pot" = some (.ref fP))
    (GD : FnOk P w K mg base CX0 1 fD dD ["_law_pot_here", "_law_many"] spDigit) (kD : keepIn K (.ref fD) = true) (bD : Binds K dD ["_law_pot_here", "_law_many"] []) (mD : mg "_law_digit" = some (.ref fD))
    (GN : FnOk P w K mg base CX0 3 fN dN ["_law_pot_here", "_law_many"] spNames) (kN : keepIn K (.ref fN) = true) (bN : Binds K dN ["_law_pot_here", "_law_many"] []) (mN : mg "_law_names" = some (.ref fN))
    (GF : FnOk P w K mg base CX0 3 fF dF ["_law_pot_here", "_law_kinds"] spFam) (kF : keepIn K (.ref fF) = true) (bF : Binds K dF ["_law_pot_here", "_law_kinds"] []) (mF : mg "_law_family" = some (.ref fF))
    (GO : FnOk P w K mg base CX0 7 fO dO ["_law_family_here", "_law_kind", "_law_own"] spOp) (kO : keepIn K (.ref fO) = true) (bO : Binds K dO ["_law_family_here", "_law_kind", "_law_own"] []) (mO : mg "_law_one_parent" = some (.ref fO))
    (GL : FnOk P w K mg base CX0 8 fL dL ["_law_family_here", "_law_parents_here", "_law_kind", "_law_number"] spNl) (kL : keepIn K (.ref fL) = true) (bL' : Binds K dL ["_law_family_here", "_law_parents_here", "_law_kind", "_law_number"] []) (mL : mg "_law_named_last" = some (.ref fL)) :
    FnOk P w K mg base CX0 9 f fd ["_law_script"] (spLaw K) := by
  refine F.ok scLaw (fun vs H Q E h => ?_) (fun cdv A outer s H vs Q E hr h => ?_)
  · unfold spLaw at h; obtain ⟨a, ns, rfl, _⟩ := h; rfl
  · unfold spLaw at h
    obtain ⟨a, ns, rfl, hS, hns, q⟩ := h
    have hu := hr.units
    have hu1 := Nat.lt_of_le_of_lt (Nat.add_le_add_left (show 1 ≤ 64 by decide) _) hu
    have hr8 : Room 8 _ := hr
    have hr7 : Room 7 _ := hr8.mono (by decide)
    have hr3 : Room 3 _ := hr7.mono (by decide)
    have hr1 : Room 1 _ := hr7.mono (by decide)
    refine ⟨_, pss_cons (ps_for PassesOwn.never rfl (pi_range1 rfl B.range (pa_cons (pe_callB (call_max2 rfl) rfl B.max boot_max (pa_cons pe_int (pa_cons (pe_callB (call_min2 rfl) rfl B.min boot_min (pa_cons pe_int (pa_cons (pe_callB call_len_seq rfl B.len boot_len (pa_cons (pv 0) pa_nil)) pa_nil))) pa_nil))) pa_nil)) (pg_name (i := 1) scLaw.nd rfl (Or.inl rfl))
        (pss_cons (ps_set (i := 2) scLaw.nd rfl (Or.inl rfl) (pe_call GP hr1 rfl mP kP bP .nil pass0 (pa_cons (pv 0) (pa_cons (pv 1) pa_nil))))
        (pss_cons (ps_asg (pe_call GF hr3 rfl mF kF bF .nil pass0 (pa_cons (pv 2) (pa_cons (pe_call GN hr3 rfl mN kN bN .nil pass0 (pa_cons (pv 2) (pa_cons (pe_op op_add pe_int (pe_call GD hr1 rfl mD kD bD .nil pass0 (pa_cons (pv 2) (pa_cons pe_int pa_nil)))) pa_nil))) pa_nil)))
            (pg_tup rfl (pgs_cons (pg_name (i := 3) scLaw.nd rfl (Or.inr rfl)) (pgs_cons (pg_name (i := 4) scLaw.nd rfl (Or.inl rfl)) (pgs_cons (pg_name (i := 5) scLaw.nd rfl (Or.inr rfl)) pgs_nil)))))
        (pss_cons (ps_if (pt_not (pt_val (pe_callB (call_allB rfl) rfl B.all boot_all (pa_cons (pe_comp rfl csL1 (pi_dict (pv 5)) (fun s H fp => ⟨pg_name (i := 0) csL1.nd rfl (Or.inl rfl), pifs_nil, pe_call GO hr7 rfl mO kO bO .nil pass0 (pa_cons (pv 1) (pa_cons (pv 0) (pa_cons (pe_dget hu1 (pv 2) (pv 0) (fun _ _ => rfl)) pa_nil)))⟩)) pa_nil)))) (pss_one (ps_ret pe_bl)) pss_nil)
        (pss_cons (ps_set (i := 6) scLaw.nd rfl (Or.inl rfl) (pe_op op_cat (pe_comp rfl csL2 (pi_dict (pv 5)) (fun s H fp => ⟨pg_name (i := 0) csL2.nd rfl (Or.inl rfl), pifs_one (pt_chain op_lt op_lt pe_int (pe_callB (call_len_seq_K K rfl) rfl B.len boot_len (pa_cons (pe_dget hu1 (pv 1) (pv 0) (fun _ _ => rfl)) pa_nil)) pe_int), pv 0⟩)) (pe_lst (pa_cons (pe_ix ix_list (pe_callTy (call_listDR rfl) rfl B.list boot_list (pa_cons (pv 5) pa_nil)) pe_int (fun _ _ => rfl)) pa_nil))))
        (pss_cons (ps_set (i := 7) scLaw.nd rfl (Or.inl rfl) (pe_ix ix_list (pv 6) (pe_call GD hr1 rfl mD kD bD .nil pass0 (pa_cons (pv 2) (pa_cons (pe_callB call_len_seq rfl B.len boot_len (pa_cons (pv 6) pa_nil)) pa_nil))) (fun _ _ => rfl)))
        (pss_one (ps_if (pt_not (pt_val (pe_call GL hr8 rfl mL kL bL' .nil pass0 (pa_cons (pv 3) (pa_cons (pv 5) (pa_cons (pv 7) (pa_cons (pe_call GD hr1 rfl mD kD bD .nil pass0 (pa_cons (pv 2) (pa_cons pe_int pa_nil))) pa_nil))))))) (pss_one (ps_ret pe_bl)) pss_nil))))))))
      (pss_one (ps_ret pe_bl)), ?_⟩
    refine ⟨_, rfl, a, _, rfl, .inl hS, _, _, rfl, _, _, rfl, _, rfl, ?_, ?_, for_range (fun i σ H1 => ∃ v1 v2 v3 v4 v5 v6 v7 : Option V, σ = [some (.ref a), v1, v2, v3, v4, v5, v6, v7] ∧ Same H H1) ⟨none, none, none, none, none, none, none, rfl, Same.refl _⟩ ?_ ?_⟩
    · split <;> (try split) <;> omega
    · split <;> (try split) <;> omega
    · rintro io σ H1 hi ⟨v1, v2, v3, v4, v5, v6, v7, rfl, S1⟩
      have hi4 : io < 4 := by
        refine Nat.lt_of_lt_of_le hi ?_
        split <;> (try split) <;> omega
      refine ⟨_, rfl, _, rfl, pot_sp (sqL_same hS S1) (by omega) (by omega) hns fun p H2 hp pk S2 => ?_⟩
      refine ⟨_, rfl, _, rfl, _, rfl, digit_sp (p := p) (m := 8) pk (by decide) (by decide) fun dg H3 a0 a1 p3 => ?_⟩
      obtain ⟨dn, rfl⟩ := Int.eq_ofNat_of_zero_le a0
      refine ⟨1, (dn : Int), rfl, rfl, ?_⟩
      refine names_sp (m := 1 + dn) p3.ok (by omega) fun kl ks H4 hkl hkn knm knd p4 h4 => ?_
      refine fam_sp p4.ok h4 knd knm (by omega) fun r t d1 d2 o ws kvs2 L Ps fam H5 R => ?_
      have ks8 : ks.length ≤ 8 := by omega
      have ks0 : 0 < ks.length := by omega
      have P5 : PotAt p H2 H5 := p3.trans (p4.trans R.pa)
      have S5 : Same H1 H5 := fun b u e => P5.kp b u (S2 b u e) (ne_of_none e hp)
      have hd2n : H1 d2 = none := S2.free (p3.free (p4.free R.n2))
      refine ⟨r, _, rfl, SqT.of R.hr, rfl, _, _, rfl, _, _, rfl, _, _, rfl, rfl, ?_⟩
      refine ⟨_, rfl, d2, kvs2, rfl, .inl ⟨R.hd, fun o2 => ?_⟩⟩
      have kp0 : ∀ b u, b ≠ d2 → H5 b = some u → upd H5 d2 (.frz o2 (.dK kvs2)) b = some u := fun b u n e => by rw [upd_ne n]; exact e
      have tne : ∀ {b : Addr} {xs : List V}, H5 b = some (.tup xs) → b ≠ d2 := fun e => ne_of e R.hd (by intro z; cases z)
      have lne : ∀ {b : Addr} {xs : List V}, H5 b = some (.lst xs) → b ≠ d2 := fun e => ne_of e R.hd (by intro z; cases z)
      have A0 : FamAll (upd H5 d2 (.frz o2 (.dK kvs2))) ks t d2 o o2 ws kvs2 L Ps fam := ⟨kp0 _ _ (ne_of R.ht R.hd (by intro z; cases z)) R.ht, R.od, R.fv.keep fun b xs e => kp0 _ _ (tne e) e, R.pm, R.fm, knd, knm, ks8, upd_same, R.hk, fun x hx => let ⟨b, e1, e2⟩ := R.pl x hx; ⟨b, e1, kp0 _ _ (lne e2) e2⟩⟩
      have S0 : Same H1 (upd H5 d2 (.frz o2 (.dK kvs2))) := fun b u e => kp0 b u (ne_of_none e hd2n) (S5 b u e)
      have pk0 : PotOk p (upd H5 d2 (.frz o2 (.dK kvs2))) := let ⟨x, y, e, z⟩ := P5.ok; ⟨x, y, kp0 _ _ (lne e) e, z⟩
      generalize upd H5 d2 (.frz o2 (.dK kvs2)) = H0 at A0 S0 pk0 ⊢
      clear kp0 tne lne R P5 S5
      have lk2 := A0.klen
      refine fun c hc => ?_
      refine comp_dict (fun i ys τ H6 => ∃ t0 : Option V, τ = [t0, some (.ref t), some (.ref d2)] ∧ ys = (List.replicate i true).map V.bl ∧ Same H0 H6 ∧ H6 c = some (.lst ys)) ⟨none, rfl, rfl, same_new hc, upd_same⟩ (fun i ys τ H6 ⟨_, _, _, z, z2⟩ => ⟨z2, z _ _ A0.hd⟩) ?_ ?_
      · rintro i kv ys τ H6 hkv ⟨t0, rfl, rfl, S6, h6⟩
        have hlt : i < kvs2.length := (List.getElem?_eq_some_iff.mp hkv).1
        obtain ⟨x, hxi, ek⟩ := key_at A0.hk hkv
        rw [ek]
        have hx : x ∈ ks := List.mem_of_getElem? hxi
        have A6 := A0.same S6
        obtain ⟨b, dgb, hb⟩ := A6.get hx
        refine ⟨_, rfl, _, rfl, _, rfl, _, rfl, d2, .ref b, rfl, dgb, op_sp A6 hx hb fun H7 S7 => ⟨S7 _ _ h6, by rw [List.length_map, List.length_replicate, sizeLine_eq]; omega, cw_next hlt ⟨_, rfl, ?_, fun b u e => ?_, upd_same⟩⟩⟩
        · rw [List.replicate_succ', List.map_append]; rfl
        · rw [upd_ne (ne_of_none e hc)]; exact S7 _ _ (S6 _ _ e)
      rintro ys τ H6 ⟨t0, rfl, rfl, S6, h6⟩
      refine ⟨c, _, rfl, SqL.of h6, _, rfl, ?_⟩
      have al : (List.replicate kvs2.length true).all id = true := by simp
      rw [al]
      have A6 := A0.same S6
      refine ⟨_, rfl, d2, kvs2, rfl, .inr ⟨o2, A6.hd, fun c2 hc2 => ?_⟩⟩
      have nd2 : d2 ≠ c2 := ne_of_none A6.hd hc2
      refine comp_dict (fun i ys τ H7 => ∃ t0 : Option V, τ = [t0, some (.ref d2)] ∧ ys = ((ks.take i).filter fun x => decide (0 < (Ps x).length) && decide ((Ps x).length < 4)).map V.str ∧ H7 = upd H6 c2 (.lst ys)) ⟨none, rfl, rfl, rfl⟩ (fun i ys τ H7 ⟨_, _, _, z⟩ => by rw [z]; exact ⟨upd_same, by rw [upd_ne nd2]; exact A6.hd⟩) ?_ ?_
      · rintro i kv ys τ H7 hkv ⟨t0, rfl, rfl, rfl⟩
        have hlt : i < kvs2.length := (List.getElem?_eq_some_iff.mp hkv).1
        obtain ⟨x, hxi, ek⟩ := key_at A0.hk hkv
        rw [ek]
        have hx : x ∈ ks := List.mem_of_getElem? hxi
        obtain ⟨b, dgb, hb⟩ := (A6.same (same_new (o := .lst (((ks.take i).filter fun x => decide (0 < (Ps x).length) && decide ((Ps x).length < 4)).map V.str)) hc2)).get hx
        have ef := filter_snoc hxi fun x => decide (0 < (Ps x).length) && decide ((Ps x).length < 4)
        have hfl := List.length_filter_le (fun x => decide (0 < (Ps x).length) && decide ((Ps x).length < 4)) (ks.take i)
        rw [List.length_take] at hfl
        refine ⟨_, rfl, _, rfl, d2, .ref b, rfl, dgb, b, _, rfl, .inl (SqL.of hb), _, _, rfl, rfl, _, rfl, ?_⟩
        rw [List.length_map]
        refine ite2 (fun h1 => ?_) (fun h1 => ?_)
        · have h1' : 0 < (Ps x).length := by have := of_decide_eq_true h1; omega
          refine ⟨_, _, rfl, rfl, _, rfl, ?_⟩
          refine ite2 (fun h2 => ?_) (fun h2 => ?_)
          · have h2' : (Ps x).length < 4 := by have := of_decide_eq_true h2; omega
            refine ⟨_, rfl, upd_same, by rw [List.length_map, sizeLine_eq]; omega, cw_next hlt ⟨_, rfl, ?_, by rw [upd_upd]⟩⟩
            rw [ef, if_pos (by simp [h1', h2']), List.map_append]; rfl
          · have h2' : ¬ (Ps x).length < 4 := fun z => h2 (decide_eq_true (by omega))
            refine cw_next hlt ⟨_, rfl, ?_, rfl⟩
            rw [ef, if_neg (by simp [h2']), List.append_nil]
        · have h1' : ¬ 0 < (Ps x).length := fun z => h1 (decide_eq_true (by omega))
          refine ⟨_, rfl, ?_⟩
          refine cw_next hlt ⟨_, rfl, ?_, rfl⟩
          rw [ef, if_neg (by simp [h1']), List.append_nil]
      rintro ys τ H7 ⟨t0, rfl, rfl, rfl⟩
      rw [lk2, List.take_length]
      obtain ⟨rich, hrich⟩ : ∃ rich, (ks.filter fun x => decide (0 < (Ps x).length) && decide ((Ps x).length < 4)) = rich := ⟨_, rfl⟩
      have rsub : ∀ y ∈ rich, y ∈ ks := fun y hy => by rw [← hrich] at hy; exact (List.mem_filter.mp hy).1
      have rlen : rich.length ≤ 8 := by have := List.length_filter_le (fun x => decide (0 < (Ps x).length) && decide ((Ps x).length < 4)) ks; rw [hrich] at this; omega
      rw [hrich]
      have T7 := same_new (o := .lst (rich.map V.str)) hc2
      have S7 := S6.trans T7
      have hc7 : upd H6 c2 (.lst (rich.map V.str)) c2 = some (.lst (rich.map V.str)) := upd_same
      clear T7
      generalize upd H6 c2 (.lst (rich.map V.str)) = H7 at S7 hc7 ⊢
      have A7 := A0.same S7
      obtain ⟨k0, hk0⟩ : ∃ k0, ks[0]? = some k0 := ⟨_, List.getElem?_eq_getElem ks0⟩
      have hk0m : k0 ∈ ks := List.mem_of_getElem? hk0
      have keys : (kvs2.map fun kv => kV kv.1) = ks.map V.str := by
        have : (kvs2.map fun kv => kV kv.1) = (kvs2.map (·.1)).map kV := by rw [List.map_map]; rfl
        rw [this, A0.hk, List.map_map]; rfl
      refine ⟨_, rfl, d2, kvs2, rfl, .inr ⟨o2, A7.hd⟩, fun l0 hl0 => ?_⟩
      rw [keys]
      have T8 := same_new (o := .lst (ks.map V.str)) hl0
      refine ⟨l0, _, 0, .str k0, rfl, rfl, SqL.of upd_same, atI_nat (j := 0) (by rw [List.getElem?_map, hk0]; rfl), by show 1 ≤ sizeLine; rw [sizeLine_eq]; decide, fun l1 hl1 => ?_⟩
      have T9 := T8.trans (same_new (o := .lst [V.str k0]) hl1)
      have S9 := S7.trans T9
      have hc9 := T9 _ _ hc7
      have hl19 : upd (upd H7 l0 (.lst (ks.map V.str))) l1 (.lst [V.str k0]) l1 = some (.lst [V.str k0]) := upd_same
      clear T8 T9
      generalize upd (upd H7 l0 (.lst (ks.map V.str))) l1 (.lst [V.str k0]) = H9 at S9 hc9 hl19 ⊢
      refine ⟨c2, l1, _, _, rfl, rfl, hc9, hl19, by rw [List.length_map, sizeLine_eq]; show _ + 1 ≤ _; omega, fun l2 hl2 => ?_⟩
      have er : rich.map V.str ++ [V.str k0] = (rich ++ [k0]).map V.str := by rw [List.map_append]; rfl
      rw [er]
      have S10 := S9.trans (same_new (o := .lst ((rich ++ [k0]).map V.str)) hl2)
      have h10 : upd H9 l2 (.lst ((rich ++ [k0]).map V.str)) l2 = some (.lst ((rich ++ [k0]).map V.str)) := upd_same
      generalize upd H9 l2 (.lst ((rich ++ [k0]).map V.str)) = H10 at S10 h10 ⊢
      have rsub2 : ∀ y ∈ rich ++ [k0], y ∈ ks := fun y hy => by
        rcases List.mem_append.mp hy with z | z
        · exact rsub y z
        · rw [List.mem_singleton.mp z]; exact hk0m
      have rlen2 : (rich ++ [k0]).length = rich.length + 1 := by rw [List.length_append, List.length_singleton]
      generalize rich ++ [k0] = rs at h10 rsub2 rlen2 ⊢
      have A10 := A0.same S10
      have pk10 : PotOk p H10 := let ⟨x, y, e, z⟩ := pk0; ⟨x, y, S10 _ _ e, z⟩
      refine ⟨_, rfl, _, rfl, _, rfl, l2, _, rfl, .inl (SqL.of h10), ?_⟩
      rw [List.length_map]
      refine digit_sp (p := p) (m := (rs.length : Int)) pk10 (by omega) (by omega) fun dg2 H11 b0 b1 p11 => ?_
      obtain ⟨en, rfl⟩ := Int.eq_ofNat_of_zero_le b0
      have henl : en < rs.length := by omega
      have h11 : H11 l2 = some (.lst (rs.map V.str)) := p11.kp _ _ h10 (pot_ne h10 pk10)
      have A11 := A10.pot pk10 p11
      refine ⟨l2, _, (en : Int), .str rs[en], rfl, rfl, SqL.of h11, atI_nat (by rw [List.getElem?_map, List.getElem?_eq_getElem henl]; rfl), ?_⟩
      refine ⟨_, rfl, _, rfl, _, rfl, _, rfl, digit_sp (p := p) (m := 7) p11.ok (by decide) (by decide) fun dg3 H12 f0 f1 p12 => ?_⟩
      have A12 := A11.pot p11.ok p12
      refine nl_sp A12 (rsub2 _ (List.getElem_mem henl)) fun H13 S13 => ⟨true, rfl, ?_⟩
      have SS : Same H1 H13 := fun b u e => by
        have n : b ≠ p := ne_of_none e hp
        exact S13 _ _ (p12.kp _ _ (p11.kp _ _ (S10 _ _ (S0 b u e)) n) n)
      exact ⟨_, _, _, _, _, _, _, rfl, S1.trans SS⟩
    · rintro σ H1 ⟨v1, v2, v3, v4, v5, v6, v7, rfl, S1⟩
      exact q H1
end
end K29
/-! ### what the top has written -/
namespace K29
open PySem L2 PySem.W
theorem all_mk {l : OpenLaw} {w : World} {K : Frag} {h : Heap} {mg : Str → Option Value} {fa fM fLf fWa fNm fRw fKd fAp fCq fLs fLg fLo fWy fKc fCp fWp fWo fP fD fN fMe fLn fPr fFy fRo fBa fNt fOp fL : Addr} (X : K.In h) (G : h.Ns mainGlobals mg) (hfa : mg "law" = some (.ref fa))
    {odM anM : Option Addr} {slM : Array (Option Value)} {ocM kVM dcM pmM cdM ctM : Value}
    {odLf anLf : Option Addr} {slLf : Array (Option Value)} {ocLf kVLf dcLf pmLf cdLf ctLf : Value}
    {odWa anWa : Option Addr} {slWa : Array (Option Value)} {ocWa kVWa dcWa pmWa cdWa ctWa : Value}
    {odNm anNm : Option Addr} {slNm : Array (Option Value)} {ocNm kVNm dcNm pmNm cdNm ctNm : Value}
    {odRw anRw : Option Addr} {slRw : Array (Option Value)} {ocRw kVRw dcRw pmRw cdRw ctRw : Value}
    {odKd anKd : Option Addr} {slKd : Array (Option Value)} {ocKd kVKd dcKd pmKd cdKd ctKd : Value}
    {odAp anAp : Option Addr} {slAp : Array (Option Value)} {ocAp kVAp dcAp pmAp cdAp ctAp : Value}
    {odCq anCq : Option Addr} {slCq : Array (Option Value)} {ocCq kVCq dcCq pmCq cdCq ctCq : Value}
    {odLs anLs : Option Addr} {slLs : Array (Option Value)} {ocLs kVLs dcLs pmLs cdLs ctLs : Value}
    {odLg anLg : Option Addr} {slLg : Array (Option Value)} {ocLg kVLg dcLg pmLg cdLg ctLg : Value}
    {odLo anLo : Option Addr} {slLo : Array (Option Value)} {ocLo kVLo dcLo pmLo cdLo ctLo : Value}
    {odWy anWy : Option Addr} {slWy : Array (Option Value)} {ocWy kVWy dcWy pmWy cdWy ctWy : Value}
    {odKc anKc : Option Addr} {slKc : Array (Option Value)} {ocKc kVKc dcKc pmKc cdKc ctKc : Value}
    {odCp anCp : Option Addr} {slCp : Array (Option Value)} {ocCp kVCp dcCp pmCp cdCp ctCp : Value}
    {odWp anWp : Option Addr} {slWp : Array (Option Value)} {ocWp kVWp dcWp pmWp cdWp ctWp : Value}
    {odWo anWo : Option Addr} {slWo : Array (Option Value)} {ocWo kVWo dcWo pmWo cdWo ctWo : Value}
    {odP anP : Option Addr} {slP : Array (Option Value)} {ocP kVP dcP pmP cdP ctP : Value}
    {odD anD : Option Addr} {slD : Array (Option Value)} {ocD kVD dcD pmD cdD ctD : Value}
    {odN anN : Option Addr} {slN : Array (Option Value)} {ocN kVN dcN pmN cdN ctN : Value}
    {odMe anMe : Option Addr} {slMe : Array (Option Value)} {ocMe kVMe dcMe pmMe cdMe ctMe : Value}
    {odLn anLn : Option Addr} {slLn : Array (Option Value)} {ocLn kVLn dcLn pmLn cdLn ctLn : Value}
    {odPr anPr : Option Addr} {slPr : Array (Option Value)} {ocPr kVPr dcPr pmPr cdPr ctPr : Value}
    {odFy anFy : Option Addr} {slFy : Array (Option Value)} {ocFy kVFy dcFy pmFy cdFy ctFy : Value}
    {odRo anRo : Option Addr} {slRo : Array (Option Value)} {ocRo kVRo dcRo pmRo cdRo ctRo : Value}
    {odBa anBa : Option Addr} {slBa : Array (Option Value)} {ocBa kVBa dcBa pmBa cdBa ctBa : Value}
    {odNt anNt : Option Addr} {slNt : Array (Option Value)} {ocNt kVNt dcNt pmNt cdNt ctNt : Value}
    {odOp anOp : Option Addr} {slOp : Array (Option Value)} {ocOp kVOp dcOp pmOp cdOp ctOp : Value}
    {odL anL : Option Addr} {slL : Array (Option Value)} {ocL kVL dcL pmL cdL ctL : Value}
    {tkM : Tok}
    (fMa : nsIn K mainGlobals "merged" = some (some (.ref fM)))
    (fMl : K.lookup fM = some ⟨ocM, odM, .func (fnOf "merged" "merged" (defArgs sMerged) (defBody sMerged) (defScope sMerged) .none kVM dcM pmM anM cdM ctM), slM⟩)
    (fMc : codeIn K cdM "merged" = true)
    (fMk : keepIn K (.ref fM) = true)
    (fLfa : nsIn K mainGlobals "least_free" = some (some (.ref fLf)))
    (fLfl : K.lookup fLf = some ⟨ocLf, odLf, .func (fnOf "least_free" "least_free" (defArgs sLeast) (defBody sLeast) (defScope sLeast) .none kVLf dcLf pmLf anLf cdLf ctLf), slLf⟩)
    (fLfc : codeIn K cdLf "least_free" = true)
    (fLfk : keepIn K (.ref fLf) = true)
    (fWaa : nsIn K mainGlobals "wish_against" = some (some (.ref fWa)))
    (fWal : K.lookup fWa = some ⟨ocWa, odWa, .func (fnOf "wish_against" "wish_against" (defArgs sWish) (defBody sWish) (defScope sWish) .none kVWa dcWa pmWa anWa cdWa ctWa), slWa⟩)
    (fWac : codeIn K cdWa "wish_against" = true)
    (fWak : keepIn K (.ref fWa) = true)
    (fNma : nsIn K mainGlobals "is_name" = some (some (.ref fNm)))
    (fNml : K.lookup fNm = some ⟨ocNm, odNm, .func (fnOf "is_name" "is_name" (defArgs sIsName) (defBody sIsName) (defScope sIsName) .none kVNm dcNm pmNm anNm cdNm ctNm), slNm⟩)
    (fNmc : codeIn K cdNm "is_name" = true)
    (fNmk : keepIn K (.ref fNm) = true)
    (fRwa : nsIn K mainGlobals "is_row" = some (some (.ref fRw)))
    (fRwl : K.lookup fRw = some ⟨ocRw, odRw, .func (fnOf "is_row" "is_row" (defArgs sIsRow) (defBody sIsRow) (defScope sIsRow) .none kVRw dcRw pmRw anRw cdRw ctRw), slRw⟩)
    (fRwc : codeIn K cdRw "is_row" = true)
    (fRwk : keepIn K (.ref fRw) = true)
    (fKda : nsIn K mainGlobals "is_kind" = some (some (.ref fKd)))
    (fKdl : K.lookup fKd = some ⟨ocKd, odKd, .func (fnOf "is_kind" "is_kind" (defArgs sIsKind) (defBody sIsKind) (defScope sIsKind) .none kVKd dcKd pmKd anKd cdKd ctKd), slKd⟩)
    (fKdc : codeIn K cdKd "is_kind" = true)
    (fKdk : keepIn K (.ref fKd) = true)
    (fApa : nsIn K mainGlobals "are_parents" = some (some (.ref fAp)))
    (fApl : K.lookup fAp = some ⟨ocAp, odAp, .func (fnOf "are_parents" "are_parents" (defArgs sAreP) (defBody sAreP) (defScope sAreP) .none kVAp dcAp pmAp anAp cdAp ctAp), slAp⟩)
    (fApc : codeIn K cdAp "are_parents" = true)
    (fApk : keepIn K (.ref fAp) = true)
    (fCqa : nsIn K mainGlobals "check_kind" = some (some (.ref fCq)))
    (fCql : K.lookup fCq = some ⟨ocCq, odCq, .func (fnOf "check_kind" "check_kind" (defArgs sCheckK) (defBody sCheckK) (defScope sCheckK) .none kVCq dcCq pmCq anCq cdCq ctCq), slCq⟩)
    (fCqc : codeIn K cdCq "check_kind" = true)
    (fCqk : keepIn K (.ref fCq) = true)
    (fLsa : nsIn K mainGlobals "lines_of" = some (some (.ref fLs)))
    (fLsl : K.lookup fLs = some ⟨ocLs, odLs, .func (fnOf "lines_of" "lines_of" (defArgs sLines) (defBody sLines) (defScope sLines) .none kVLs dcLs pmLs anLs cdLs ctLs), slLs⟩)
    (fLsc : codeIn K cdLs "lines_of" = true)
    (fLsk : keepIn K (.ref fLs) = true)
    (fLga : nsIn K mainGlobals "line_from" = some (some (.ref fLg)))
    (fLgl : K.lookup fLg = some ⟨ocLg, odLg, .func (fnOf "line_from" "line_from" (defArgs sLineFrom) (defBody sLineFrom) (defScope sLineFrom) .none kVLg dcLg pmLg anLg cdLg ctLg), slLg⟩)
    (fLgc : codeIn K cdLg "line_from" = true)
    (fLgk : keepIn K (.ref fLg) = true)
    (fLoa : nsIn K mainGlobals "line_of" = some (some (.ref fLo)))
    (fLol : K.lookup fLo = some ⟨ocLo, odLo, .func (fnOf "line_of" "line_of" (defArgs sLineOf) (defBody sLineOf) (defScope sLineOf) .none kVLo dcLo pmLo anLo cdLo ctLo), slLo⟩)
    (fLoc : codeIn K cdLo "line_of" = true)
    (fLok : keepIn K (.ref fLo) = true)
    (fWya : nsIn K mainGlobals "way_of" = some (some (.ref fWy)))
    (fWyl : K.lookup fWy = some ⟨ocWy, odWy, .func (fnOf "way_of" "way_of" (defArgs sWay) (defBody sWay) (defScope sWay) .none kVWy dcWy pmWy anWy cdWy ctWy), slWy⟩)
    (fWyc : codeIn K cdWy "way_of" = true)
    (fWyk : keepIn K (.ref fWy) = true)
    (fKca : nsIn K mainGlobals "kind_changed" = some (some (.ref fKc)))
    (fKcl : K.lookup fKc = some ⟨ocKc, odKc, .func (fnOf "kind_changed" "kind_changed" (defArgs sChanged) (defBody sChanged) (defScope sChanged) .none kVKc dcKc pmKc anKc cdKc ctKc), slKc⟩)
    (fKcc : codeIn K cdKc "kind_changed" = true)
    (fKck : keepIn K (.ref fKc) = true)
    (fCpa : nsIn K mainGlobals "check_parents" = some (some (.ref fCp)))
    (fCpl : K.lookup fCp = some ⟨ocCp, odCp, .func (fnOf "check_parents" "check_parents" (defArgs sCheckP) (defBody sCheckP) (defScope sCheckP) .none kVCp dcCp pmCp anCp cdCp ctCp), slCp⟩)
    (fCpc : codeIn K cdCp "check_parents" = true)
    (fCpk : keepIn K (.ref fCp) = true)
    (fWpa : nsIn K mainGlobals "with_parents" = some (some (.ref fWp)))
    (fWpl : K.lookup fWp = some ⟨ocWp, odWp, .func (fnOf "with_parents" "with_parents" (defArgs sWith) (defBody sWith) (defScope sWith) .none kVWp dcWp pmWp anWp cdWp ctWp), slWp⟩)
    (fWpc : codeIn K cdWp "with_parents" = true)
    (fWpk : keepIn K (.ref fWp) = true)
    (fWoa : nsIn K mainGlobals "without_kind" = some (some (.ref fWo)))
    (fWol : K.lookup fWo = some ⟨ocWo, odWo, .func (fnOf "without_kind" "without_kind" (defArgs sWithout) (defBody sWithout) (defScope sWithout) .none kVWo dcWo pmWo anWo cdWo ctWo), slWo⟩)
    (fWoc : codeIn K cdWo "without_kind" = true)
    (fWok : keepIn K (.ref fWo) = true)
    (fPa : nsIn K mainGlobals "_law_pot" = some (some (.ref fP)))
    (fPl : K.lookup fP = some ⟨ocP, odP, .func (fnOf "_law_pot" "_law_pot" (defArgs sPot) (defBody sPot) (defScope sPot) .none kVP dcP pmP anP cdP ctP), slP⟩)
    (fPc : codeIn K cdP "_law_pot" = true)
    (fPk : keepIn K (.ref fP) = true)
    (fDa : nsIn K mainGlobals "_law_digit" = some (some (.ref fD)))
    (fDl : K.lookup fD = some ⟨ocD, odD, .func (fnOf "_law_digit" "_law_digit" (defArgs sDigit) (defBody sDigit) (defScope sDigit) .none kVD dcD pmD anD cdD ctD), slD⟩)
    (fDc : codeIn K cdD "_law_digit" = true)
    (fDk : keepIn K (.ref fD) = true)
    (fNa : nsIn K mainGlobals "_law_names" = some (some (.ref fN)))
    (fNl : K.lookup fN = some ⟨ocN, odN, .func (fnOf "_law_names" "_law_names" (defArgs sNames) (defBody sNames) (defScope sNames) .none kVN dcN pmN anN cdN ctN), slN⟩)
    (fNc : codeIn K cdN "_law_names" = true)
    (fNk : keepIn K (.ref fN) = true)
    (fMea : nsIn K mainGlobals "_law_merged" = some (some (.ref fMe)))
    (fMel : K.lookup fMe = some ⟨ocMe, odMe, .func (fnOf "_law_merged" "_law_merged" (defArgs sLMerged) (defBody sLMerged) (defScope sLMerged) .none kVMe dcMe pmMe anMe cdMe ctMe), slMe⟩)
    (fMec : codeIn K cdMe "_law_merged" = true)
    (fMek : keepIn K (.ref fMe) = true)
    (fLna : nsIn K mainGlobals "_law_line" = some (some (.ref fLn)))
    (fLnl : K.lookup fLn = some ⟨ocLn, odLn, .func (fnOf "_law_line" "_law_line" (defArgs sLLine) (defBody sLLine) (defScope sLLine) .none kVLn dcLn pmLn anLn cdLn ctLn), slLn⟩)
    (fLnc : codeIn K cdLn "_law_line" = true)
    (fLnk : keepIn K (.ref fLn) = true)
    (fPra : nsIn K mainGlobals "_law_parents" = some (some (.ref fPr)))
    (fPrl : K.lookup fPr = some ⟨ocPr, odPr, .func (fnOf "_law_parents" "_law_parents" (defArgs sLParents) (defBody sLParents) (defScope sLParents) .none kVPr dcPr pmPr anPr cdPr ctPr), slPr⟩)
    (fPrc : codeIn K cdPr "_law_parents" = true)
    (fPrk : keepIn K (.ref fPr) = true)
    (fFya : nsIn K mainGlobals "_law_family" = some (some (.ref fFy)))
    (fFyl : K.lookup fFy = some ⟨ocFy, odFy, .func (fnOf "_law_family" "_law_family" (defArgs sLFamily) (defBody sLFamily) (defScope sLFamily) .none kVFy dcFy pmFy anFy cdFy ctFy), slFy⟩)
    (fFyc : codeIn K cdFy "_law_family" = true)
    (fFyk : keepIn K (.ref fFy) = true)
    (fRoa : nsIn K mainGlobals "_law_is_row" = some (some (.ref fRo)))
    (fRol : K.lookup fRo = some ⟨ocRo, odRo, .func (fnOf "_law_is_row" "_law_is_row" (defArgs sLIsRow) (defBody sLIsRow) (defScope sLIsRow) .none kVRo dcRo pmRo anRo cdRo ctRo), slRo⟩)
    (fRoc : codeIn K cdRo "_law_is_row" = true)
    (fRok : keepIn K (.ref fRo) = true)
    (fBaa : nsIn K mainGlobals "_law_behind_all" = some (some (.ref fBa)))
    (fBal : K.lookup fBa = some ⟨ocBa, odBa, .func (fnOf "_law_behind_all" "_law_behind_all" (defArgs sBehind) (defBody sBehind) (defScope sBehind) .none kVBa dcBa pmBa anBa cdBa ctBa), slBa⟩)
    (fBac : codeIn K cdBa "_law_behind_all" = true)
    (fBak : keepIn K (.ref fBa) = true)
    (fNta : nsIn K mainGlobals "_law_named_last" = some (some (.ref fNt)))
    (fNtl : K.lookup fNt = some ⟨ocNt, odNt, .func (fnOf "_law_named_last" "_law_named_last" (defArgs sLast) (defBody sLast) (defScope sLast) .none kVNt dcNt pmNt anNt cdNt ctNt), slNt⟩)
    (fNtc : codeIn K cdNt "_law_named_last" = true)
    (fNtk : keepIn K (.ref fNt) = true)
    (fOpa : nsIn K mainGlobals "_law_one_parent" = some (some (.ref fOp)))
    (fOpl : K.lookup fOp = some ⟨ocOp, odOp, .func (fnOf "_law_one_parent" "_law_one_parent" (defArgs sOneP) (defBody sOneP) (defScope sOneP) .none kVOp dcOp pmOp anOp cdOp ctOp), slOp⟩)
    (fOpc : codeIn K cdOp "_law_one_parent" = true)
    (fOpk : keepIn K (.ref fOp) = true)
    (fLa : nsIn K mainGlobals "law" = some (some (.ref fL)))
    (fLl : K.lookup fL = some ⟨ocL, odL, .func (fnOf "law" "law" (defArgs sLaw) (defBody sLaw) (defScope sLaw) .none kVL dcL pmL anL cdL ctL), slL⟩)
    (fLc : codeIn K cdL "law" = true)
    (fLk : keepIn K (.ref fL) = true)
    (zlen : nsIn K mainGlobals "len" = some none)
    (zmax : nsIn K mainGlobals "max" = some none)
    (zmin : nsIn K mainGlobals "min" = some none)
    (zabs : nsIn K mainGlobals "abs" = some none)
    (zrange : nsIn K mainGlobals "range" = some none)
    (zany : nsIn K mainGlobals "any" = some none)
    (zall : nsIn K mainGlobals "all" = some none)
    (zlist : nsIn K mainGlobals "list" = some none)
    (ztuple : nsIn K mainGlobals "tuple" = some none)
    (zenumerate : nsIn K mainGlobals "enumerate" = some none)
    (zisinstance : nsIn K mainGlobals "isinstance" = some none)
    (zstr : nsIn K mainGlobals "str" = some none)
    (zdict : nsIn K mainGlobals "dict" = some none)
    (zsorted : nsIn K mainGlobals "sorted" = some none)
    (zset : nsIn K mainGlobals "set" = some none)
    (zMost : nsIn K mainGlobals "MOST_PARENTS" = some (some (.int 4 tkM))) :
    ∃ fd : FuncData, (∀ (s : Shared) (v : Value), BindsTo s fd ⟨[v], []⟩ [("_law_script", v)]) ∧ ∀ base : Heap, K.In base → base.Ns mainGlobals mg → FnOk l.prog w K mg base CX0 9 fa fd ["_law_script"] (spLaw K) := by
  have e := hfa.symm.trans (mg_of X G fLa)
  cases e
  have Bl : Blt mg := ⟨mg_none_of X G zlen, mg_none_of X G zmax, mg_none_of X G zmin, mg_none_of X G zabs, mg_none_of X G zrange, mg_none_of X G zany, mg_none_of X G zall, mg_none_of X G zlist, mg_none_of X G ztuple, mg_none_of X G zenumerate⟩
  have B2 : Blt2 mg := ⟨mg_none_of X G zisinstance, mg_none_of X G zstr, mg_none_of X G zdict, mg_none_of X G zsorted⟩
  have bS := mg_none_of X G zset
  have FM := fun_mk (st := sMerged) fMl fMc fMk
  have FLf := fun_mk (st := sLeast) fLfl fLfc fLfk
  have FWa := fun_mk (st := sWish) fWal fWac fWak
  have FNm := fun_mk (st := sIsName) fNml fNmc fNmk
  have FRw := fun_mk (st := sIsRow) fRwl fRwc fRwk
  have FKd := fun_mk (st := sIsKind) fKdl fKdc fKdk
  have FAp := fun_mk (st := sAreP) fApl fApc fApk
  have FCq := fun_mk (st := sCheckK) fCql fCqc fCqk
  have FLs := fun_mk (st := sLines) fLsl fLsc fLsk
  have FLg := fun_mk (st := sLineFrom) fLgl fLgc fLgk
  have FLo := fun_mk (st := sLineOf) fLol fLoc fLok
  have FWy := fun_mk (st := sWay) fWyl fWyc fWyk
  have FKc := fun_mk (st := sChanged) fKcl fKcc fKck
  have FCp := fun_mk (st := sCheckP) fCpl fCpc fCpk
  have FWp := fun_mk (st := sWith) fWpl fWpc fWpk
  have FWo := fun_mk (st := sWithout) fWol fWoc fWok
  have FP := fun_mk (st := sPot) fPl fPc fPk
  have FD := fun_mk (st := sDigit) fDl fDc fDk
  have FN := fun_mk (st := sNames) fNl fNc fNk
  have FMe := fun_mk (st := sLMerged) fMel fMec fMek
  have FLn := fun_mk (st := sLLine) fLnl fLnc fLnk
  have FPr := fun_mk (st := sLParents) fPrl fPrc fPrk
  have FFy := fun_mk (st := sLFamily) fFyl fFyc fFyk
  have FRo := fun_mk (st := sLIsRow) fRol fRoc fRok
  have FBa := fun_mk (st := sBehind) fBal fBac fBak
  have FNt := fun_mk (st := sLast) fNtl fNtc fNtk
  have FOp := fun_mk (st := sOneP) fOpl fOpc fOpk
  have FL := fun_mk (st := sLaw) fLl fLc fLk
  have bM := FM.binds (ps := ["rows"]) fun _ _ _ _ _ _ us hl => match us, hl with | [_], _ => rfl
  have bLf := FLf.binds (ps := ["rest"]) fun _ _ _ _ _ _ us hl => match us, hl with | [_], _ => rfl
  have bWa := FWa.binds (ps := ["rest", "name"]) fun _ _ _ _ _ _ us hl => match us, hl with | [_, _], _ => rfl
  have bNm := FNm.binds (ps := ["thing"]) fun _ _ _ _ _ _ us hl => match us, hl with | [_], _ => rfl
  have bRw := FRw.binds (ps := ["thing"]) fun _ _ _ _ _ _ us hl => match us, hl with | [_], _ => rfl
  have bKd := FKd.binds (ps := ["family", "thing"]) fun _ _ _ _ _ _ us hl => match us, hl with | [_, _], _ => rfl
  have bAp := FAp.binds (ps := ["family", "thing"]) fun _ _ _ _ _ _ us hl => match us, hl with | [_, _], _ => rfl
  have bCq := FCq.binds (ps := ["family", "thing"]) fun _ _ _ _ _ _ us hl => match us, hl with | [_, _], _ => rfl
  have bLs := FLs.binds (ps := ["family"]) fun _ _ _ _ _ _ us hl => match us, hl with | [_], _ => rfl
  have bLg := FLg.binds (ps := ["lines", "kind", "parents"]) fun _ _ _ _ _ _ us hl => match us, hl with | [_, _, _], _ => rfl
  have bLo := FLo.binds (ps := ["family", "kind"]) fun _ _ _ _ _ _ us hl => match us, hl with | [_, _], _ => rfl
  have bWy := FWy.binds (ps := ["family", "a", "b"]) fun _ _ _ _ _ _ us hl => match us, hl with | [_, _, _], _ => rfl
  have bKc := FKc.binds (ps := ["family", "kind", "parents"]) fun _ _ _ _ _ _ us hl => match us, hl with | [_, _, _], _ => rfl
  have bCp := FCp.binds (ps := ["family", "thing"]) fun _ _ _ _ _ _ us hl => match us, hl with | [_, _], _ => rfl
  have bWp := FWp.binds (ps := ["family", "kind", "parents"]) fun _ _ _ _ _ _ us hl => match us, hl with | [_, _, _], _ => rfl
  have bWo := FWo.binds (ps := ["family", "kind"]) fun _ _ _ _ _ _ us hl => match us, hl with | [_, _], _ => rfl
  have bP := FP.binds (ps := ["_law_script", "_law_k"]) fun _ _ _ _ _ _ us hl => match us, hl with | [_, _], _ => rfl
  have bD := FD.binds (ps := ["_law_pot_here", "_law_many"]) fun _ _ _ _ _ _ us hl => match us, hl with | [_, _], _ => rfl
  have bN := FN.binds (ps := ["_law_pot_here", "_law_many"]) fun _ _ _ _ _ _ us hl => match us, hl with | [_, _], _ => rfl
  have bMe := FMe.binds (ps := ["_law_rows"]) fun _ _ _ _ _ _ us hl => match us, hl with | [_], _ => rfl
  have bLn := FLn.binds (ps := ["_law_lines", "_law_kind", "_law_own"]) fun _ _ _ _ _ _ us hl => match us, hl with | [_, _, _], _ => rfl
  have bPr := FPr.binds (ps := ["_law_pot_here", "_law_made"]) fun _ _ _ _ _ _ us hl => match us, hl with | [_, _], _ => rfl
  have bFy := FFy.binds (ps := ["_law_pot_here", "_law_kinds"]) fun _ _ _ _ _ _ us hl => match us, hl with | [_, _], _ => rfl
  have bRo := FRo.binds (ps := ["_law_found"]) fun _ _ _ _ _ _ us hl => match us, hl with | [_], _ => rfl
  have bBa := FBa.binds (ps := ["_law_found", "_law_own"]) fun _ _ _ _ _ _ us hl => match us, hl with | [_, _], _ => rfl
  have bNt := FNt.binds (ps := ["_law_family_here", "_law_parents_here", "_law_kind", "_law_number"]) fun _ _ _ _ _ _ us hl => match us, hl with | [_, _, _, _], _ => rfl
  have bOp := FOp.binds (ps := ["_law_family_here", "_law_kind", "_law_own"]) fun _ _ _ _ _ _ us hl => match us, hl with | [_, _, _], _ => rfl
  have mM := mg_of X G fMa
  have mLf := mg_of X G fLfa
  have mWa := mg_of X G fWaa
  have mNm := mg_of X G fNma
  have mRw := mg_of X G fRwa
  have mKd := mg_of X G fKda
  have mAp := mg_of X G fApa
  have mCq := mg_of X G fCqa
  have mLs := mg_of X G fLsa
  have mLg := mg_of X G fLga
  have mLo := mg_of X G fLoa
  have mWy := mg_of X G fWya
  have mKc := mg_of X G fKca
  have mCp := mg_of X G fCpa
  have mWp := mg_of X G fWpa
  have mWo := mg_of X G fWoa
  have mP := mg_of X G fPa
  have mD := mg_of X G fDa
  have mN := mg_of X G fNa
  have mMe := mg_of X G fMea
  have mLn := mg_of X G fLna
  have mPr := mg_of X G fPra
  have mFy := mg_of X G fFya
  have mRo := mg_of X G fRoa
  have mBa := mg_of X G fBaa
  have mNt := mg_of X G fNta
  have mOp := mg_of X G fOpa
  have mL := mg_of X G fLa
  exact ⟨fnOf "law" "law" (defArgs sLaw) (defBody sLaw) (defScope sLaw) .none kVL dcL pmL anL cdL ctL, fun s v => .of_eq rfl, fun base _ _ =>
    let GC := ok_check FCq FKd bKd mKd (ok_kind FKd Bl B2 FNm bNm mNm)
    let GL := ok_lines FLs Bl (ok_lf FLg Bl (ok_merged FM Bl FWa bWa mWa FLf bLf mLf) fMk bM mM) fLgk bLg mLg
    let GR := ok_rw FRw Bl B2 bS (ok_name FNm Bl B2) fNmk bNm mNm
    let GO := ok_lineOf FLo GC fCqk bCq mCq GL fLsk bLs mLs
    let GA := ok_areP FAp Bl (mg_of X G zMost) (ok_kind FKd Bl B2 FNm bNm mNm) fKdk bKd mKd GR fRwk bRw mRw
    let GY := ok_way FWy Bl B2 GC fCqk bCq mCq GL fLsk bLs mLs
    let GX := ok_kc FKc GC fCqk bCq mCq (ok_cp FCp GA fApk bAp mAp) fCpk bCp mCp GY fWyk bWy mWy (ok_wp FWp Bl B2 (ok_wo FWo Bl) fWok bWo mWo GL fLsk bLs mLs) fWpk bWp mWp
    ok_law FL Bl (ok_pot FP Bl) fPk bP mP (ok_digit FD) fDk bD mD (ok_names FN Bl FD bD mD) fNk bN mN
      (ok_fam FFy Bl B2 (ok_par FPr Bl FD bD mD) fPrk bPr mPr (ok_ll FLn Bl FMe bMe mMe) fLnk bLn mLn) fFyk bFy mFy
      (ok_op FOp Bl GO fLok bLo mLo (ok_row FRo Bl B2) fRok bRo mRo) fOpk bOp mOp (ok_nl FNt Bl GO fLok bLo mLo (ok_ba FBa Bl) fBak bBa mBa GX fKck bKc mKc) fNtk bNt mNt⟩
theorem walk {l : OpenLaw} {q : Program} {loose : List Str} {XP : (Str → Option Value) → Heap → Prop} {YP : World → Heap → Prop} {d : DefRec} {K : Params → Frag} (hn : l.most = some 63) (hdf : d.params.defaults = [])
    (hY : ∀ (w : World) (h : Heap), YP w h → (K w.params).In h)
    (F : ∀ (w : World) (mg : Str → Option Value) (fa : Addr) (h : Heap), (K w.params).In h → h.Ns mainGlobals mg → mg d.name = some (.ref fa) →
      ∃ fd : FuncData, (∀ (s : Shared) (u : Value), BindsTo s fd ⟨[u], []⟩ [("_law_script", u)]) ∧ ∀ base : Heap, (K w.params).In base → base.Ns mainGlobals mg → FnOk l.prog w (K w.params) mg base CX0 9 fa fd ["_law_script"] (spLaw (K w.params))) :
    WalkO q loose XP YP l.row.toRowW d [] (fun f vs => PySem.call f vs) :=
  L2.walk_of (n := 63) (k := 9) (x := "_law_script") (CX := fun _ => CX0) (sp := fun w => spLaw (K w.params)) hn (by decide) hdf ⟨rfl, by decide, by decide, rfl⟩ hY F (fun _ _ a ns hl _ hS => by unfold spLaw; exact ⟨a, ns, rfl, hS, hl, fun _ => rfl⟩) fun _ _ _ _ _ z => z
end K29
open PySem PySem.W PyProof.Rows
set_option maxRecDepth 100000 in
set_option maxHeartbeats 0 in
theorem PySem.Challenge.cw_parentlines_k29_whole_a_forebear_named_l_holds : PySem.Challenge.rw_parentlines_k29_whole_a_forebear_named_l.Holds := by
  w_on; o_law; k_head; (case hw => w_witness2)
  k_fill
  refine K29.walk (l := PySem.Challenge.rw_parentlines_k29_whole_a_forebear_named_l) rfl rfl (fun w h Y => PySem.W.kIn_of Y) ?F
  case F =>
    intro w mg fa h KX G hmg
    refine' K29.all_mk KX G hmg ?fMa ?fMl ?fMc ?fMk ?fLfa ?fLfl ?fLfc ?fLfk ?fWaa ?fWal ?fWac ?fWak ?fNma ?fNml ?fNmc ?fNmk ?fRwa ?fRwl ?fRwc ?fRwk ?fKda ?fKdl ?fKdc ?fKdk ?fApa ?fApl ?fApc ?fApk ?fCqa ?fCql ?fCqc ?fCqk ?fLsa ?fLsl ?fLsc ?fLsk ?fLga ?fLgl ?fLgc ?fLgk ?fLoa ?fLol ?fLoc ?fLok ?fWya ?fWyl ?fWyc ?fWyk ?fKca ?fKcl ?fKcc ?fKck ?fCpa ?fCpl ?fCpc ?fCpk ?fWpa ?fWpl ?fWpc ?fWpk ?fWoa ?fWol ?fWoc ?fWok ?fPa ?fPl ?fPc ?fPk ?fDa ?fDl ?fDc ?fDk ?fNa ?fNl ?fNc ?fNk ?fMea ?fMel ?fMec ?fMek ?fLna ?fLnl ?fLnc ?fLnk ?fPra ?fPrl ?fPrc ?fPrk ?fFya ?fFyl ?fFyc ?fFyk ?fRoa ?fRol ?fRoc ?fRok ?fBaa ?fBal ?fBac ?fBak ?fNta ?fNtl ?fNtc ?fNtk ?fOpa ?fOpl ?fOpc ?fOpk ?fLa ?fLl ?fLc ?fLk ?zlen ?zmax ?zmin ?zabs ?zrange ?zany ?zall ?zlist ?ztuple ?zenumerate ?zisinstance ?zstr ?zdict ?zsorted ?zset ?zMost
    (case fMa => k_is)
    (case fMl => k_is)
    (case fMc => k_is)
    (case fMk => k_is)
    (case fLfa => k_is)
    (case fLfl => k_is)
    (case fLfc => k_is)
    (case fLfk => k_is)
    (case fWaa => k_is)
    (case fWal => k_is)
    (case fWac => k_is)
    (case fWak => k_is)
    (case fNma => k_is)
    (case fNml => k_is)
    (case fNmc => k_is)
    (case fNmk => k_is)
    (case fRwa => k_is)
    (case fRwl => k_is)
    (case fRwc => k_is)
    (case fRwk => k_is)
    (case fKda => k_is)
    (case fKdl => k_is)
    (case fKdc => k_is)
    (case fKdk => k_is)
    (case fApa => k_is)
    (case fApl => k_is)
    (case fApc => k_is)
    (case fApk => k_is)
    (case fCqa => k_is)
    (case fCql => k_is)
    (case fCqc => k_is)
    (case fCqk => k_is)
    (case fLsa => k_is)
    (case fLsl => k_is)
    (case fLsc => k_is)
    (case fLsk => k_is)
    (case fLga => k_is)
    (case fLgl => k_is)
    (case fLgc => k_is)
    (case fLgk => k_is)
    (case fLoa => k_is)
    (case fLol => k_is)
    (case fLoc => k_is)
    (case fLok => k_is)
    (case fWya => k_is)
    (case fWyl => k_is)
    (case fWyc => k_is)
    (case fWyk => k_is)
    (case fKca => k_is)
    (case fKcl => k_is)
    (case fKcc => k_is)
    (case fKck => k_is)
    (case fCpa => k_is)
    (case fCpl => k_is)
    (case fCpc => k_is)
    (case fCpk => k_is)
    (case fWpa => k_is)
    (case fWpl => k_is)
    (case fWpc => k_is)
    (case fWpk => k_is)
    (case fWoa => k_is)
    (case fWol => k_is)
    (case fWoc => k_is)
    (case fWok => k_is)
    (case fPa => k_is)
    (case fPl => k_is)
    (case fPc => k_is)
    (case fPk => k_is)
    (case fDa => k_is)
    (case fDl => k_is)
    (case fDc => k_is)
    (case fDk => k_is)
    (case fNa => k_is)
    (case fNl => k_is)
    (case fNc => k_is)
    (case fNk => k_is)
    (case fMea => k_is)
    (case fMel => k_is)
    (case fMec => k_is)
    (case fMek => k_is)
    (case fLna => k_is)
    (case fLnl => k_is)
    (case fLnc => k_is)
    (case fLnk => k_is)
    (case fPra => k_is)
    (case fPrl => k_is)
    (case fPrc => k_is)
    (case fPrk => k_is)
    (case fFya => k_is)
    (case fFyl => k_is)
    (case fFyc => k_is)
    (case fFyk => k_is)
    (case fRoa => k_is)
    (case fRol => k_is)
    (case fRoc => k_is)
    (case fRok => k_is)
    (case fBaa => k_is)
    (case fBal => k_is)
    (case fBac => k_is)
    (case fBak => k_is)
    (case fNta => k_is)
    (case fNtl => k_is)
    (case fNtc => k_is)
    (case fNtk => k_is)
    (case fOpa => k_is)
    (case fOpl => k_is)
    (case fOpc => k_is)
    (case fOpk => k_is)
    (case fLa => k_is)
    (case fLl => k_is)
    (case fLc => k_is)
    (case fLk => k_is)
    (case zlen => k_is)
    (case zmax => k_is)
    (case zmin => k_is)
    (case zabs => k_is)
    (case zrange => k_is)
    (case zany => k_is)
    (case zall => k_is)
    (case zlist => k_is)
    (case ztuple => k_is)
    (case zenumerate => k_is)
    (case zisinstance => k_is)
    (case zstr => k_is)
    (case zdict => k_is)
    (case zsorted => k_is)
    (case zset => k_is)
    (case zMost => k_is)
