import PyProof.Rows.All
import Wide.All
import OpenK.AllK
import Wide.FinOn
import Lean
import PyProof.EqAt
import PyProof.EqKinds
import PyProof.TupleCall
import PyProof.ReprRoads
import PyProof.ReprBulk
import PyProof.EnumMake
import PyProof.EnumFor
import KE.KRevSl
import KE.KDictList
import PyProof.ZipIter
import PyProof.AttrMissHeap
import KE.KDictOf
import KE.KItemsList
import PyProof.Rows.ZipGen
import PyProof.CallFns
import PyProof.StrWalks
import PyProof.FString5
import KE.KSortTup
import PyProof.SetRoads
import PyProof.SetNew
import PyProof.Rows.SetFrom
import PyProof.WalksMore
import PyProof.ForAny
import PyProof.DictWalks
import PyProof.P3Eq
import PySem.Challenge.RW_parentlines_k35_whole_found_behind_one_a
set_option Elab.async false
set_option linter.all false
set_option maxRecDepth 100000
set_option maxHeartbeats 4000000
namespace L2
open PySem PySem.Spec PyProof.Rows
abbrev Key := Sum Int Str
def keyIs : Key -> Value -> Bool
 | .inl k, v => Value.isInt k v
 | .inr x, v => Value.isStrOf x v
def keyH (w : World) : Key -> Int
 | .inl k => hashInt k
 | .inr x => hashStr w x
theorem keyIs_shape : ∀ {k : Key} {v : Value}, keyIs k v = true -> (∃ i t, k = Sum.inl i /\ v = Value.int i t) \/ (∃ x t, k = Sum.inr x /\ v = Value.str x t)
 | .inl i, v, h => by
  obtain ⟨t, e⟩ := Value.isInt_shape (k := i) (v := v) h
  exact .inl ⟨i, t, rfl, e⟩
 | .inr x, v, h => by
  obtain ⟨t, e⟩ := Value.isStrOf_shape (x := x) (v := v) h
  exact .inr ⟨x, t, rfl, e⟩
theorem keyIs_int (i : Int) (t : Tok) : keyIs (.inl i) (.int i t) = true := by simp [keyIs, Value.isInt]
theorem keyIs_str (x : Str) (t : Tok) : keyIs (.inr x) (.str x t) = true := by simp [keyIs, Value.isStrOf]
theorem key_ll (a b : Int) : decide ((Sum.inl a : Key) = Sum.inl b) = (a == b) := by
 by_cases e : a = b
 ·subst e; simp
 ·have h : ¬ (Sum.inl a : Key) = Sum.inl b := fun q => e (Sum.inl.inj q)
  rw [decide_eq_false h]
  exact (beq_eq_false_iff_ne.mpr e).symm
theorem key_rr (a b : Str) : decide ((Sum.inr a : Key) = Sum.inr b) = decide (a = b) := by
 by_cases e : a = b
 ·subst e; simp
 ·have h : ¬ (Sum.inr a : Key) = Sum.inr b := fun q => e (Sum.inr.inj q)
  rw [decide_eq_false h, decide_eq_false e]
theorem key_lr (a : Int) (b : Str) : decide ((Sum.inl a : Key) = Sum.inr b) = false := decide_eq_false (fun q => nomatch q)
theorem key_rl (a : Str) (b : Int) : decide ((Sum.inr a : Key) = Sum.inl b) = false := decide_eq_false (fun q => nomatch q)
def mixKind (prog : Program) (w : World) : PySem.KeyKind prog w Key where
 is := keyIs
 hash := keyH w
 inj := fun v a b ha hb => by
  rcases keyIs_shape ha with ⟨i, t, rfl, rfl⟩ | ⟨x, t, rfl, rfl⟩
  ·rcases keyIs_shape hb with ⟨j, u, rfl, e⟩ | ⟨y, u, rfl, e⟩
   ·injection e with e1 _; rw [e1]
   ·exact nomatch e
  ·rcases keyIs_shape hb with ⟨j, u, rfl, e⟩ | ⟨y, u, rfl, e⟩
   ·exact nomatch e
   ·injection e with e1 _; rw [e1]
 byValue := fun k v h => by
  rcases keyIs_shape h with ⟨i, t, rfl, rfl⟩ | ⟨x, t, rfl, rfl⟩ <;> rfl
 pyHash := fun hv h => by
  rcases keyIs_shape hv with ⟨i, t, rfl, rfl⟩ | ⟨x, t, rfl, rfl⟩
  ·exact wpAny_pyHash_int h
  ·exact wpAny_pyHash_str h
 eqBool := fun hu hv h => by
  rcases keyIs_shape hu with ⟨i, t, rfl, rfl⟩ | ⟨x, t, rfl, rfl⟩
  ·rcases keyIs_shape hv with ⟨j, u, rfl, rfl⟩ | ⟨y, u, rfl, rfl⟩
   ·rw [key_ll] at h; exact wpAny_eqBool_int h
   ·rw [key_lr] at h; exact SeqAt.EqAt.int_str i t y u _ _ _ _ h
  ·rcases keyIs_shape hv with ⟨j, u, rfl, rfl⟩ | ⟨y, u, rfl, rfl⟩
   ·rw [key_rl] at h; exact SeqAt.EqAt.str_int x t j u _ _ _ _ h
   ·rw [key_rr] at h; exact wpAny_eqBool_str h
 «strs» := fun k x t v h => by
  rcases keyIs_shape h with ⟨i, u, rfl, e⟩ | ⟨y, u, rfl, e⟩
  ·exact nomatch e
  ·injection e with e1 _
   subst e1
   cases v <;> rfl
theorem mixKind_int (prog : Program) (w : World) (i : Int) (t : Tok) : (mixKind prog w).is (.inl i) (.int i t) = true := keyIs_int i t
theorem mixKind_str (prog : Program) (w : World) (x : Str) (t : Tok) : (mixKind prog w).is (.inr x) (.str x t) = true := keyIs_str x t
end L2
namespace L2
open PySem PySem.Spec PyProof.Rows
inductive V where
 | non | bl (b : Bool) | int (i : Int) | str (x : Str) | byt (b : Array UInt8) | flt (b : UInt64) | ref (a : Addr) | ty (n : String)
 deriving DecidableEq
def RelV : V -> Value -> Prop
 | .non, u => u = Value.none
 | .bl b, u => u = Value.bool b
 | .int i, u => ∃ t, u = Value.int i t
 | .str x, u => ∃ t, u = Value.str x t
 | .byt b, u => ∃ t, u = Value.bytes b t
 | .flt b, u => ∃ t, u = Value.float b t
 | .ref a, u => u = Value.ref a
 | .ty n, u => u = Value.type n
abbrev Vals : List V -> List Value -> Prop := Paired RelV
theorem Vals.length {xs : List V} {us : List Value} (r : Vals xs us) : xs.length = us.length := Paired.length r
theorem Vals.get : ∀ {xs : List V} {us : List Value} {i : Nat} {x : V}, Vals xs us -> xs[i]? = some x -> ∃ u, us[i]? = some u /\ RelV x u
 | _, _, _, _, .nil, e => by simp at e
 | _, _, 0, _, .cons r _, e => by simp at e; subst e; exact ⟨_, rfl, r⟩
 | _, _, i + 1, x, .cons _ t, e => by
  obtain ⟨u, h1, h2⟩ := Vals.get (i := i) (x := x) t (by simpa using e)
  exact ⟨u, by simpa using h1, h2⟩
theorem Vals.set {x : V} {u : Value} (r : RelV x u) : ∀ {xs : List V} {us : List Value} (i : Nat), Vals xs us -> Vals (xs.set i x) (us.set i u)
 | _, _, _, .nil => .nil
 | _, _, 0, .cons _ t => .cons r t
 | _, _, i + 1, .cons q t => .cons q (Vals.set r i t)
theorem Vals.append : ∀ {xs ys : List V} {us ws : List Value}, Vals xs us -> Vals ys ws -> Vals (xs ++ ys) (us ++ ws)
 | _, _, _, _, .nil, s => s
 | _, _, _, _, .cons r t, s => .cons r (Vals.append t s)
theorem Vals.take : ∀ {xs : List V} {us : List Value} (n : Nat), Vals xs us -> Vals (xs.take n) (us.take n)
 | _, _, 0, _ => .nil
 | _, _, _ + 1, .nil => .nil
 | _, _, n + 1, .cons r t => .cons r (Vals.take n t)
theorem Vals.drop : ∀ {xs : List V} {us : List Value} (n : Nat), Vals xs us -> Vals (xs.drop n) (us.drop n)
 | _, _, 0, r => r
 | _, _, _ + 1, .nil => .nil
 | _, _, n + 1, .cons _ t => Vals.drop n t
def RelO : Option V -> Option Value -> Prop
 | some v, some u => RelV v u
 | none, none => True
 | _, _ => False
def KV {κ : Type} : List (κ × V) -> List (κ × Value) -> Prop := Paired fun (p : κ × V) (q : κ × Value) => p.1 = q.1 /\ RelV p.2 q.2
def kV : Key -> V
 | .inl i => .int i
 | .inr x => .str x
inductive HO where
 | lst (xs : List V)
 | tup (xs : List V)
 | dK (kvs : List (Key × V)) | dT (kvs : List (List Key × V))
 | set (S : Int -> Bool) (n : Nat)
 | ins (C dx : Addr) (fs : List (Str × V))
 | own (x : Addr)
 | xd (fs : List (Str × V))
 | met (f x : Addr)
 | rng (lo hi : Int)
 | frz (o : Obj) (u : HO)
 | tbl (ps : Array Value)
 | ext (φ : Heap -> Prop)
abbrev Hp := Addr -> Option HO
def upd (H : Hp) (a : Addr) (o : HO) : Hp := fun b => if b = a then some o else H b
theorem upd_same {H : Hp} {a : Addr} {o : HO} : upd H a o a = some o := by unfold upd; rw [if_pos rfl]
theorem upd_ne {H : Hp} {a b : Addr} {o : HO} (h : b ≠ a) : upd H a o b = H b := by unfold upd; rw [if_neg h]
theorem upd_upd {H : Hp} {a : Addr} {o u : HO} : upd (upd H a o) a u = upd H a u := by
 funext b; unfold upd; split <;> rfl
theorem ne_of {H : Hp} {a b : Addr} {o u : HO} (h : H a = some o) (h' : H b = some u) (d : o ≠ u) : a ≠ b := by
 intro e; subst e; rw [h] at h'; exact d (Option.some.inj h')
theorem ne_of_none {H : Hp} {a b : Addr} {o : HO} (h : H a = some o) (h' : H b = none) : a ≠ b := by
 intro e; subst e; rw [h] at h'; cases h'
def TupN (h : Heap) (a : Addr) (items : Array Value) : Prop := ∃ o, h.get? a = some o /\ o.cls = .type "tuple" /\ ∃ n, o.data = .seq items n /\ o.dict = none
theorem TupN.is {h : Heap} {a : Addr} {items : Array Value} (x : TupN h a items) : IsTup h a items := let ⟨o, e, c, n, d, _⟩ := x; ⟨o, e, c, n, d⟩
theorem TupN.new (h : Heap) (items : Array Value) : TupN (h.push { cls := .type "tuple", data := .seq items }) h.objs.size items := ⟨_, Heap.get?_push_size _ rfl, rfl, _, rfl, rfl⟩
section
variable (P : Program) (w : World)
def ObjOk (H : Hp) (h : Heap) (a : Addr) : HO -> Prop
 | .lst xs => xs.length <= sizeLine /\ ∃ (its : List Value) (n : Nat), Vals xs its /\ h.get? a = some { cls := .type "list", data := .seq its.toArray n }
 | .tup xs => xs.length <= sizeLine /\ ∃ its : List Value, Vals xs its /\ TupN h a its.toArray
 | .dK kvs => kvs.length <= sizeLine /\ (a == sysModules) = false /\ ∃ vs, KV kvs vs /\ h.DictOf (mixKind P w) a vs
 | .dT kvs => kvs.length <= sizeLine /\ (a == sysModules) = false /\ ∃ xs : List (List Key × Addr × Value),
   Paired (fun (p : List Key × V) (q : List Key × Addr × Value) => p.1 = q.1 /\ H q.2.1 = some (.tup (p.1.map kV)) /\ RelV p.2 q.2.2) kvs xs /\
   ∃ o es ep, h.get? a = some o /\ o.ExactDict /\ o.data = .dict es ep /\ es.toList = xs.map (entryOfKey (tupleKind (mixKind P w))) /\ (xs.map (·.1)).Nodup
 | .set S n => h.SetOf (intKind P w) a S n
 | .ins C dx fs => H dx = some (.own a) /\ fs.length <= 1000 /\ dx ≠ a /\ h.get? a = some (PySem.W.instObj C dx) /\
   ∃ mA, h.Ns1 dx mA /\ (∀ f, RelO (fs.lookup f) (mA f)) /\ PySem.Within mA (fs.map (·.1))
 | .own _ => ∃ o, h.get? a = some o
 | .xd fs => ∃ mA, h.Ns1 a mA /\ ∀ f, RelO (fs.lookup f) (mA f)
 | .rng lo hi => ∃ t u v, h.get? a = some { cls := .type "range", data := .fields #[.int lo t, .int hi u, .int 1 v] }
 | .frz o u => h.get? a = some o /\ ObjOk H h a u
 | .tbl ps => h.get? a = some { cls := .none, data := .fields ps }
 | .met f x => h.get? a = some (PySem.W.methodObj (.ref f) (.ref x))
 | .ext φ => φ h /\ (∃ o, h.get? a = some o) /\ ∀ h1 h2 : Heap, φ h1 -> (∀ o, h1.get? a = some o -> h2.get? a = some o) -> φ h2
def HOk (H : Hp) (h : Heap) : Prop := ∀ a o, H a = some o -> ObjOk P w H h a o
end
section
variable {P : Program} {w : World} {H H' : Hp} {h h' : Heap} {a : Addr} {o : HO}
theorem ObjOk.lt (x : ObjOk P w H h a o) : a < h.objs.size := by
 cases o with
 | lst xs => obtain ⟨_, _, _, _, e⟩ := x; exact Heap.lt_size e
 | tup xs => obtain ⟨_, _, _, p⟩ := x; exact p.is.lt
 | dK kvs => obtain ⟨_, _, _, _, o, _, _, e, _⟩ := x; exact Heap.lt_size e
 | dT kvs => obtain ⟨_, _, _, _, o, _, _, e, _⟩ := x; exact Heap.lt_size e
 | set S n => obtain ⟨o, _, _, _, e, _⟩ := x; exact Heap.lt_size e
 | ins C dx fs => obtain ⟨_, _, _, e, _⟩ := x; exact Heap.lt_size e
 | own y => obtain ⟨_, e⟩ := x; exact Heap.lt_size e
 | xd fs => obtain ⟨_, ⟨_, _, _, e, _⟩, _⟩ := x; exact Heap.lt_size e
 | rng lo hi => obtain ⟨_, _, _, e⟩ := x; exact Heap.lt_size e
 | frz ob u => obtain ⟨e, _⟩ := x; exact Heap.lt_size e
 | tbl ps => exact Heap.lt_size (show h.get? a = some _ from x)
 | met f y => exact Heap.lt_size (show h.get? a = some _ from x)
 | ext φ => obtain ⟨_, ⟨_, e⟩, _⟩ := x; exact Heap.lt_size e
theorem Paired.mapP {α β : Type} {F G : α -> β -> Prop} : ∀ {l₁ : List α} {l₂ : List β}, Paired F l₁ l₂ -> (∀ a b, F a b -> G a b) -> Paired G l₁ l₂
 | _, _, .nil, _ => .nil
 | _, _, .cons r t, f => .cons (f _ _ r) (Paired.mapP t f)
theorem Paired.imp' {α β : Type} {F G : α -> β -> Prop} (f : ∀ a b, F a b -> G a b) {l₁ : List α} {l₂ : List β} (r : Paired F l₁ l₂) : Paired G l₁ l₂ := Paired.mapP r f
theorem ObjOk.stay (x : ObjOk P w H h a o) (k : ∀ b u, (b = a \/ H b = some (.own a)) -> h.get? b = some u -> h'.get? b = some u)
  (ho : ∀ b, H b = some (.own a) -> H' b = some (.own a)) (ht : ∀ b xs, H b = some (.tup xs) -> H' b = some (.tup xs)) : ObjOk P w H' h' a o := by
 induction o with
 | lst xs => obtain ⟨z, its, n, r, e⟩ := x; exact ⟨z, its, n, r, k _ _ (.inl rfl) e⟩
 | tup xs => obtain ⟨z, its, r, ob, e, c⟩ := x; exact ⟨z, its, r, ob, k _ _ (.inl rfl) e, c⟩
 | dK kvs => obtain ⟨z, y, vs, r, ob, es, ep, e, c⟩ := x; exact ⟨z, y, vs, r, ob, es, ep, k _ _ (.inl rfl) e, c⟩
 | dT kvs =>
  obtain ⟨z, y, xs, r, ob, es, ep, e, c⟩ := x
  exact ⟨z, y, xs, Paired.mapP r fun p q z => ⟨z.1, ht _ _ z.2.1, z.2.2⟩, ob, es, ep, k _ _ (.inl rfl) e, c⟩
 | set S n => obtain ⟨ob, es, ep, t, e, c⟩ := x; exact ⟨ob, es, ep, t, k _ _ (.inl rfl) e, c⟩
 | ins C dx fs =>
  obtain ⟨d, z, ne, e, mA, ⟨od, es, ep, e2, c⟩, r⟩ := x
  exact ⟨ho _ d, z, ne, k _ _ (.inl rfl) e, mA, ⟨od, es, ep, k _ _ (.inr d) e2, c⟩, r⟩
 | own y => obtain ⟨ob, e⟩ := x; exact ⟨ob, k _ _ (.inl rfl) e⟩
 | xd fs => obtain ⟨mA, ⟨od, es, ep, e, c⟩, r⟩ := x; exact ⟨mA, ⟨od, es, ep, k _ _ (.inl rfl) e, c⟩, r⟩
 | rng lo hi => obtain ⟨t, u, v, e⟩ := x; exact ⟨t, u, v, k _ _ (.inl rfl) e⟩
 | frz ob u ih => obtain ⟨e, q⟩ := x; exact ⟨k _ _ (.inl rfl) e, ih q⟩
 | tbl ps =>
  have e : h.get? a = some { cls := .none, data := .fields ps } := x
  show h'.get? a = some { cls := .none, data := .fields ps }
  exact k a _ (.inl rfl) e
 | met f y =>
  have e : h.get? a = some (PySem.W.methodObj (.ref f) (.ref y)) := x
  show h'.get? a = some (PySem.W.methodObj (.ref f) (.ref y))
  exact k a _ (.inl rfl) e
 | ext φ => obtain ⟨p, ⟨o, e⟩, st⟩ := x; exact ⟨st _ _ p fun o q => k _ _ (.inl rfl) q, ⟨o, k _ _ (.inl rfl) e⟩, st⟩
theorem HOk.lt (x : HOk P w H h) (e : H a = some o) : a < h.objs.size := (x a o e).lt
theorem HOk.fresh (x : HOk P w H h) (e : h.objs.size <= a) : H a = none := by
 cases q : H a with
 | none => rfl
 | some u => exact absurd (Nat.lt_of_lt_of_le (x.lt q) e) (Nat.lt_irrefl _)
theorem HOk.kept (x : HOk P w H h) (k : ∀ b u, h.get? b = some u -> h'.get? b = some u) : HOk P w H h' := fun a o e =>
 (x a o e).stay (fun b u _ q => k b u q) (fun _ q => q) fun _ _ q => q
theorem HOk.laid (x : HOk P w H h) (k : ∀ b u, h.get? b = some u -> h'.get? b = some u) (hp : h.objs.size <= a) (new : ObjOk P w (upd H a o) h' a o) : HOk P w (upd H a o) h' := fun b u e => by
 have hn := x.fresh hp
 by_cases hb : b = a
 ·subst hb; rw [upd_same] at e; cases e; exact new
 ·rw [upd_ne hb] at e
  exact (x b u e).stay (fun c v _ q => k c v q) (fun c q => by rw [upd_ne (ne_of_none q hn)]; exact q) fun c xs q => by rw [upd_ne (ne_of_none q hn)]; exact q
end
def Rd (H : Hp) (a : Addr) (u : HO) : Prop := H a = some u \/ ∃ o, H a = some (.frz o u)
theorem Rd.of {H : Hp} {a : Addr} {u : HO} (h : H a = some u) : Rd H a u := .inl h
theorem Rd.ok {P : Program} {w : World} {H : Hp} {h : Heap} {a : Addr} {u : HO} (r : Rd H a u) (x : HOk P w H h) : ObjOk P w H h a u := by
 rcases r with r | ⟨o, r⟩
 ·exact x a u r
 ·obtain ⟨_, q⟩ := x a _ r
  exact q
def Mut : Option HO -> Prop
 | some (.lst _) => True
 | some (.dK _) => True
 | some (.dT _) => True
 | some (.set _ _) => True
 | some (.ins _ _ _) => True
 | some (.ext _) => True
 | _ => False
section
variable {P : Program} {w : World} {H : Hp} {h h' : Heap} {x e : Addr} {o' : HO}
theorem HOk.write (ok : HOk P w H h) (mu : Mut (H x)) (he : e = x \/ H e = some (.own x)) (k : ∀ b u, b ≠ e -> h.get? b = some u -> h'.get? b = some u) (heo : ∃ u, h'.get? e = some u)
  (new : ObjOk P w (upd H x o') h' x o') : HOk P w (upd H x o') h' := fun b u q => by
 have nown : ∀ c y, H c = some (.own y) -> c ≠ x := fun c y r z => by subst z; rw [r] at mu; exact mu
 have ntup : ∀ c xs, H c = some (.tup xs) -> c ≠ x := fun c xs r z => by subst z; rw [r] at mu; exact mu
 by_cases hb : b = x
 ·subst hb; rw [upd_same] at q; cases q; exact new
 ·rw [upd_ne hb] at q
  by_cases hbe : b = e
  ·have q' : H b = some (.own x) := by
    rcases he with z | z
    ·exact absurd (hbe.trans z) hb
    ·rw [hbe]; exact z
   rw [q] at q'; cases q'
   obtain ⟨v, hv⟩ := heo
   exact ⟨v, by rw [hbe]; exact hv⟩
  ·refine (ok b u q).stay (fun c v hc r => k c v ?_ r) (fun c r => by rw [upd_ne (nown c b r)]; exact r) fun c xs r => by rw [upd_ne (ntup c xs r)]; exact r
   rcases hc with rfl | hc
   ·exact hbe
   ·rintro rfl
    rcases he with z | z
    ·exact nown c b hc z
    ·rw [hc] at z; cases z; exact hb rfl
end
structure Un (fs ex : List Addr) (H H' : Hp) (h h' : Heap) : Prop where
 keep : ∀ b o, h.get? b = some o -> H b = none -> b ∉ fs -> b ∉ ex -> h'.get? b = some o
 slot : ∀ b o, h.get? b = some o -> H b = none -> b ∈ fs -> b ∉ ex -> ∃ sl, h'.get? b = some { o with slots := sl }
 free : ∀ b o, h.get? b = some o -> H b = none -> b ∉ ex -> H' b = none
 there : ∀ b o, h.get? b = some o -> b ∉ ex -> ∃ o', h'.get? b = some o'
 tups : ∀ b xs, H b = some (.tup xs) -> H' b = some (.tup xs)
 frzs : ∀ b o u, H b = some (.frz o u) -> H' b = some (.frz o u)
 tbls : ∀ b ps, H b = some (.tbl ps) -> ∃ more, H' b = some (.tbl (ps ++ more))
section
variable {fs fs' ex ex' : List Addr} {H H1 H2 : Hp} {h h1 h2 h' : Heap} {a x e : Addr} {o : HO}
theorem Un.any (u : Un fs ex H H1 h h1) {b : Addr} {ob : Obj} (q : h.get? b = some ob) (n : H b = none) (hx : b ∉ ex) : ∃ sl, h1.get? b = some { ob with slots := sl } := by
 by_cases hb : b ∈ fs
 ·exact u.slot b ob q n hb hx
 ·exact ⟨ob.slots, u.keep b ob q n hb hx⟩
theorem Un.kept (k : ∀ b u, h.get? b = some u -> h'.get? b = some u) : Un fs ex H H h h' :=
 ⟨fun b ob q _ _ _ => k b ob q, fun b ob q _ _ _ => ⟨ob.slots, k b ob q⟩, fun _ _ _ n _ => n, fun b ob q _ => ⟨ob, k b ob q⟩, fun _ _ q => q, fun _ _ _ q => q, fun _ ps q => ⟨#[], by rw [q]; simp⟩⟩
theorem Un.refl : Un fs ex H H h h := Un.kept fun _ _ q => q
theorem Un.laid (k : ∀ b u, h.get? b = some u -> h'.get? b = some u) (hp : h.objs.size <= a) (hn : H a = none) : Un fs ex H (upd H a o) h h' where
 keep := fun b u q _ _ _ => k b u q
 slot := fun b u q _ _ _ => ⟨u.slots, k b u q⟩
 free := fun b u q n _ => by rw [upd_ne (Nat.ne_of_lt (Nat.lt_of_lt_of_le (Heap.lt_size q) hp))]; exact n
 there := fun b u q _ => ⟨u, k b u q⟩
 tups := fun b xs q => by rw [upd_ne (ne_of_none q hn)]; exact q
 frzs := fun b u xs q => by rw [upd_ne (ne_of_none q hn)]; exact q
 tbls := fun b ps q => ⟨#[], by rw [upd_ne (ne_of_none q hn), q]; simp⟩
theorem Un.write (mu : Mut (H x)) (he : e = x \/ H e = some (.own x)) (k : ∀ b u, b ≠ e -> h.get? b = some u -> h'.get? b = some u) (heo : ∃ u, h'.get? e = some u) : Un fs ex H (upd H x o) h h' := by
 have hx : ∀ b, H b = none -> b ≠ x := fun b n z => by subst z; rw [n] at mu; exact mu
 have hb : ∀ b, H b = none -> b ≠ e := fun b n z => by
  subst z
  rcases he with r | r
  ·exact hx b n r
  ·rw [n] at r; cases r
 have hm : ∀ b u, H b = some u -> ¬ Mut (some u) -> b ≠ x := fun b u q nm z => by subst z; rw [q] at mu; exact nm mu
 refine ⟨fun b u q n _ _ => k b u (hb b n) q, fun b u q n _ _ => ⟨u.slots, k b u (hb b n) q⟩, fun b u q n _ => by rw [upd_ne (hx b n)]; exact n, fun b u q _ => ?_,
  fun b xs q => by rw [upd_ne (hm b _ q fun z => z)]; exact q, fun b u xs q => by rw [upd_ne (hm b _ q fun z => z)]; exact q, fun b ps q => ⟨#[], by rw [upd_ne (hm b _ q fun z => z), q]; simp⟩⟩
 by_cases hbe : b = e
 ·subst hbe; exact heo
 ·exact ⟨u, k b u hbe q⟩
end
def trk (h : Heap) (H : Hp) : List Addr := (List.range h.objs.size).filter fun a => (H a).isSome
def hidT (h : Heap) (H : Hp) : Heap := PySem.W.hideAll h (trk h H)
theorem hidT_size (h : Heap) (H : Hp) : (hidT h H).objs.size = h.objs.size := PySem.W.hideAll_size _ _
theorem hidT_get {h : Heap} {H : Hp} {b : Addr} {o : Obj} (e : h.get? b = some o) (n : H b = none) : (hidT h H).get? b = some o :=
 PySem.W.hideAll_get _ e fun hm => by
  have q : (H b).isSome = true := (List.mem_filter.mp hm).2
  rw [n] at q; simp at q
theorem of_hidT {h : Heap} {H : Hp} {b : Addr} {o : Obj} (e : (hidT h H).get? b = some o) : h.get? b = some o /\ H b = none := by
 have e' : h.get? b = some o := PySem.W.of_hideAll (trk h H) e
 refine ⟨e', ?_⟩
 cases q : H b with
 | none => rfl
 | some x =>
  have hm : b ∈ trk h H := List.mem_filter.mpr ⟨List.mem_range.mpr (Heap.lt_size e'), by simp [q]⟩
  have z : (hidT h H).get? b = none := PySem.W.hideAll_none (trk h H) hm
  rw [z] at e; cases e
def allNews (g h : Heap) (L : Addr) : List (Addr × Obj) := (List.range h.objs.size).filterMap fun a => if a = L \/ (g.get? a).isSome = true then none else (h.get? a).map fun o => (a, o)
theorem mem_allNews {g h : Heap} {L a : Addr} {o : Obj} (h1 : a ≠ L) (h2 : g.get? a = none) (h3 : h.get? a = some o) : (a, o) ∈ allNews g h L :=
 List.mem_filterMap.mpr ⟨a, List.mem_range.mpr (Heap.lt_size h3), by simp [h1, h2, h3]⟩
theorem of_mem_allNews {g h : Heap} {L : Addr} {p : Addr × Obj} (hp : p ∈ allNews g h L) : p.1 ≠ L /\ g.get? p.1 = none /\ h.get? p.1 = some p.2 := by
 obtain ⟨b, _, e⟩ := List.mem_filterMap.mp hp
 split at e
 ·cases e
 ·rename_i hn
  cases q : h.get? b with
  | none => rw [q] at e; simp at e
  | some u =>
   rw [q] at e
   simp only [Option.map_some, Option.some.injEq] at e
   subst e
   refine ⟨fun z => hn (.inl z), ?_, q⟩
   show g.get? b = none
   cases r : g.get? b with
   | none => rfl
   | some v => exact (hn (.inr (by simp [r]))).elim
theorem news_all {g h : Heap} {L : Addr} : News g L h (allNews g h L) := fun p hp => let ⟨a, b, c⟩ := of_mem_allNews hp; ⟨c, a, b⟩
end L2
namespace L2
open PySem PySem.Spec PyProof.Rows
structure Mod (K : PySem.W.Frag) (mg : Str -> Option Value) (base : Heap) : Prop where
 kin : K.In base
 glob : base.Ns mainGlobals mg
 blt : ∃ mb, base.Ns builtinsNs mb /\ ∀ x : Str, x ≠ "__name__" -> mb x = bootBuiltins x
 nolimit : base.NoLimit
structure Cx where
 prog : Program
 w : World
 K : PySem.W.Frag
 mg : Str -> Option Value
 base : Heap
 A : Around
 N : List Str
 s₀ : Shared
 H₀ : Hp
 env : Env
 outer : List Env
 stack : List Env
 ex : List Addr
 fn : Str -> Bool
 calm : Bool
 pn : List (Addr × Obj)
 xe : Value -> Shared -> Prop
def frs (l : List Env) : List Addr := l.filterMap (·.frame)
abbrev Cx.fs (X : Cx) : List Addr := frs X.outer
def Vis (sc : Scope) (x : Str) : Prop := sc.names.lookup x = some .local \/ sc.names.lookup x = some .cell \/ sc.names.lookup x = some .free
def Loc (sc : Scope) (x : Str) : Prop := sc.names.lookup x = some .local \/ sc.names.lookup x = some .cell
def Look (env : Env) (h : Heap) (m : Str -> Option Value) (x : Str) (u : Value) : Prop :=
 (env.kindOf x = some .local /\ m x = some u) \/ ((env.kindOf x = some .cell \/ env.kindOf x = some .free) /\ ∃ c, env.cells.lookup x = some c /\ h.IsCell c (some u))
structure Cx.Ok (X : Cx) : Prop where
 mod : Mod X.K X.mg X.base
 kind : X.env.scope.kind = .function
 glob : X.env.globals = mainGlobals
 blt : X.env.builtins = builtinsNs
 above : X.s₀.heap.objs.size <= X.env.locals
 inj : ∀ x y c, X.env.cells.lookup x = some c -> X.env.cells.lookup y = some c -> x = y
 has : ∀ x, (X.env.kindOf x = some .cell \/ X.env.kindOf x = some .free) -> ∃ c, X.env.cells.lookup x = some c
 cab : ∀ x c, X.fn x = true -> X.env.cells.lookup x = some c -> X.s₀.heap.objs.size <= c
 hd : X.calm = true -> X.A.handled = none
 frames : X.A.frames = some X.stack
 stk : X.stack = X.outer \/ (X.stack = X.env :: X.outer /\ X.env.frame = some X.env.locals)
 exf : ∀ b ∈ X.ex, b ≠ X.env.locals /\ ∀ x c, X.env.cells.lookup x = some c -> c ≠ b
 bs : ∀ b o, X.base.get? b = some o -> X.s₀.heap.get? b = some o /\ X.H₀ b = none
 bsz : X.base.objs.size <= X.s₀.heap.objs.size
 noex : ∀ b o, X.base.get? b = some o -> b ∉ X.ex
 exfs : ∀ b ∈ X.ex, b ∉ X.fs
 funs : X.s₀.heap.FunFrames X.base X.outer
 frf : ∀ b ∈ X.fs, X.H₀ b = none
structure Inv (X : Cx) (pins : List (Addr × Obj)) (σ : List (Option V)) (H : Hp) (s : Shared) : Prop where
 ok : X.Ok
 os : s.os = X.s₀.os
 bare : AllBare s.gens
 base : Un X.fs X.ex X.H₀ H X.s₀.heap s.heap
 loc : ∃ m, s.heap.Ns X.env.locals m /\ ∀ (i : Nat) (x : Str) (v : V), X.N[i]? = some x -> σ[i]? = some (some v) -> Vis X.env.scope x -> ∃ u, RelV v u /\ Look X.env s.heap m x u
 cell : ∀ x c, X.env.cells.lookup x = some c -> ∃ v, s.heap.IsCell c v
 free : H X.env.locals = none
 freeC : ∀ x c, X.env.cells.lookup x = some c -> H c = none
 pin : ∀ p ∈ X.pn ++ pins, s.heap.get? p.1 = some p.2 /\ H p.1 = none /\ p.1 ≠ X.env.locals /\ p.1 ∉ X.fs /\ ∀ v, p.2.data ≠ .cell v
 hok : HOk X.prog X.w H s.heap
 len : σ.length = X.N.length
section
variable {X : Cx} {pins : List (Addr × Obj)} {σ : List (Option V)} {H H' : Hp} {s : Shared} {h' : Heap}
theorem Cx.Ok.nofr (ok : X.Ok) {b : Addr} {o : Obj} (e : X.base.get? b = some o) : b ∉ X.fs := fun hb => by
 have := (ok.funs.mem hb).1
 rw [e] at this; cases this
theorem Inv.bs (I : Inv X pins σ H s) : ∀ b o, X.base.get? b = some o -> s.heap.get? b = some o /\ H b = none := fun b o e =>
 ⟨I.base.keep b o (I.ok.bs b o e).1 (I.ok.bs b o e).2 (I.ok.nofr e) (I.ok.noex b o e), I.base.free b o (I.ok.bs b o e).1 (I.ok.bs b o e).2 (I.ok.noex b o e)⟩
theorem Inv.bk (I : Inv X pins σ H s) : ∀ b o, X.base.get? b = some o -> s.heap.get? b = some o := fun b o e => (I.bs b o e).1
theorem Inv.mod (I : Inv X pins σ H s) : Mod X.K X.mg X.base := I.ok.mod
theorem Inv.kIn (I : Inv X pins σ H s) : X.K.In s.heap := I.ok.mod.kin.keeps I.bk
theorem Inv.lt (I : Inv X pins σ H s) : X.env.locals < s.heap.objs.size := let ⟨_, hn, _⟩ := I.loc; hn.lt
theorem Inv.sz (I : Inv X pins σ H s) : X.s₀.heap.objs.size <= s.heap.objs.size := Nat.le_trans I.ok.above (Nat.le_of_lt I.lt)
theorem Inv.nofs (I : Inv X pins σ H s) {a : Addr} (h : s.heap.objs.size <= a) : a ∉ X.fs := fun hb => by
 obtain ⟨_, o, ho, _⟩ := I.ok.funs.mem hb
 exact absurd (Nat.lt_of_lt_of_le (Heap.lt_size ho) (Nat.le_trans I.sz h)) (Nat.lt_irrefl _)
theorem Inv.cne (I : Inv X pins σ H s) : ∀ x c, X.env.cells.lookup x = some c -> c ≠ X.env.locals := fun x c e z => by
 obtain ⟨v, o, ho, hd⟩ := I.cell x c e
 obtain ⟨m, ⟨o', es, ep, ho', hd', _⟩, _⟩ := I.loc
 rw [z, ho'] at ho; cases ho; rw [hd'] at hd; cases hd
theorem Inv.funs (I : Inv X pins σ H s) : s.heap.FunFrames X.base X.outer := by
 have all : ∀ (l : List Env), (∀ b ∈ frs l, b ∈ X.fs) -> X.s₀.heap.FunFrames X.base l -> s.heap.FunFrames X.base l := by
  intro l
  induction l with
  | nil => intro _ _; trivial
  | cons env r ih =>
   intro hs hl
   obtain ⟨hk, ⟨L, o, hf, hn, ho, hd⟩, hr⟩ := hl
   have hL : L ∈ X.fs := hs L (by unfold frs; rw [List.filterMap_cons, hf]; exact List.mem_cons_self)
   obtain ⟨sl, e⟩ := I.base.slot L o ho (I.ok.frf L hL) hL fun z => I.ok.exfs L z hL
   exact ⟨hk, ⟨L, _, hf, hn, e, hd⟩, ih (fun b hb => hs b (by unfold frs; rw [List.filterMap_cons, hf]; exact List.mem_cons_of_mem _ hb)) hr⟩
 exact all X.outer (fun _ hb => hb) I.ok.funs
theorem Inv.stack (I : Inv X pins σ H s) : s.heap.FunFrames X.base X.stack := by
 rcases I.ok.stk with e | ⟨e, hf⟩
 ·rw [e]; exact I.funs
 ·rw [e]
  obtain ⟨m, hn, _⟩ := I.loc
  refine .cons (by rw [I.ok.kind]; decide) hf hn ?_ I.funs
  exact Heap.get?_none_of_le (Nat.le_trans I.ok.bsz I.ok.above)
theorem Inv.stkSub (I : Inv X pins σ H s) : ∀ b ∈ frs X.stack, b ∈ X.env.locals :: X.fs := fun b hb => by
 rcases I.ok.stk with e | ⟨e, hf⟩
 ·rw [e] at hb; exact List.mem_cons_of_mem _ hb
 ·rw [e] at hb
  unfold frs at hb
  rw [List.filterMap_cons, hf] at hb
  exact hb
theorem Inv.stkFree (I : Inv X pins σ H s) : ∀ b ∈ frs X.stack, H b = none := fun b hb => by
 rcases List.mem_cons.mp (I.stkSub b hb) with e | hb
 ·rw [e]; exact I.free
 ·obtain ⟨_, o, ho, _⟩ := I.ok.funs.mem hb
  exact I.base.free b o ho (I.ok.frf b hb) fun z => I.ok.exfs b z hb
theorem Inv.step {g' : Array GenState} {t' : Nat} {d' : Drawn} {ch : List Addr} (I : Inv X pins σ H s)
  (hch : ∀ b ∈ ch, (b ∈ X.ex \/ X.s₀.heap.objs.size <= b) /\ b ≠ X.env.locals /\ (∀ x c, X.env.cells.lookup x = some c -> c ≠ b) /\ ∀ p ∈ X.pn ++ pins, p.1 ≠ b)
  (keep : ∀ b o, b ≠ X.env.locals -> b ∉ X.fs -> b ∉ ch -> s.heap.get? b = some o -> H b = none -> h'.get? b = some o)
  (slot : ∀ b o, b ≠ X.env.locals -> b ∈ X.fs -> b ∉ ch -> s.heap.get? b = some o -> H b = none -> ∃ sl, h'.get? b = some { o with slots := sl }) (free : ∀ b o, b ∉ ch -> s.heap.get? b = some o -> H b = none -> H' b = none)
  (there : ∀ b o, b ∉ ch -> s.heap.get? b = some o -> ∃ o', h'.get? b = some o')
  (tups : ∀ b xs, H b = some (.tup xs) -> H' b = some (.tup xs)) (frzs : ∀ b o u, H b = some (.frz o u) -> H' b = some (.frz o u)) (tbls : ∀ b ps, H b = some (.tbl ps) -> ∃ more, H' b = some (.tbl (ps ++ more)))
  (ns : ∀ m, s.heap.Ns X.env.locals m -> h'.Ns X.env.locals m) (hok : HOk X.prog X.w H' h') (hg : AllBare g') :
  Inv X pins σ H' { s with heap := h', gens := g', drawn := d', toks := t' } := by
 have neL : ∀ b o, X.s₀.heap.get? b = some o -> b ≠ X.env.locals := fun b o e => Nat.ne_of_lt (Nat.lt_of_lt_of_le (Heap.lt_size e) I.ok.above)
 have neC : ∀ b o, X.s₀.heap.get? b = some o -> b ∉ X.ex -> b ∉ ch := fun b o e hx hb => by
  rcases (hch b hb).1 with z | z
  ·exact hx z
  ·exact absurd (Nat.lt_of_lt_of_le (Heap.lt_size e) z) (Nat.lt_irrefl _)
 have cellK : ∀ x c, X.env.cells.lookup x = some c -> ∀ v, s.heap.IsCell c v -> h'.IsCell c v := fun x c e v ⟨o, ho, hd⟩ => by
  have nch : c ∉ ch := fun z => (hch c z).2.2.1 x c e rfl
  by_cases hc : c ∈ X.fs
  ·obtain ⟨sl, q⟩ := slot c o (I.cne x c e) hc nch ho (I.freeC x c e)
   exact ⟨_, q, hd⟩
  ·exact ⟨o, keep c o (I.cne x c e) hc nch ho (I.freeC x c e), hd⟩
 refine ⟨I.ok, I.os, hg, ⟨fun b o e n hb hx => ?_, fun b o e n hb hx => ?_, fun b o e n hx => ?_, fun b o e hx => ?_, fun b xs e => tups b xs (I.base.tups b xs e), fun b o xs e => frzs b o xs (I.base.frzs b o xs e), fun b ps e => ?_⟩, ?_, fun x c e => ?_, ?_, fun x c e => ?_, fun p hp => ?_, hok, I.len⟩
 ·exact keep b o (neL b o e) hb (neC b o e hx) (I.base.keep b o e n hb hx) (I.base.free b o e n hx)
 ·obtain ⟨sl, e1⟩ := I.base.slot b o e n hb hx
  obtain ⟨sl', e2⟩ := slot b _ (neL b o e) hb (neC b o e hx) e1 (I.base.free b o e n hx)
  exact ⟨sl', e2⟩
 ·obtain ⟨o', e1⟩ := I.base.there b o e hx
  exact free b o' (neC b o e hx) e1 (I.base.free b o e n hx)
 ·obtain ⟨o', e1⟩ := I.base.there b o e hx
  exact there b o' (neC b o e hx) e1
 ·obtain ⟨m1, e1⟩ := I.base.tbls b ps e
  obtain ⟨m2, e2⟩ := tbls b _ e1
  exact ⟨m1 ++ m2, by rw [e2, Array.append_assoc]⟩
 ·obtain ⟨m, hn, hl⟩ := I.loc
  refine ⟨m, ns m hn, fun i x v e1 e2 e3 => ?_⟩
  obtain ⟨u, r, l⟩ := hl i x v e1 e2 e3
  refine ⟨u, r, ?_⟩
  rcases l with l | ⟨k, c, e, z⟩
  ·exact .inl l
  ·exact .inr ⟨k, c, e, cellK x c e _ z⟩
 ·obtain ⟨v, z⟩ := I.cell x c e
  exact ⟨v, cellK x c e v z⟩
 ·obtain ⟨m, ⟨o, _, _, ho, _⟩, _⟩ := I.loc
  exact free _ o (fun z => (hch _ z).2.1 rfl) ho I.free
 ·obtain ⟨v, o, ho, hd⟩ := I.cell x c e
  exact free c o (fun z => (hch c z).2.2.1 x c e rfl) ho (I.freeC x c e)
 ·obtain ⟨e, n, ne, nf, d⟩ := I.pin p hp
  have nch : p.1 ∉ ch := fun z => (hch p.1 z).2.2.2 p hp rfl
  exact ⟨keep p.1 p.2 ne nf nch e n, free p.1 p.2 nch e n, ne, nf, d⟩
theorem Inv.un {t' : Nat} (I : Inv X pins σ H s) (u : Un X.fs [] H H' s.heap h') (hok : HOk X.prog X.w H' h') : Inv X pins σ H' { s with heap := h', toks := t' } := by
 obtain ⟨m, ⟨o, es, ep, ho, r⟩, _⟩ := id I.loc
 obtain ⟨sl, hL⟩ := u.any ho I.free (by simp)
 exact I.step (g' := s.gens) (d' := s.drawn) (ch := []) (fun _ z => nomatch z) (fun b o _ hb _ e n => u.keep b o e n hb (by simp)) (fun b o _ hb _ e n => u.slot b o e n hb (by simp)) (fun b o _ e n => u.free b o e n (by simp)) (fun b o _ e => u.there b o e (by simp)) u.tups u.frzs u.tbls (fun m' hm => by
  obtain ⟨o', es', ep', ho', r'⟩ := hm
  rw [ho] at ho'; cases ho'
  exact ⟨_, es', ep', hL, r'⟩) hok I.bare
theorem Inv.call {g' : Array GenState} {t' : Nat} {d' : Drawn} {ch : List Addr} (I : Inv X pins σ H s) (u : Un (frs X.stack) ch H H' s.heap h') (hok : HOk X.prog X.w H' h') (hg : AllBare g')
  (hch : ∀ b ∈ ch, (b ∈ X.ex \/ X.s₀.heap.objs.size <= b) /\ b ≠ X.env.locals /\ (∀ x c, X.env.cells.lookup x = some c -> c ≠ b) /\ ∀ p ∈ X.pn ++ pins, p.1 ≠ b) :
  Inv X pins σ H' { s with heap := h', gens := g', drawn := d', toks := t' } := by
 obtain ⟨m, ⟨o, es, ep, ho, r⟩, _⟩ := id I.loc
 obtain ⟨sl, hL⟩ := u.any ho I.free fun z => (hch _ z).2.1 rfl
 exact I.step (ch := ch) hch (fun b o hL hb hc e n => u.keep b o e n (fun z => (List.mem_cons.mp (I.stkSub b z)).elim hL hb) hc) (fun b o _ _ hc e n => u.any e n hc) (fun b o hc e n => u.free b o e n hc) (fun b o hc e => u.there b o e hc) u.tups u.frzs u.tbls (fun m' hm => by
  obtain ⟨o', es', ep', ho', r'⟩ := hm
  rw [ho] at ho'; cases ho'
  exact ⟨_, es', ep', hL, r'⟩) hok hg
theorem Inv.turned {t' : Nat} {it : Addr} (I : Inv X pins σ H s) (k : ∀ b o, b ≠ it -> s.heap.get? b = some o -> h'.get? b = some o) (hn : H it = none) (hL : it ≠ X.env.locals)
  (h1 : it ∈ X.ex \/ X.s₀.heap.objs.size <= it) (h2 : ∀ x c, X.env.cells.lookup x = some c -> c ≠ it) (h3 : ∀ p ∈ X.pn ++ pins, p.1 ≠ it) : Inv X pins σ H { s with heap := h', toks := t' } := by
 have nit : ∀ b u, H b = some u -> b ≠ it := fun b u e z => by rw [z, hn] at e; cases e
 refine I.step (g' := s.gens) (d' := s.drawn) (ch := [it]) (fun b hb => ?_) (fun b o _ _ hc e _ => k b o (fun z => hc (by simp [z])) e) (fun b o _ _ hc e _ => ⟨o.slots, k b o (fun z => hc (by simp [z])) e⟩) (fun _ _ _ _ n => n)
  (fun b o hc e => ⟨o, k b o (fun z => hc (by simp [z])) e⟩) (fun _ _ e => e) (fun _ _ _ e => e) (fun b ps e => ⟨#[], by rw [e]; simp⟩) (fun m hm => ?_) (fun b u e => ?_) I.bare
 ·have e : b = it := by simpa using hb
  subst e
  exact ⟨h1, hL, h2, h3⟩
 ·obtain ⟨o, es, ep, ho, r⟩ := hm
  exact ⟨o, es, ep, k _ o (Ne.symm hL) ho, r⟩
 ·refine (I.hok b u e).stay (fun c v hc q => k c v ?_ q) (fun _ q => q) fun _ _ q => q
  rcases hc with z | z
  ·rw [z]; exact nit b u e
  ·exact nit c _ z
theorem Inv.tok (I : Inv X pins σ H s) (t : Nat) : Inv X pins σ H { s with toks := t } := I.un (h' := s.heap) (t' := t) Un.refl I.hok
theorem Inv.kept {t' : Nat} (I : Inv X pins σ H s) (k : ∀ b u, s.heap.get? b = some u -> h'.get? b = some u) : Inv X pins σ H { s with heap := h', toks := t' } := I.un (Un.kept k) (I.hok.kept k)
theorem Inv.laid {a : Addr} {o : HO} {t' : Nat} (I : Inv X pins σ H s) (k : ∀ b u, s.heap.get? b = some u -> h'.get? b = some u) (hp : s.heap.objs.size <= a) (new : ObjOk X.prog X.w (upd H a o) h' a o) :
  Inv X pins σ (upd H a o) { s with heap := h', toks := t' } := I.un (Un.laid k hp (I.hok.fresh hp)) (I.hok.laid k hp new)
theorem Inv.write {x e : Addr} {o : HO} {t' : Nat} (I : Inv X pins σ H s) (mu : Mut (H x)) (he : e = x \/ H e = some (.own x)) (k : ∀ b u, b ≠ e -> s.heap.get? b = some u -> h'.get? b = some u) (heo : ∃ u, h'.get? e = some u)
  (new : ObjOk X.prog X.w (upd H x o) h' x o) : Inv X pins σ (upd H x o) { s with heap := h', toks := t' } := I.un (Un.write mu he k heo) (I.hok.write mu he k heo new)
theorem Inv.pins_of {pins' : List (Addr × Obj)} (I : Inv X pins σ H s) (h : ∀ p ∈ pins', s.heap.get? p.1 = some p.2 /\ H p.1 = none /\ p.1 ≠ X.env.locals /\ p.1 ∉ X.fs /\ ∀ v, p.2.data ≠ .cell v) : Inv X pins' σ H s :=
 ⟨I.ok, I.os, I.bare, I.base, I.loc, I.cell, I.free, I.freeC, fun p hp => (List.mem_append.mp hp).elim (fun z => I.pin p (List.mem_append_left _ z)) (h p), I.hok, I.len⟩
theorem nodup_ix {N : List Str} (hN : N.Nodup) {i j : Nat} {x : Str} (a : N[i]? = some x) (b : N[j]? = some x) : i = j := by
 obtain ⟨h1, e1⟩ := List.getElem?_eq_some_iff.mp a
 obtain ⟨h2, e2⟩ := List.getElem?_eq_some_iff.mp b
 exact (List.getElem_inj hN).mp (e1.trans e2.symm)
theorem store_ok2 {M : Model} {A : Around} {E : Value -> Shared -> Prop} {i : Nat} {x : Str} {v : V} {u : Value} {Q : Unit -> Shared -> Prop} (I : Inv X pins σ H s) (hN : X.N.Nodup) (hi : X.N[i]? = some x) (hx : Loc X.env.scope x) (r : RelV v u)
  (h : ∀ s', Inv X pins (σ.set i (some v)) H s' -> (∃ a, Heap.SameBut a s.heap s'.heap /\ (a = X.env.locals \/ X.env.cells.lookup x = some a)) -> Q () s') (hf : X.fn x = true \/ X.env.scope.names.lookup x = some .local := by first | exact .inl rfl | exact .inr rfl | assumption) : wpAny M A (storeName X.env x u) Q E s := by
 obtain ⟨m, hn, hl⟩ := id I.loc
 have hcls : (X.env.scope.kind == .class || (X.env.scope.kind == .module && X.env.locals != X.env.globals)) = false := by rw [I.ok.kind]; rfl
 have hiσ : i < σ.length := by rw [I.len]; exact (List.getElem?_eq_some_iff.mp hi).1
 have cne := I.cne
 have tracked : ∀ {a : Addr} {h' : Heap}, (∃ o, s.heap.get? a = some o /\ H a = none) -> Heap.SameBut a s.heap h' -> HOk X.prog X.w H h' := fun {a h'} ha hs b ob e => by
  obtain ⟨_, _, hfree⟩ := ha
  refine (I.hok b ob e).stay (fun c w' hc q => (hs.2 c ?_).trans q) (fun _ q => q) fun _ _ q => q
  rintro rfl
  rcases hc with rfl | hc
  ·rw [hfree] at e; cases e
  ·rw [hfree] at hc; cases hc
 rcases hx with hk | hk
 ·refine wpAny_storeName_local hk hn (fun h' hn' hs => ?_) hcls
  obtain ⟨oL, _, _, hoL, _⟩ := id hn
  refine h _ ⟨I.ok, I.os, I.bare, ⟨fun b o e n hb hx => ?_, fun b o e n hb hx => ?_, I.base.free, fun b o e hx => ?_, I.base.tups, I.base.frzs, I.base.tbls⟩, ⟨_, hn', fun j y v' e1 e2 e3 => ?_⟩, fun y c e => ?_, I.free, I.freeC, fun p hp => ?_, tracked ⟨oL, hoL, I.free⟩ hs, by simpa using I.len⟩ ⟨_, hs, .inl rfl⟩
  ·exact (hs.2 b (Nat.ne_of_lt (Nat.lt_of_lt_of_le (Heap.lt_size e) I.ok.above))).trans (I.base.keep b o e n hb hx)
  ·obtain ⟨sl, e1⟩ := I.base.slot b o e n hb hx
   exact ⟨sl, (hs.2 b (Nat.ne_of_lt (Nat.lt_of_lt_of_le (Heap.lt_size e) I.ok.above))).trans e1⟩
  ·obtain ⟨o', e1⟩ := I.base.there b o e hx
   exact ⟨o', (hs.2 b (Nat.ne_of_lt (Nat.lt_of_lt_of_le (Heap.lt_size e) I.ok.above))).trans e1⟩
  ·by_cases hj : j = i
   ·subst hj
    rw [hi] at e1; cases e1
    rw [List.getElem?_set_self hiσ] at e2
    cases e2
    exact ⟨u, r, .inl ⟨hk, by simp⟩⟩
   ·rw [List.getElem?_set_ne (Ne.symm hj)] at e2
    obtain ⟨u', r', q⟩ := hl j y v' e1 e2 e3
    refine ⟨u', r', ?_⟩
    rcases q with ⟨k, e⟩ | ⟨k, c, e, z⟩
    ·refine .inl ⟨k, ?_⟩
     have : y ≠ x := fun e => hj (nodup_ix hN e1 (e ▸ hi))
     simp [this, e]
    ·exact .inr ⟨k, c, e, z.sameBut hs (cne y c e)⟩
  ·obtain ⟨w', z⟩ := I.cell y c e
   exact ⟨w', z.sameBut hs (cne y c e)⟩
  ·obtain ⟨e, n, ne, nf, d⟩ := I.pin p hp
   exact ⟨(hs.2 p.1 ne).trans e, n, ne, nf, d⟩
 ·have hfn : X.fn x = true := by
   rcases hf with z | z
   ·exact z
   ·rw [z] at hk; cases hk
  obtain ⟨c, hc⟩ := I.ok.has x (.inl hk)
  obtain ⟨w', z⟩ := I.cell x c hc
  refine wpAny_storeName_cell I.ok.kind hk hc z (fun h' hc' hs => ?_)
  obtain ⟨oc, hoc, hocd⟩ := id z
  refine h { s with heap := h' } ⟨I.ok, I.os, I.bare, ⟨fun b o e n hb hx => ?_, fun b o e n hb hx => ?_, I.base.free, fun b o e hx => ?_, I.base.tups, I.base.frzs, I.base.tbls⟩, ⟨m, hn.sameBut hs (Ne.symm (cne x c hc)), fun j y v' e1 e2 e3 => ?_⟩, fun y c' e => ?_, I.free, I.freeC, fun p hp => ?_, tracked ⟨oc, hoc, I.freeC x c hc⟩ hs, by simpa using I.len⟩ ⟨c, hs, .inr hc⟩
  ·exact (hs.2 b (Nat.ne_of_lt (Nat.lt_of_lt_of_le (Heap.lt_size e) (I.ok.cab x c hfn hc)))).trans (I.base.keep b o e n hb hx)
  ·obtain ⟨sl, e1⟩ := I.base.slot b o e n hb hx
   exact ⟨sl, (hs.2 b (Nat.ne_of_lt (Nat.lt_of_lt_of_le (Heap.lt_size e) (I.ok.cab x c hfn hc)))).trans e1⟩
  ·obtain ⟨o', e1⟩ := I.base.there b o e hx
   exact ⟨o', (hs.2 b (Nat.ne_of_lt (Nat.lt_of_lt_of_le (Heap.lt_size e) (I.ok.cab x c hfn hc)))).trans e1⟩
  ·by_cases hj : j = i
   ·subst hj
    rw [hi] at e1; cases e1
    rw [List.getElem?_set_self hiσ] at e2
    cases e2
    exact ⟨u, r, .inr ⟨.inl hk, c, hc, hc'⟩⟩
   ·rw [List.getElem?_set_ne (Ne.symm hj)] at e2
    obtain ⟨u', r', q⟩ := hl j y v' e1 e2 e3
    refine ⟨u', r', ?_⟩
    rcases q with q | ⟨k, c', e, z'⟩
    ·exact .inl q
    ·refine .inr ⟨k, c', e, z'.sameBut hs ?_⟩
     rintro rfl
     exact hj (nodup_ix hN e1 (I.ok.inj _ _ _ e hc ▸ hi))
  ·by_cases hcc : c' = c
   ·subst hcc; exact ⟨_, hc'⟩
   ·obtain ⟨w2, z2⟩ := I.cell y c' e
    exact ⟨w2, z2.sameBut hs hcc⟩
  ·obtain ⟨e, n, ne, nf, d⟩ := I.pin p hp
   refine ⟨(hs.2 p.1 ?_).trans e, n, ne, nf, d⟩
   intro q
   rw [q, hoc] at e
   have q' : oc = p.2 := Option.some.inj e
   exact d w' (by rw [<- q']; exact hocd)
theorem store_ok {M : Model} {A : Around} {E : Value -> Shared -> Prop} {i : Nat} {x : Str} {v : V} {u : Value} {Q : Unit -> Shared -> Prop} (I : Inv X pins σ H s) (hN : X.N.Nodup) (hi : X.N[i]? = some x) (hx : Loc X.env.scope x) (r : RelV v u)
  (h : ∀ s', Inv X pins (σ.set i (some v)) H s' -> Q () s') (hf : X.fn x = true \/ X.env.scope.names.lookup x = some .local := by first | exact .inl rfl | exact .inr rfl | assumption) : wpAny M A (storeName X.env x u) Q E s :=
 store_ok2 I hN hi hx r (fun s' I' _ => h s' I') hf
theorem Inv.call' {s' : Shared} {ch : List Addr} (I : Inv X pins σ H s) (ho : s'.os = s.os) (u : Un (frs X.stack) ch H H' s.heap s'.heap) (hok : HOk X.prog X.w H' s'.heap) (hg : AllBare s'.gens)
  (hch : ∀ b ∈ ch, (b ∈ X.ex \/ X.s₀.heap.objs.size <= b) /\ b ≠ X.env.locals /\ (∀ x c, X.env.cells.lookup x = some c -> c ≠ b) /\ ∀ p ∈ X.pn ++ pins, p.1 ≠ b) : Inv X pins σ H' s' := by
 obtain ⟨h', g', d', t', o'⟩ := s'
 have e : o' = s.os := ho
 subst e
 exact I.call (g' := g') (t' := t') (d' := d') u hok hg hch
end
abbrev XK := Value -> Option Addr -> Hp -> Prop
abbrev St := List (Option V)
abbrev VK := V -> Hp -> Prop
abbrev TE := St -> Hp -> VK -> Prop
abbrev TT := St -> Hp -> (Bool -> Hp -> Prop) -> Prop
abbrev TA := St -> Hp -> (List V -> Hp -> Prop) -> Prop
structure Ends where
 nx : St -> Hp -> Prop
 rt : VK
 bk : St -> Hp -> Prop := fun _ _ => False
 ct : St -> Hp -> Prop := fun _ _ => False
abbrev TS := Ends -> St -> Hp -> Prop
def EP (X : Cx) (pins : List (Addr × Obj)) (σ : St) (Q : VK) (u : Value) (s' : Shared) : Prop := ∃ v H', Inv X pins σ H' s' /\ RelV v u /\ Q v H'
def TP (X : Cx) (pins : List (Addr × Obj)) (σ : St) (Q : Bool -> Hp -> Prop) (b : Bool) (s' : Shared) : Prop := ∃ H', Inv X pins σ H' s' /\ Q b H'
def AP (X : Cx) (pins : List (Addr × Obj)) (σ : St) (Q : List V -> Hp -> Prop) (us : List Value) (s' : Shared) : Prop := ∃ vs H', Inv X pins σ H' s' /\ Vals vs us /\ Q vs H'
def SP (X : Cx) (pins : List (Addr × Obj)) (D : Ends) (f : Flow) (s' : Shared) : Prop :=
 match f with
 | .next => ∃ σ' H', Inv X pins σ' H' s' /\ D.nx σ' H'
 | .brk => ∃ σ' H', Inv X pins σ' H' s' /\ D.bk σ' H'
 | .cont => ∃ σ' H', Inv X pins σ' H' s' /\ D.ct σ' H'
 | .ret u => ∃ v σ' H', Inv X pins σ' H' s' /\ RelV v u /\ D.rt v H'
def PE (X : Cx) (e : Expr) (t : TE) : Prop :=
 ∀ (pins : List (Addr × Obj)) (s : Shared) (σ : St) (H : Hp) (Q : VK), Inv X pins σ H s -> t σ H Q -> wpAny (model X.prog X.w) X.A (eval e X.env) (EP X pins σ Q) X.xe s
def PT (X : Cx) (e : Expr) (t : TT) : Prop :=
 ∀ (pins : List (Addr × Obj)) (s : Shared) (σ : St) (H : Hp) (Q : Bool -> Hp -> Prop), Inv X pins σ H s -> t σ H Q -> wpAny (model X.prog X.w) X.A (isTrue e X.env (eval e X.env)) (TP X pins σ Q) X.xe s
def PW (X : Cx) (e : Expr) (t : TT) : Prop :=
 ∀ (whole : Sem Value) (pins : List (Addr × Obj)) (s : Shared) (σ : St) (H : Hp) (Q : Bool -> Hp -> Prop), Inv X pins σ H s -> t σ H Q -> wpAny (model X.prog X.w) X.A (isTrue e X.env whole) (TP X pins σ Q) X.xe s
theorem PW.pt {X : Cx} {e : Expr} {t : TT} (h : PW X e t) : PT X e t := h _
def PA (X : Cx) (es : List Expr) (t : TA) : Prop :=
 ∀ (pos : Pos) (pins : List (Addr × Obj)) (s : Shared) (σ : St) (H : Hp) (Q : List V -> Hp -> Prop), Inv X pins σ H s -> t σ H Q -> wpAny (model X.prog X.w) X.A (spliced (backTo pos (starEach es X.env))) (AP X pins σ Q) X.xe s
def PS (X : Cx) (st : Stmt) (t : TS) : Prop :=
 ∀ (pins : List (Addr × Obj)) (s : Shared) (σ : St) (H : Hp) (D : Ends), Inv X pins σ H s -> t D σ H -> wpAny (model X.prog X.w) X.A (exec st X.env) (SP X pins D) X.xe s
def PSs (X : Cx) (st : List Stmt) (t : TS) : Prop :=
 ∀ (pins : List (Addr × Obj)) (s : Shared) (σ : St) (H : Hp) (D : Ends), Inv X pins σ H s -> t D σ H -> wpAny (model X.prog X.w) X.A (execs st X.env) (SP X pins D) X.xe s
theorem thn {α : Type} {t : Sem α} {Q Q' : α -> Shared -> Prop} {M : Model} {A : Around} {E : Value -> Shared -> Prop} {s : Shared} (h : wpAny M A t Q E s) (hQ : ∀ a s, Q a s -> Q' a s) : wpAny M A t Q' E s := wpAny_mono h hQ fun _ _ x => x
end L2
namespace L2
open PySem PySem.Spec PyProof.Rows
section
variable {X : Cx}
def tVar (i : Nat) : TE := fun σ H Q => ∃ v, σ[i]? = some (some v) /\ Q v H
def tC (v : V) : TE := fun _ H Q => Q v H
theorem pe_var {i : Nat} {x : Str} {pos : Pos} (hN : X.N[i]? = some x) (hv : Vis X.env.scope x) (hd : (x == ("__debug__" : Str)) = false := by decide) (hcd : (x == ("__classdict__" : Str)) = false := by decide) : PE X (.Name x pos) (tVar i) := by
 intro pins s σ H Q I h
 obtain ⟨v, e, h⟩ := h
 obtain ⟨m, hn, hl⟩ := I.loc
 obtain ⟨u, r, l⟩ := hl i x v hN e hv
 have fin : EP X pins σ Q u s := ⟨v, H, I, r, h⟩
 rcases l with ⟨hk, hm⟩ | ⟨hk, c, hc, hcell⟩
 ·exact wpAny_Name (wpAny_loadName_local I.ok.kind hk hn hm fin) hd
 ·rcases hk with hk | hk
  ·exact wpAny_Name (wpAny_loadName_cell I.ok.kind hk hc hcell fin) hd
  ·exact wpAny_Name (wpAny_loadName_free I.ok.kind hk hc hcell fin hcd) hd
theorem pe_int {i j pos} : PE X (.Constant (.int i) j pos) (tC (.int i)) := fun _ _ _ H _ I h => wpAny_Constant_int ⟨.int i, H, I.tok _, ⟨_, rfl⟩, h⟩
theorem pe_bl {b j pos} : PE X (.Constant (.bool b) j pos) (tC (.bl b)) := fun _ _ _ H _ I h => Constant_bool ⟨.bl b, H, I, rfl, h⟩
theorem pe_non {j pos} : PE X (.Constant .none j pos) (tC .non) := fun _ _ _ H _ I h => Constant_none ⟨.non, H, I, rfl, h⟩
theorem pe_str {x j pos} : PE X (.Constant (.str x) j pos) (tC (.str x)) := fun _ _ _ H _ I h => Calls.Constant_str ⟨.str x, H, I.tok _, ⟨_, rfl⟩, h⟩
def Gl (X : Cx) (x : Str) : Prop := X.env.kindOf x = some .globalImplicit
theorem ld_glob {E : Value -> Shared -> Prop} {pins : List (Addr × Obj)} {s : Shared} {σ : St} {H : Hp} {x : Str} {u : Value} {pos : Pos} {Q : Value -> Shared -> Prop} (I : Inv X pins σ H s) (hg : Gl X x) (hm : X.mg x = some u) (h : Q u s)
  (hd : (x == ("__debug__" : Str)) = false := by decide) : wpAny (model X.prog X.w) X.A (eval (.Name x pos) X.env) Q E s :=
 Calls.Name_function_global I.ok.kind hg (Calls.loadGlobal_global (by rw [I.ok.glob]; exact I.mod.glob.keeps I.bk) hm h) hd
theorem ld_blt {E : Value -> Shared -> Prop} {pins : List (Addr × Obj)} {s : Shared} {σ : St} {H : Hp} {x : Str} {u : Value} {pos : Pos} {Q : Value -> Shared -> Prop} (I : Inv X pins σ H s) (hg : Gl X x) (hm : X.mg x = none) (hv : bootBuiltins x = some u) (h : Q u s)
  (hn : x ≠ "__name__" := by decide) (hd : (x == ("__debug__" : Str)) = false := by decide) : wpAny (model X.prog X.w) X.A (eval (.Name x pos) X.env) Q E s := by
 obtain ⟨mb, h1, h2⟩ := I.mod.blt
 exact Calls.Name_function_global I.ok.kind hg (Calls.loadGlobal_builtin (by rw [I.ok.glob]; exact I.mod.glob.keeps I.bk) hm (by rw [I.ok.blt]; exact h1.keeps I.bk) ((h2 x hn).trans hv) h) hd
theorem pe_bltn {x : Str} {v : V} {u : Value} {pos : Pos} (hg : Gl X x) (hm : X.mg x = none) (hv : bootBuiltins x = some u) (r : RelV v u) (hn : x ≠ "__name__" := by decide) (hd : (x == ("__debug__" : Str)) = false := by decide) : PE X (.Name x pos) (tC v) :=
 fun _ _ _ H _ I h => ld_blt I hg hm hv ⟨v, H, I, r, h⟩ hn hd
variable {a b : Expr} {ta tb : TE} {pos : Pos}
def PC (X : Cx) (op : CmpOp) (a b : Expr) (t : TE) : Prop :=
 ∀ (pins : List (Addr × Obj)) (s : Shared) (σ : St) (H : Hp) (Q : VK), Inv X pins σ H s -> t σ H Q ->
  wpAny (model X.prog X.w) X.A (eval a X.env) (fun v s₁ => wpAny (model X.prog X.w) X.A (eval b X.env) (fun u s₂ => wpAny (model X.prog X.w) X.A (compareOp op v u) (EP X pins σ Q) X.xe s₂) X.xe s₁) X.xe s
def tB (t : TE) : TT := fun σ H Q => t σ H fun x H1 => ∃ c, x = .bl c /\ Q c H1
theorem pe_cmp {op : CmpOp} {t : TE} (h : PC X op a b t) (h1 : behindInMarks op b = false := by first | exact nobehind _ (by decide) (by decide) | rfl) : PE X (.Compare a [op] [b] pos) t := fun pins s σ H Q I hw => wpAny_Compare1 (h pins s σ H Q I hw) h1
theorem pt_cmp {op : CmpOp} {t : TE} (h : PC X op a b t) (h1 : behindInMarks op b = false := by first | exact nobehind _ (by decide) (by decide) | rfl) : PT X (.Compare a [op] [b] pos) (tB t) := by
 intro pins s σ H Q I hw
 refine wpAny_isTrue_Compare1 (thn (h pins s σ H _ I hw) fun v s1 h1 => thn h1 fun u s2 h2 => thn h2 fun c s3 ⟨x, H1, I1, r1, q1⟩ => ?_) h1
 obtain ⟨d, rfl, q⟩ := q1
 cases r1
 exact wpAny_truthy_bool ⟨H1, I1, q⟩
theorem pt_val {e : Expr} {t : TE} (h : PE X e t) (he : ∀ whole, isTrue e X.env whole = (do let v <- whole; standAt e.pos; holding [v] (truthy v)) := by intro _; rfl) : PT X e (tB t) := by
 intro pins s σ H Q I hw
 refine isTrue_plain (thn (h pins s σ H _ I hw) fun v s1 ⟨x, H1, I1, r1, q1⟩ => ?_) (he _)
 obtain ⟨d, rfl, q⟩ := q1
 cases r1
 exact wpAny_truthy_bool ⟨H1, I1, q⟩
variable {tA tB' : TT} {rest : List Expr}
def tAnd (t u : TT) : TT := fun σ H Q => t σ H fun c H1 => if c = true then u σ H1 Q else Q false H1
def tOr (t u : TT) : TT := fun σ H Q => t σ H fun c H1 => if c = true then Q true H1 else u σ H1 Q
def tNot (t : TT) : TT := fun σ H Q => t σ H fun c H1 => Q (!c) H1
theorem pw_and1 (ha : PT X a tA) : PW X (.BoolOp .And [a] pos) tA := by
 intro wh pins s σ H Q I h
 refine isTrue_and (thn (ha pins s σ H Q I h) fun c s1 e => ?_)
 cases c with
 | true => exact isTrue_and_nil e
 | false => exact e
theorem pw_or1 (ha : PT X a tA) : PW X (.BoolOp .Or [a] pos) tA := by
 intro wh pins s σ H Q I h
 refine isTrue_or (thn (ha pins s σ H Q I h) fun c s1 e => ?_)
 cases c with
 | false => exact isTrue_or_nil e
 | true => exact e
theorem pw_and (ha : PT X a tA) (hb : PW X (.BoolOp .And (b :: rest) pos) tB') : PW X (.BoolOp .And (a :: b :: rest) pos) (tAnd tA tB') := by
 intro wh pins s σ H Q I h
 refine isTrue_and (thn (ha pins s σ H _ I h) fun c s1 ⟨H1, I1, q1⟩ => ?_)
 cases c with
 | true => exact hb wh pins s1 σ H1 Q I1 q1
 | false => exact ⟨H1, I1, q1⟩
theorem pw_or (ha : PT X a tA) (hb : PW X (.BoolOp .Or (b :: rest) pos) tB') : PW X (.BoolOp .Or (a :: b :: rest) pos) (tOr tA tB') := by
 intro wh pins s σ H Q I h
 refine isTrue_or (thn (ha pins s σ H _ I h) fun c s1 ⟨H1, I1, q1⟩ => ?_)
 cases c with
 | true => exact ⟨H1, I1, q1⟩
 | false => exact hb wh pins s1 σ H1 Q I1 q1
theorem pt_not (ha : PT X a tA) : PT X (.UnaryOp .Not a pos) (tNot tA) := by
 intro pins s σ H Q I h
 exact isTrue_not (ha pins s σ H (fun c H1 => Q (!c) H1) I h)
def tAndV (ta tb : TE) : TE := fun σ H Q => ta σ H fun x H1 => ∃ c, x = .bl c /\ if c = true then tb σ H1 Q else Q (.bl false) H1
theorem pe_one {op} {t : TE} (h : PE X a t) : PE X (.BoolOp op [a] pos) t := fun pins s σ H Q I hw => BoolOp_one (h pins s σ H Q I hw)
theorem pe_and (ha : PE X a ta) (hb : PE X (.BoolOp .And (b :: rest) pos) tb) : PE X (.BoolOp .And (a :: b :: rest) pos) (tAndV ta tb) := by
 intro pins s σ H Q I h
 refine BoolOp_and (thn (ha pins s σ H _ I h) fun v s1 ⟨x, H1, I1, r1, q1⟩ => ?_)
 obtain ⟨c, rfl, q1⟩ := q1
 cases r1
 refine wpAny_truthy_bool ?_
 cases c with
 | true => exact hb pins s1 σ H1 Q I1 q1
 | false => exact ⟨.bl false, H1, I1, rfl, q1⟩
def tIf (t : TT) (ta tb : TE) : TE := fun σ H Q => t σ H fun c H1 => if c = true then ta σ H1 Q else tb σ H1 Q
theorem pe_ifExp {c : Expr} (hc : PT X c tA) (ha : PE X a ta) (hb : PE X b tb) : PE X (.IfExp c a b pos) (tIf tA ta tb) := by
 intro pins s σ H Q I h
 refine wpAny_IfExp (thn (hc pins s σ H _ I h) fun d s1 ⟨H1, I1, q1⟩ => ?_)
 cases d with
 | true => exact ha pins s1 σ H1 Q I1 q1
 | false => exact hb pins s1 σ H1 Q I1 q1
end
end L2
namespace L2
open PySem PySem.Spec PyProof.Rows
def SqL (K : PySem.W.Frag) (H : Hp) (a : Addr) (xs : List V) : Prop :=
 Rd H a (.lst xs) \/
  ∃ (o : Obj) (its : Array Value) (n : Nat), K.lookup a = some o /\ o.cls = .type "list" /\ o.dict = none /\ o.data = .seq its n /\ its.size <= sizeLine /\ Vals xs its.toList
def SqT (K : PySem.W.Frag) (H : Hp) (a : Addr) (xs : List V) : Prop :=
 Rd H a (.tup xs) \/
  ∃ (o : Obj) (its : Array Value) (n : Nat), K.lookup a = some o /\ o.cls = .type "tuple" /\ o.data = .seq its n /\ its.size <= sizeLine /\ Vals xs its.toList
def absV : Value -> Option V
 | .none => some .non
 | .bool b => some (.bl b)
 | .int i _ => some (.int i)
 | .str x _ => some (.str x)
 | .bytes b _ => some (.byt b)
 | .float b _ => some (.flt b)
 | .ref a => some (.ref a)
 | .type n => some (.ty n)
 | _ => none
theorem RelV.abs {x : V} {u : Value} (r : RelV x u) : absV u = some x := by
 cases x with
 | non => cases r; rfl
 | bl _ => cases r; rfl
 | int _ => obtain ⟨t, rfl⟩ := r; rfl
 | str _ => obtain ⟨t, rfl⟩ := r; rfl
 | byt _ => obtain ⟨t, rfl⟩ := r; rfl
 | flt _ => obtain ⟨t, rfl⟩ := r; rfl
 | ref _ => cases r; rfl
 | ty _ => cases r; rfl
theorem RelV.inj {x y : V} {u : Value} (r : RelV x u) (q : RelV y u) : x = y := Option.some.inj (r.abs.symm.trans q.abs)
theorem Vals.inj : ∀ {xs ys : List V} {us : List Value}, Vals xs us -> Vals ys us -> xs = ys
 | _, _, _, .nil, .nil => rfl
 | _, _, _, .cons r t, .cons r' t' => by rw [r.inj r', Vals.inj t t']
section
variable {X : Cx} {pins : List (Addr × Obj)} {σ : St} {H : Hp} {s : Shared} {a : Addr} {xs ys : List V}
theorem SqL.of {K : PySem.W.Frag} (h : H a = some (.lst xs)) : SqL K H a xs := .inl (.inl h)
theorem SqT.of {K : PySem.W.Frag} (h : H a = some (.tup xs)) : SqT K H a xs := .inl (.inl h)
theorem Inv.list (I : Inv X pins σ H s) (h : SqL X.K H a xs) : ∃ its : List Value, Vals xs its /\ PlainL s.heap a its.toArray /\ xs.length <= sizeLine := by
 rcases h with h | ⟨o, its, n, hk, hc, hd, hs, hz, r⟩
 ·obtain ⟨z, its, n, r, e⟩ := h.ok I.hok
  exact ⟨its, r, ⟨_, n, e, rfl, rfl, rfl⟩, z⟩
 ·refine ⟨its.toList, r, ⟨o, n, I.kIn a o hk, hc, hd, by simpa using hs⟩, ?_⟩
  have e := r.length
  simp only [Array.length_toList] at e
  omega
theorem Inv.tuple (I : Inv X pins σ H s) (h : SqT X.K H a xs) : ∃ its : List Value, Vals xs its /\ IsTup s.heap a its.toArray /\ xs.length <= sizeLine := by
 rcases h with h | ⟨o, its, n, hk, hc, hs, hz, r⟩
 ·obtain ⟨z, its, r, p⟩ := h.ok I.hok
  exact ⟨its, r, p.is, z⟩
 ·refine ⟨its.toList, r, ⟨o, I.kIn a o hk, hc, n, by simpa using hs⟩, ?_⟩
  have e := r.length
  simp only [Array.length_toList] at e
  omega
theorem Inv.list_inj (I : Inv X pins σ H s) (h : SqL X.K H a xs) (h' : SqL X.K H a ys) : xs = ys := by
 obtain ⟨its, r, ⟨o, n, e, _, _, d⟩, _⟩ := I.list h
 obtain ⟨its', r', ⟨o', n', e', _, _, d'⟩, _⟩ := I.list h'
 rw [e] at e'; cases e'
 rw [d] at d'
 injection d' with d1 _
 have : its = its' := by simpa using congrArg Array.toList d1
 subst this
 exact r.inj r'
theorem Inv.tuple_inj (I : Inv X pins σ H s) (h : SqT X.K H a xs) (h' : SqT X.K H a ys) : xs = ys := by
 obtain ⟨its, r, ⟨o, e, _, n, d⟩, _⟩ := I.tuple h
 obtain ⟨its', r', ⟨o', e', _, n', d'⟩, _⟩ := I.tuple h'
 rw [e] at e'; cases e'
 rw [d] at d'
 injection d' with d1 _
 have : its = its' := by simpa using congrArg Array.toList d1
 subst this
 exact r.inj r'
end
abbrev Cx.wish (X : Cx) (E : Value -> Shared -> Prop) : Cx := { X with xe := E }
abbrev Cx.nox (X : Cx) : Cx := X.wish fun _ _ => False
theorem Cx.Ok.wish {X : Cx} (ok : X.Ok) (E : Value -> Shared -> Prop) : (X.wish E).Ok :=
 ⟨ok.mod, ok.kind, ok.glob, ok.blt, ok.above, ok.inj, ok.has, ok.cab, ok.hd, ok.frames, ok.stk, ok.exf, ok.bs, ok.bsz, ok.noex, ok.exfs, ok.funs, ok.frf⟩
theorem Cx.Ok.unwish {X : Cx} {E : Value -> Shared -> Prop} (ok : (X.wish E).Ok) : X.Ok :=
 ⟨ok.mod, ok.kind, ok.glob, ok.blt, ok.above, ok.inj, ok.has, ok.cab, ok.hd, ok.frames, ok.stk, ok.exf, ok.bs, ok.bsz, ok.noex, ok.exfs, ok.funs, ok.frf⟩
section
variable {X : Cx} {pins : List (Addr × Obj)} {σ : St} {H : Hp} {s : Shared} {E : Value -> Shared -> Prop}
theorem Inv.wish (I : Inv X pins σ H s) (E : Value -> Shared -> Prop) : Inv (X.wish E) pins σ H s := ⟨I.ok.wish E, I.os, I.bare, I.base, I.loc, I.cell, I.free, I.freeC, I.pin, I.hok, I.len⟩
theorem Inv.unwish (I : Inv (X.wish E) pins σ H s) : Inv X pins σ H s := ⟨I.ok.unwish, I.os, I.bare, I.base, I.loc, I.cell, I.free, I.freeC, I.pin, I.hok, I.len⟩
theorem SP.unwish {D : Ends} {f : Flow} {s' : Shared} (h : SP (X.wish E) pins D f s') : SP X pins D f s' := by
 cases f with
 | next => obtain ⟨σ', H', I, q⟩ := h; exact ⟨σ', H', I.unwish, q⟩
 | brk => obtain ⟨σ', H', I, q⟩ := h; exact ⟨σ', H', I.unwish, q⟩
 | cont => obtain ⟨σ', H', I, q⟩ := h; exact ⟨σ', H', I.unwish, q⟩
 | ret u => obtain ⟨v, σ', H', I, r, q⟩ := h; exact ⟨v, σ', H', I.unwish, r, q⟩
theorem PSs.nox {st : List Stmt} {t : TS} (h : PSs X.nox st t) : PSs X st t := fun pins s σ H D I hw =>
 wpAny_mono (h pins s σ H D (I.wish _) hw) (fun _ _ q => q.unwish) fun _ _ z => False.elim z
end
section
variable {X : Cx} {st : Stmt} {rest : List Stmt} {t u : TS} {e : Expr} {te : TE} {pos : Pos}
def tNext : TS := fun D σ H => D.nx σ H
def tSeq (t u : TS) : TS := fun D σ H => t { D with nx := u D } σ H
theorem pss_nil : PSs X [] tNext := fun _ _ σ H _ I h => wpAny_execs_nil ⟨σ, H, I, h⟩
theorem pss_cons (h1 : PS X st t) (h2 : PSs X rest u) : PSs X (st :: rest) (tSeq t u) := by
 intro pins s σ H D I h
 refine wpAny_execs_cons (thn (h1 pins s σ H { D with nx := u D } I h) fun f s1 q => ?_)
 cases f with
 | next =>
  obtain ⟨σ', H', I', q⟩ := q
  exact h2 pins s1 σ' H' D I' q
 | ret v => exact q
 | brk => exact q
 | cont => exact q
theorem pss_one (h1 : PS X st t) : PSs X [st] t := by
 intro pins s σ H D I h
 refine wpAny_execs_cons (thn (h1 pins s σ H D I h) fun f s1 q => ?_)
 cases f with
 | next => exact wpAny_execs_nil q
 | ret v => exact q
 | brk => exact q
 | cont => exact q
theorem Inv.quiet {pins : List (Addr × Obj)} {σ : St} {H : Hp} {s : Shared} (I : Inv X pins σ H s) : interactive X.env = false := by simp [interactive, I.ok.kind]
def tDrop (te : TE) : TS := fun D σ H => te σ H fun _ H1 => D.nx σ H1
theorem ps_expr (he : PE X e te) (hs : swapsWith e none pos.line X.env = pure false := by rfl) : PS X (.Expr e pos) (tDrop te) := by
 intro pins s σ H D I h
 exact wpAny_Expr_any (thn (he pins s σ H _ I h) fun v s1 ⟨x, H1, I1, r1, q1⟩ => ⟨σ, H1, I1, q1⟩) I.quiet hs
def tRet (te : TE) : TS := fun D σ H => te σ H D.rt
theorem ps_ret (he : PE X e te) : PS X (.Return (some e) pos) (tRet te) := by
 intro pins s σ H D I h
 exact wpAny_Return_some (thn (he pins s σ H _ I h) fun v s1 ⟨x, H1, I1, r1, q1⟩ => ⟨x, σ, H1, I1, r1, q1⟩)
def tIfS (c : TT) (t u : TS) : TS := fun D σ H => c σ H fun b H1 => if b = true then t D σ H1 else u D σ H1
theorem ps_if {c : Expr} {a b : List Stmt} {tc : TT} (hc : PT X c tc) (ha : PSs X a t) (hb : PSs X b u) : PS X (.If c a b pos) (tIfS tc t u) := by
 intro pins s σ H D I h
 refine wpAny_If (thn (hc pins s σ H _ I h) fun d s1 ⟨H1, I1, q1⟩ => ?_)
 cases d with
 | true => exact ha pins s1 σ H1 D I1 q1
 | false => exact hb pins s1 σ H1 D I1 q1
def tNever : TS := fun _ _ _ => False
theorem ps_never : PS X st tNever := fun _ _ _ _ _ _ h => h.elim
theorem pss_never {sts : List Stmt} : PSs X sts tNever := fun _ _ _ _ _ _ h => h.elim
end
abbrev TG := V -> St -> Hp -> (St -> Hp -> Prop) -> Prop
abbrev TGs := List V -> St -> Hp -> (St -> Hp -> Prop) -> Prop
def PG (X : Cx) (target : Expr) (t : TG) : Prop :=
 ∀ (pins : List (Addr × Obj)) (s : Shared) (σ : St) (H : Hp) (v : V) (u : Value) (Q : St -> Hp -> Prop), Inv X pins σ H s -> RelV v u -> t v σ H Q ->
  wpAny (model X.prog X.w) X.A (assign target X.env u) (fun _ s' => ∃ σ' H', Inv X pins σ' H' s' /\ Q σ' H') X.xe s
def PGs (X : Cx) (ts : List Expr) (t : TGs) : Prop :=
 ∀ (pins : List (Addr × Obj)) (s : Shared) (σ : St) (H : Hp) (vs : List V) (us : List Value) (Q : St -> Hp -> Prop), Inv X pins σ H s -> Vals vs us -> t vs σ H Q ->
  wpAny (model X.prog X.w) X.A (assignInOrder ((assignEach ts X.env).map (·.2)) us) (fun _ s' => ∃ σ' H', Inv X pins σ' H' s' /\ Q σ' H') X.xe s
abbrev TSet := V -> V -> V -> Hp -> (Hp -> Prop) -> Prop
def PSet (X : Cx) (t : TSet) : Prop :=
 ∀ (pins : List (Addr × Obj)) (s : Shared) (σ : St) (H : Hp) (o i v : V) (ov iv u : Value) (Q : Hp -> Prop), Inv X pins σ H s -> RelV o ov -> RelV i iv -> RelV v u -> t o i v H Q ->
  wpAny (model X.prog X.w) X.A (setItem ov iv u) (fun _ s' => ∃ H', Inv X pins σ H' s' /\ Q H') X.xe s
section
variable {X : Cx} {pos : Pos}
def gName (i : Nat) : TG := fun v σ H Q => Q (σ.set i (some v)) H
theorem pg_name {i : Nat} {x : Str} (hN : X.N.Nodup) (hi : X.N[i]? = some x) (hx : Loc X.env.scope x) (hf : X.fn x = true \/ X.env.scope.names.lookup x = some .local := by first | exact .inl rfl | exact .inr rfl | assumption) : PG X (.Name x pos) (gName i) := by
 intro pins s σ H v u Q I r h
 exact wpAny_assign_Name (store_ok I hN hi hx r (fun s' I' => ⟨_, H, I', h⟩) hf)
def gNil : TGs := fun vs σ H Q => vs = [] /\ Q σ H
def gCons (t : TG) (u : TGs) : TGs := fun vs σ H Q => ∃ v r, vs = v :: r /\ t v σ H fun σ' H' => u r σ' H' Q
theorem pgs_nil : PGs X [] gNil := by
 intro pins s σ H vs us Q I r h
 obtain ⟨e, h⟩ := h
 subst e
 cases r
 exact assignInOrder_nil ⟨σ, H, I, h⟩
theorem pgs_cons {e : Expr} {es : List Expr} {t : TG} {u : TGs} (h1 : PG X e t) (h2 : PGs X es u)
  (hs : (assignEach (e :: es) X.env).map (·.2) = assign e X.env :: (assignEach es X.env).map (·.2) := by rfl) : PGs X (e :: es) (gCons t u) := by
 intro pins s σ H vs us Q I r h
 obtain ⟨v, vr, e1, h⟩ := h
 subst e1
 cases r with
 | cons r rr =>
  rw [hs]
  refine assignInOrder_cons (thn (h1 pins s σ H _ _ _ I r h) fun _ s1 ⟨σ1, H1, I1, q1⟩ => ?_)
  exact h2 pins s1 σ1 H1 _ _ Q I1 rr q1
def gTup (K : PySem.W.Frag) (n : Nat) (t : TGs) : TG := fun v σ H Q => ∃ a xs, v = .ref a /\ SqT K H a xs /\ xs.length = n /\ t xs σ H Q
theorem pg_tup {es : List Expr} {k : Nat} {t : TGs} {n : Nat} (hc : X.calm = true) (h : PGs X es t)
  (hn : (assignEach es X.env).length = n := by rfl) (hst : (assignEach es X.env).findIdx? (·.1) = none := by rfl) : PG X (.Tuple es k pos) (gTup X.K n t) := by
 intro pins s σ H v u Q I r hw
 obtain ⟨a, xs, e1, hq, hl, hw⟩ := hw
 subst e1
 cases r
 obtain ⟨its, rv, ht, hz⟩ := I.tuple hq
 refine assign_Tuple_tuple (I.ok.hd hc) ht (by simp [hn, <- hl, rv.length]) hst fun h' hx => ?_
 have I1 : Inv X pins σ H { s with heap := h' } := I.kept (t' := s.toks) fun b o e => hx b o (Nat.ne_of_lt (Heap.lt_size e)) e
 exact h pins _ σ H xs _ Q I1 (by simpa using rv) hw
def gSub (to ti : TE) (t : TSet) : TG := fun v σ H Q => to σ H fun o H1 => ti σ H1 fun i H2 => t o i v H2 fun H3 => Q σ H3
theorem pg_sub {o i : Expr} {to ti : TE} {t : TSet} (ho : PE X o to) (hi : PE X i ti) (hs : PSet X t)
  (ha : ∀ v, assign (.Subscript o i pos) X.env v = (do
   let ov <- holding [v] (eval o X.env)
   let iv <- holding [v, ov] (eval i X.env)
   standAt pos
   holding [v, ov, iv] (setItem ov iv v)
   release [v, ov, iv] []) := by intro _; rfl) : PG X (.Subscript o i pos) (gSub to ti t) := by
 intro pins s σ H v u Q I r h
 rw [ha]
 refine wpAny_bind (wpAny_holding (thn (ho pins s σ H _ I h) fun ov s1 ⟨x, H1, I1, r1, q1⟩ => ?_))
 refine wpAny_bind (wpAny_holding (thn (hi pins s1 σ H1 _ I1 q1) fun iv s2 ⟨y, H2, I2, r2, q2⟩ => ?_))
 refine wpAny_bind (wpAny_standAt (wpAny_bind (wpAny_holding (thn (hs pins s2 σ H2 x y v ov iv u _ I2 r1 r2 r q2) fun _ s3 ⟨H3, I3, q3⟩ => ?_))))
 exact wpAny_release ⟨σ, H3, I3, q3⟩
def tAsg (te : TE) (g : TG) : TS := fun D σ H => te σ H fun x H1 => g x σ H1 D.nx
theorem ps_asg {tg e : Expr} {te : TE} {g : TG} (he : PE X e te) (hg : PG X tg g) (hs : swapsWithSole [tg] e pos.line X.env = pure false := by rfl) (hw : swappedStores [tg] e X.env = pure none := by rfl)
  (h1 : (assignEach [tg] X.env).map (·.2) = [assign tg X.env] := by rfl) : PS X (.Assign [tg] e pos) (tAsg te g) := by
 intro pins s σ H D I h
 refine wpAny_Assign_stores (thn (he pins s σ H _ I h) fun v s1 ⟨x, H1, I1, r1, q1⟩ => ?_) hs hw
 rw [h1]
 exact thn (hg pins s1 σ H1 x v _ I1 r1 q1) fun _ s2 q => q
theorem ps_set {i : Nat} {x : Str} {e : Expr} {te : TE} {pos' : Pos} (hN : X.N.Nodup) (hi : X.N[i]? = some x) (hx : Loc X.env.scope x) (he : PE X e te) (hs : swapsWith e (some (.Name x pos')) pos.line X.env = pure false := by rfl) (hf : X.fn x = true \/ X.env.scope.names.lookup x = some .local := by first | exact .inl rfl | exact .inr rfl | assumption) :
  PS X (.Assign [.Name x pos'] e pos) (tAsg te (gName i)) := by
 intro pins s σ H D I h
 refine wpAny_Assign_Name (thn (he pins s σ H _ I h) fun v s1 ⟨y, H1, I1, r1, q1⟩ => ?_) hs
 exact store_ok I1 hN hi hx r1 (fun s2 I2 => ⟨_, H1, I2, q1⟩) hf
def tPar (i j : Nat) (ta : TA) : TS := fun D σ H => ta σ H fun vs H1 => ∃ v w, vs = [v, w] /\ D.nx ((σ.set i (some v)).set j (some w)) H1
theorem ps_par {i j : Nat} {x y : Str} {a b : Expr} {ta : TA} {px py pt : Pos} {kt k2 pt2} (hc : X.calm = true) (hN : X.N.Nodup) (hi : X.N[i]? = some x) (hj : X.N[j]? = some y) (hij : i ≠ j)
  (hx : X.env.scope.names.lookup x = some .local) (hy : X.env.scope.names.lookup y = some .local) (ha : PA X [a, b] ta)
  (hw : swappedStores [.Tuple [.Name x px, .Name y py] kt pt] (.Tuple [a, b] k2 pt2) X.env = pure (some [x, y]))
  (hs : swapsWithSole [.Tuple [.Name x px, .Name y py] kt pt] (.Tuple [a, b] k2 pt2) pos.line X.env = pure false := by rfl) :
  PS X (.Assign [.Tuple [.Name x px, .Name y py] kt pt] (.Tuple [a, b] k2 pt2) pos) (tPar i j ta) := by
 intro pins s σ H D I h
 rw [exec_Assign_arm]
 refine wpAny_bind (wpAny_standAt ?_)
 rw [hs]
 refine wpAny_bind (wpAny_pure ?_)
 rw [if_neg (by decide)]
 refine wpAny_bind (Tuple_ (thn (ha _ pins s σ H _ I h) fun us s1 ⟨vs, H1, I1, r1, q1⟩ => ?_))
 obtain ⟨v, w, e1, q1⟩ := q1
 subst e1
 obtain ⟨u1, u2, rfl, rv, rw'⟩ : ∃ u1 u2, us = [u1, u2] /\ RelV v u1 /\ RelV w u2 := by
  cases r1 with
  | cons p q =>
   cases q with
   | cons p' q' =>
    cases q'
    exact ⟨_, _, rfl, p, p'⟩
 refine wpAny_newObj_type ?_ (by show 2 <= sizeLine; decide)
 have I2 : Inv X pins σ H1 { s1 with heap := s1.heap.push { cls := .type "tuple", data := .seq [u1, u2].toArray } } := I1.kept (t' := s1.toks) fun b o e => Heap.get?_push_of_some _ e
 rw [hw]
 refine wpAny_bind (wpAny_pure ?_)
 show wpAny (model X.prog X.w) X.A (do rule "assign.swapped-stores"; let items <- unpackItems (.ref s1.heap.objs.size) 2 none; assignInOrder [fun v => bindName X.env y v, fun v => bindName X.env x v] items.reverse; pure Flow.next) _ _ _
 refine wpAny_bind (wpAny_rule (wpAny_bind (unpackItems_tuple (items := #[u1, u2]) (I.ok.hd hc) (IsTup.new s1.heap _) fun h' hx' => ?_)))
 have I3 := I2.kept (h' := h') (t' := s1.toks) fun b o e => hx' b o (Nat.ne_of_lt (Heap.lt_size e)) e
 show wpAny _ _ (assignInOrder [fun v => bindName X.env y v, fun v => bindName X.env x v] [u2, u1] >>= fun _ => pure Flow.next) _ _ _
 refine wpAny_bind (assignInOrder_cons (wpAny_bindName (store_ok I3 hN hj (.inl hy) rw' (fun s2 I4 => ?_) (.inr hy))))
 refine assignInOrder_cons (wpAny_bindName (store_ok I4 hN hi (.inl hx) rv (fun s3 I5 => assignInOrder_nil (wpAny_pure ?_)) (.inr hx)))
 rw [List.set_comm _ _ (Ne.symm hij)] at I5
 exact ⟨_, H1, I5, q1⟩
end
section
variable {X : Cx} {pos : Pos}
def tWhile (c : TT) (tb : TS) : TS := fun D σ H => ∃ W : Nat -> St -> Hp -> Prop, (∃ m, W m σ H) /\ ∀ m σ H, W m σ H ->
 c σ H fun b H1 => if b = true then ∃ N : St -> Hp -> Prop, (∀ σ' H', N σ' H' -> ∃ m', m' < m /\ W m' σ' H') /\ tb { D with nx := N, ct := N, bk := D.nx } σ H1 else D.nx σ H1
theorem ps_while {c : Expr} {body : List Stmt} {tc : TT} {tb : TS} (hp : PassesOwn (model X.prog X.w) X.A X.env X.xe) (hc : PT X c tc) (hb : PSs X body tb) : PS X (.While c body [] pos) (tWhile tc tb) := by
 intro pins s σ H D I h
 obtain ⟨W, ⟨m0, w0⟩, turn⟩ := h
 refine wpAny_While (codeAny_whileLoop (fun n s' => ∃ σ' H', Inv X pins σ' H' s' /\ W n σ' H') ?_ m0 ⟨σ, H, I, w0⟩)
 rintro n s1 ⟨σ1, H1, I1, w1⟩
 refine wpAny_passesOwn hp (thn (hc pins s1 σ1 H1 _ I1 (turn n σ1 H1 w1)) fun b s2 ⟨H2, I2, q2⟩ => ?_)
 cases b with
 | true =>
  obtain ⟨N, hN, q2⟩ := q2
  rw [if_pos rfl]
  refine wpAny_passesOwn hp (thn (hb pins s2 σ1 H2 _ I2 q2) fun f s3 q3 => ?_)
  cases f with
  | next =>
   obtain ⟨σ3, H3, I3, n3⟩ := q3
   obtain ⟨m', hm, w3⟩ := hN σ3 H3 n3
   exact ⟨m', hm, σ3, H3, I3, w3⟩
  | cont =>
   obtain ⟨σ3, H3, I3, n3⟩ := q3
   obtain ⟨m', hm, w3⟩ := hN σ3 H3 n3
   exact ⟨m', hm, σ3, H3, I3, w3⟩
  | brk => exact q3
  | ret v => exact q3
 | false =>
  rw [if_neg Bool.false_ne_true]
  exact wpAny_execs_nil ⟨σ1, H2, I2, q2⟩
end
structure It where
 go : Nat -> Hp -> Prop
 yld : Nat -> Hp -> V -> Hp -> Prop
 stop : Nat -> Hp -> Prop
def FpOk (X : Cx) (pins : List (Addr × Obj)) (H : Hp) (b : Addr) : Prop :=
 H b = none /\ b ≠ X.env.locals /\ b ∉ X.fs /\ (b ∈ X.ex \/ X.s₀.heap.objs.size <= b) /\ (∀ x c, X.env.cells.lookup x = some c -> c ≠ b) /\ ∀ p ∈ X.pn ++ pins, p.1 ≠ b
theorem Inv.fpOk {X : Cx} {pins : List (Addr × Obj)} {σ : St} {H H' : Hp} {s : Shared} {b : Addr} (I : Inv X pins σ H s) (hb : s.heap.objs.size <= b) (hn : H' b = none) : FpOk X pins H' b := by
 refine ⟨hn, Nat.ne_of_gt (Nat.lt_of_lt_of_le I.lt hb), I.nofs hb, .inr (Nat.le_trans I.sz hb), fun x c e z => ?_, fun p hp z => ?_⟩
 ·obtain ⟨v, q⟩ := I.cell x c e
  exact absurd (Nat.lt_of_lt_of_le q.lt (by rw [z]; exact hb)) (Nat.lt_irrefl _)
 ·exact absurd (Nat.lt_of_lt_of_le (Heap.lt_size (I.pin p hp).1) (by rw [z]; exact hb)) (Nat.lt_irrefl _)
structure Turn (P : Program) (w : World) (K : PySem.W.Frag) (tg : Expr) (J : It) (fp : List Addr) (it : Addr) (tn : Nat -> Heap -> Prop) : Prop where
 mem : it ∈ fp
 obj : ∀ i h, tn i h -> ∀ b ∈ fp, ∃ o, h.get? b = some o /\ ∀ v, o.data ≠ .cell v
 keep : ∀ i h h', tn i h -> (∀ b ∈ fp, ∀ o, h.get? b = some o -> h'.get? b = some o) -> tn i h'
 item : ∀ (X : Cx), X.prog = P -> X.w = w -> X.K = K -> X.calm = true -> ∀ (i : Nat) (pins : List (Addr × Obj)) (s : Shared) (σ : St) (H : Hp) (E : Value -> Shared -> Prop), Inv X pins σ H s -> (∀ b ∈ fp, FpOk X pins H b) -> tn i s.heap -> J.go i H ->
  wpAny (model P w) X.A (pyNext (.ref it)) (fun r s1 => ∃ u, r = some u /\
   wpAny (model P w) X.A (letOwnedTupleGo tg (.ref it) u) (fun _ s2 => ∃ x H', Inv X pins σ H' s2 /\ RelV x u /\ J.yld i H x H' /\ tn (i + 1) s2.heap /\ ∀ b ∈ fp, H' b = none) E s1) E s
 done : ∀ (X : Cx), X.prog = P -> X.w = w -> X.K = K -> X.calm = true -> ∀ (i : Nat) (pins : List (Addr × Obj)) (s : Shared) (σ : St) (H : Hp) (E : Value -> Shared -> Prop), Inv X pins σ H s -> (∀ b ∈ fp, FpOk X pins H b) -> tn i s.heap -> J.stop i H ->
  wpAny (model P w) X.A (pyNext (.ref it)) (fun r s1 => r = none /\ Inv X pins σ H s1) E s
 self : ∀ (A : Around) (i : Nat) (s : Shared) (Q : Value -> Shared -> Prop) (E : Value -> Shared -> Prop), tn i s.heap -> Q (.ref it) s -> wpAny (model P w) A (pyIter (.ref it)) Q E s
abbrev TI := St -> Hp -> (It -> Hp -> Prop) -> Prop
def PIE (X : Cx) (pins : List (Addr × Obj)) (σ : St) (tg : Expr) (R : It -> Hp -> Prop) (itv : Value) (s2 : Shared) : Prop :=
 ∃ (it : Addr) (fp : List Addr) (tn : Nat -> Heap -> Prop) (J : It) (H' : Hp), itv = .ref it /\ Inv X pins σ H' s2 /\ Turn X.prog X.w X.K tg J fp it tn /\ tn 0 s2.heap /\ (∀ b ∈ fp, FpOk X pins H' b) /\ R J H'
def PI (X : Cx) (tg iter : Expr) (wi : TI) : Prop :=
 ∀ (pins : List (Addr × Obj)) (s : Shared) (σ : St) (H : Hp) (R : It -> Hp -> Prop), Inv X pins σ H s -> wi σ H R ->
  wpAny (model X.prog X.w) X.A (eval iter X.env) (fun v s1 => wpAny (model X.prog X.w) X.A (pyIter v) (PIE X pins σ tg R) X.xe s1) X.xe s
theorem go_of {M : Model} {A : Around} {E : Value -> Shared -> Prop} {s : Shared} {tg : Expr} {it : Addr} {u : Value} {o : Obj} {n : String} {vs : Array Value} {Q : Unit -> Shared -> Prop} (ho : s.heap.get? it = some o) (hc : o.cls = .type n) (hd : o.data = .fields vs)
    (hn : ["enumerate", "zip", "dict_itemiterator", "dict_reverseitemiterator", "odict_iterator", "itertools.zip_longest", "itertools.pairwise"].contains n = false) (hQ : Q () s) : wpAny M A (letOwnedTupleGo tg (.ref it) u) Q E s := by
  unfold letOwnedTupleGo
  cases tg <;> first
    | exact wpAny_pure hQ
    | (cases u <;> first
        | exact wpAny_pure hQ
        | (refine wpAny_bind (wpAny_load ho ?_)
           rw [hc, hd]
           show wpAny M A (if (["enumerate", "zip", "dict_itemiterator", "dict_reverseitemiterator", "odict_iterator", "itertools.zip_longest", "itertools.pairwise"].contains n && vs[0]? == some (rawInt _)) = true then _ else _) Q E s
           rw [if_neg (by intro h; rw [hn, Bool.false_and] at h; cases h)]
           exact wpAny_pure hQ))
def Itl (K : PySem.W.Frag) (a : Addr) : It :=
 ⟨fun i H => ∃ xs x, SqL K H a xs /\ xs[i]? = some x, fun i H x H' => H' = H /\ ∀ xs, SqL K H a xs -> xs[i]? = some x, fun i H => ∃ xs, SqL K H a xs /\ xs.length <= i⟩
def Itt (K : PySem.W.Frag) (a : Addr) : It :=
 ⟨fun i H => ∃ xs x, SqT K H a xs /\ xs[i]? = some x, fun i H x H' => H' = H /\ ∀ xs, SqT K H a xs -> xs[i]? = some x, fun i H => ∃ xs, SqT K H a xs /\ xs.length <= i⟩
def Itr (lo : Int) (n : Nat) : It := ⟨fun i _ => i < n, fun i H x H' => H' = H /\ x = .int (lo + i), fun i _ => n <= i⟩
theorem turn_list {P : Program} {w : World} {K : PySem.W.Frag} {tg : Expr} (a it : Addr) : Turn P w K tg (Itl K a) [it] it (fun i h => h.IsListIter it a i) where
 mem := by simp
 obj := fun i h st b hb => by
  have e : b = it := by simpa using hb
  subst e
  obtain ⟨o, e, c, d⟩ := st
  exact ⟨o, e, fun v z => by rw [d] at z; cases z⟩
 keep := fun i h h' st k => st.at fun o e => k it (by simp) o e
 item := by
  intro X hP hw hK hc i pins s σ H E I hf st hg
  subst hP hw hK
  obtain ⟨xs, x, hq, hx⟩ := hg
  obtain ⟨its, rv, p, hz⟩ := I.list hq
  obtain ⟨u, hu, ru⟩ := rv.get hx
  obtain ⟨f0, f1, f2, f3, f4, f5⟩ := hf it (by simp)
  refine wpAny_pyNext_list_item st p.isList (x := u) (by simpa using hu) fun h' st' sb => ?_
  have I1 : Inv X pins σ H { s with heap := h' } := I.turned (t' := s.toks) (fun b o hb e => (sb.2 b hb).trans e) f0 f1 f3 f4 f5
  obtain ⟨o, e, c, d⟩ := id st'
  exact ⟨u, rfl, go_of (s := { s with heap := h' }) e c d (by decide) ⟨x, H, I1, ru, ⟨rfl, fun ys hy => by rw [I.list_inj hy hq]; exact hx⟩, st', fun b hb => (hf b hb).1⟩⟩
 done := by
  intro X hP hw hK hc i pins s σ H E I hf st hg
  subst hP hw hK
  obtain ⟨xs, hq, hx⟩ := hg
  obtain ⟨its, rv, p, hz⟩ := I.list hq
  obtain ⟨f0, f1, f2, f3, f4, f5⟩ := hf it (by simp)
  have hl := rv.length
  exact wpAny_pyNext_list_end (I.ok.hd hc) st p.isList (by simp; omega) fun h' eb => ⟨rfl, I.turned (t' := s.toks) (fun b o hb e => eb b o hb e) f0 f1 f3 f4 f5⟩
 self := fun _ _ _ _ _ st h => wpAny_pyIter_listiter st h
theorem turn_tuple {P : Program} {w : World} {K : PySem.W.Frag} {tg : Expr} (a it : Addr) : Turn P w K tg (Itt K a) [it] it (fun i h => h.IsTupleIter it a i) where
 mem := by simp
 obj := fun i h st b hb => by
  have e : b = it := by simpa using hb
  subst e
  obtain ⟨o, e, c, d⟩ := st
  exact ⟨o, e, fun v z => by rw [d] at z; cases z⟩
 keep := fun i h h' st k => st.at fun o e => k it (by simp) o e
 item := by
  intro X hP hw hK hc i pins s σ H E I hf st hg
  subst hP hw hK
  obtain ⟨xs, x, hq, hx⟩ := hg
  obtain ⟨its, rv, p, hz⟩ := I.tuple hq
  obtain ⟨u, hu, ru⟩ := rv.get hx
  obtain ⟨f0, f1, f2, f3, f4, f5⟩ := hf it (by simp)
  refine wpAny_pyNext_tuple_item st (show s.heap.IsTuple a its.toArray from p) (x := u) (by simpa using hu) fun h' st' sb => ?_
  have I1 : Inv X pins σ H { s with heap := h' } := I.turned (t' := s.toks) (fun b o hb e => (sb.2 b hb).trans e) f0 f1 f3 f4 f5
  obtain ⟨o, e, c, d⟩ := id st'
  exact ⟨u, rfl, go_of (s := { s with heap := h' }) e c d (by decide) ⟨x, H, I1, ru, ⟨rfl, fun ys hy => by rw [I.tuple_inj hy hq]; exact hx⟩, st', fun b hb => (hf b hb).1⟩⟩
 done := by
  intro X hP hw hK hc i pins s σ H E I hf st hg
  subst hP hw hK
  obtain ⟨xs, hq, hx⟩ := hg
  obtain ⟨its, rv, p, hz⟩ := I.tuple hq
  obtain ⟨f0, f1, f2, f3, f4, f5⟩ := hf it (by simp)
  have hl := rv.length
  exact wpAny_pyNext_tuple_end (I.ok.hd hc) st (show s.heap.IsTuple a its.toArray from p) (by simp; omega) fun h' eb => ⟨rfl, I.turned (t' := s.toks) (fun b o hb e => eb b o hb e) f0 f1 f3 f4 f5⟩
 self := fun _ _ _ _ _ st h => wpAny_pyIter_tupleiter st h
theorem turn_range {P : Program} {w : World} {K : PySem.W.Frag} {tg : Expr} (it : Addr) (lo : Int) (n : Nat) : Turn P w K tg (Itr lo n) [it] it (fun i h => IsRangeIter h it (lo + (i : Nat) * 1) ((n : Int) - (i : Nat)) 1) where
 mem := by simp
 obj := fun i h st b hb => by
  have e : b = it := by simpa using hb
  subst e
  exact ⟨_, st, fun v z => by
   have z' : Data.fields _ = Data.cell v := z
   cases z'⟩
 keep := fun i h h' st k => k it (by simp) _ st
 item := by
  intro X hP hw hK hc i pins s σ H E I hf st hg
  subst hP hw hK
  obtain ⟨f0, f1, f2, f3, f4, f5⟩ := hf it (by simp)
  have W := Walks.range (prog := X.prog) (w := X.w) (I.ok.hd hc) it lo 1 n
  refine W.item i s _ _ hg st fun v h' tk hv st' kk => ?_
  obtain ⟨t, rfl⟩ := hv
  have I1 : Inv X pins σ H { s with heap := h', toks := tk } := I.turned (fun b o hb e => kk b o (by simpa using hb) e) f0 f1 f3 f4 f5
  refine ⟨_, rfl, go_of (s := { s with heap := h', toks := tk }) (n := "range_iterator") st' rfl rfl (by decide) ⟨.int (lo + i), H, I1, ⟨t, ?_⟩, ⟨rfl, rfl⟩, st', fun b hb => (hf b hb).1⟩⟩
  rw [Int.mul_one]
 done := by
  intro X hP hw hK hc i pins s σ H E I hf st hg
  subst hP hw hK
  obtain ⟨f0, f1, f2, f3, f4, f5⟩ := hf it (by simp)
  exact wpAny_pyNext_range_end (I.ok.hd hc) st (by have : n <= i := hg; omega) fun h' eb => ⟨rfl, I.turned (t' := s.toks) (fun b o hb e => eb b o hb e) f0 f1 f3 f4 f5⟩
 self := fun _ _ _ _ _ st h => wpAny_pyIter_rangeiter st h
end L2
namespace L2
open PySem PySem.Spec PyProof.Rows
section
variable {X : Cx} {tg : Expr}
def iList (K : PySem.W.Frag) (tl : TE) : TI := fun σ H R => tl σ H fun x H1 => ∃ a, x = .ref a /\ (∃ xs, SqL K H1 a xs) /\ R (Itl K a) H1
def iTup (K : PySem.W.Frag) (tl : TE) : TI := fun σ H R => tl σ H fun x H1 => ∃ a, x = .ref a /\ (∃ xs, SqT K H1 a xs) /\ R (Itt K a) H1
theorem pi_list {l : Expr} {tl : TE} (hl : PE X l tl) : PI X tg l (iList X.K tl) := by
 intro pins s σ H R I h
 refine thn (hl pins s σ H _ I h) fun v s1 ⟨x, H1, I1, r1, q1⟩ => ?_
 obtain ⟨a, e, ⟨xs, hq⟩, q⟩ := q1
 subst e
 cases r1
 obtain ⟨its, rv, p, hz⟩ := I1.list hq
 refine wpAny_pyIter_list p.isList ?_
 refine ⟨s1.heap.objs.size, [s1.heap.objs.size], _, _, H1, rfl, I1.kept (t' := s1.toks) fun b o e => Heap.get?_push_of_some _ e, turn_list a _, ⟨_, Heap.get?_push_size _ rfl, rfl, rfl⟩, fun b hb => ?_, q⟩
 have e : b = s1.heap.objs.size := by simpa using hb
 subst e
 exact I1.fpOk (Nat.le_refl _) (I1.hok.fresh (Nat.le_refl _))
theorem pi_tup {l : Expr} {tl : TE} (hl : PE X l tl) : PI X tg l (iTup X.K tl) := by
 intro pins s σ H R I h
 refine thn (hl pins s σ H _ I h) fun v s1 ⟨x, H1, I1, r1, q1⟩ => ?_
 obtain ⟨a, e, ⟨xs, hq⟩, q⟩ := q1
 subst e
 cases r1
 obtain ⟨its, rv, p, hz⟩ := I1.tuple hq
 refine wpAny_pyIter_tuple (show s1.heap.IsTuple a its.toArray from p) ?_
 refine ⟨s1.heap.objs.size, [s1.heap.objs.size], _, _, H1, rfl, I1.kept (t' := s1.toks) fun b o e => Heap.get?_push_of_some _ e, turn_tuple a _, ⟨_, Heap.get?_push_size _ rfl, rfl, rfl⟩, fun b hb => ?_, q⟩
 have e : b = s1.heap.objs.size := by simpa using hb
 subst e
 exact I1.fpOk (Nat.le_refl _) (I1.hok.fresh (Nat.le_refl _))
theorem range_it {pins : List (Addr × Obj)} {σ : St} {H : Hp} {s : Shared} {R : It -> Hp -> Prop} {E : Value -> Shared -> Prop} {lo hi : Int} {t u v : Tok} {tk : Nat} (I : Inv X pins σ H s) (h1 : -(2 ^ 62) <= lo) (h2 : lo < 2 ^ 62) (h3 : -(2 ^ 62) <= hi) (h4 : hi < 2 ^ 62)
  (q : R (Itr lo (hi - lo).toNat) H) : wpAny (model X.prog X.w) X.A (pyIter (.ref s.heap.objs.size)) (PIE X pins σ tg R) E { s with heap := s.heap.push { cls := .type "range", data := .fields #[.int lo t, .int hi u, .int 1 v] }, toks := tk } := by
 refine wpAny_pyIter_range (IsRange.new ..) (small_one h1 h2 h3 h4) ?_
 have I1 : Inv X pins σ H { s with heap := s.heap.push { cls := .type "range", data := .fields #[.int lo t, .int hi u, .int 1 v] }, toks := tk } := I.kept fun b o e => Heap.get?_push_of_some _ e
 refine ⟨(s.heap.push { cls := .type "range", data := .fields #[.int lo t, .int hi u, .int 1 v] }).objs.size, [(s.heap.push { cls := .type "range", data := .fields #[.int lo t, .int hi u, .int 1 v] }).objs.size], _, _, H, rfl,
  I1.kept (t' := tk) fun b o e => Heap.get?_push_of_some _ e, turn_range _ lo (hi - lo).toNat, ?_, fun b hb => ?_, q⟩
 ·have e1 : lo + ((0 : Nat) : Int) * 1 = lo := by simp
  have e2 : (((hi - lo).toNat : Nat) : Int) - ((0 : Nat) : Int) = Builtin.Range.rangeSize lo hi 1 := by rw [rangeSize_one]; split <;> omega
  show IsRangeIter _ _ (lo + ((0 : Nat) : Int) * 1) ((((hi - lo).toNat : Nat) : Int) - ((0 : Nat) : Int)) 1
  rw [e1, e2]
  exact Heap.get?_push_size _ rfl
 ·have e : b = (s.heap.push { cls := .type "range", data := .fields #[.int lo t, .int hi u, .int 1 v] }).objs.size := by simpa using hb
  subst e
  exact I1.fpOk (Nat.le_refl _) (I1.hok.fresh (Nat.le_refl _))
def iRng1 (ta : TA) : TI := fun σ H R => ta σ H fun vs H1 => ∃ j : Int, vs = [.int j] /\ -(2 ^ 62) <= j /\ j < 2 ^ 62 /\ R (Itr 0 j.toNat) H1
def iRng2 (ta : TA) : TI := fun σ H R => ta σ H fun vs H1 => ∃ i j : Int, vs = [.int i, .int j] /\ (-(2 ^ 62) <= i /\ i < 2 ^ 62 /\ -(2 ^ 62) <= j /\ j < 2 ^ 62) /\ R (Itr i (j - i).toNat) H1
theorem pi_range1 {a : Expr} {ta : TA} {p pos : Pos} (hg : Gl X "range") (hm : X.mg "range" = none) (ha : PA X [a] ta) (hs : starEach [a] X.env = [(false, eval a X.env)] := by rfl) : PI X tg (.Call (.Name "range" p) [a] [] pos) (iRng1 ta) := by
 intro pins s σ H R I h
 refine Call_ (ld_blt I hg hm boot_range (PyProof.Rows.callWith_type1 (thn (ha pos pins s σ H _ I h) fun us s1 ⟨vs, H1, I1, r1, q1⟩ => ?_) hs rfl))
 obtain ⟨j, e, q1, q2, q⟩ := q1
 subst e
 cases r1 with
 | cons r rr =>
  cases rr
  obtain ⟨t, rfl⟩ := r
  exact call_range_1 (range_it I1 (by omega) (by omega) q1 q2 (by simpa using q))
theorem pi_range2 {a b : Expr} {ta : TA} {p pos : Pos} (hg : Gl X "range") (hm : X.mg "range" = none) (ha : PA X [a, b] ta) (hs : starEach [a, b] X.env = [(false, eval a X.env), (false, eval b X.env)] := by rfl) (hs2 : starEach [b] X.env = [(false, eval b X.env)] := by rfl) :
  PI X tg (.Call (.Name "range" p) [a, b] [] pos) (iRng2 ta) := by
 intro pins s σ H R I h
 refine Call_ (ld_blt I hg hm boot_range (PyProof.Rows.callWith_type1 (thn (ha pos pins s σ H _ I h) fun us s1 ⟨vs, H1, I1, r1, q1⟩ => ?_) (by rw [hs, hs2]) (by rw [hs2]; rfl)))
 obtain ⟨i, j, e, ⟨q1, q2, q3, q4⟩, q⟩ := q1
 subst e
 cases r1 with
 | cons r rr =>
  cases rr with
  | cons r' rr =>
   cases rr
   obtain ⟨t, rfl⟩ := r
   obtain ⟨t', rfl⟩ := r'
   exact call_range_2 (range_it I1 q1 q2 q3 q4 q)
def tFor (wi : TI) (g : TG) (tb : TS) : TS := fun D σ H => wi σ H fun J H1 => ∃ W : Nat -> Nat -> St -> Hp -> Prop, (∃ m, W 0 m σ H1) /\ ∀ i m σ H, W i m σ H ->
 (J.stop i H /\ D.nx σ H) \/ (J.go i H /\ ∃ N : St -> Hp -> Prop, (∀ σ' H', N σ' H' -> ∃ m', m' < m /\ W (i + 1) m' σ' H') /\ ∀ x H', J.yld i H x H' -> g x σ H' fun σ2 H2 => tb { D with nx := N, ct := N, bk := D.nx } σ2 H2)
def pinsAt (fp : List Addr) (h : Heap) : List (Addr × Obj) := fp.filterMap fun b => (h.get? b).map fun o => (b, o)
theorem mem_pinsAt {fp : List Addr} {h : Heap} {b : Addr} {o : Obj} (hb : b ∈ fp) (e : h.get? b = some o) : (b, o) ∈ pinsAt fp h := List.mem_filterMap.mpr ⟨b, hb, by rw [e]; rfl⟩
theorem of_pinsAt {fp : List Addr} {h : Heap} {p : Addr × Obj} (hp : p ∈ pinsAt fp h) : p.1 ∈ fp /\ h.get? p.1 = some p.2 := by
 obtain ⟨b, hb, e⟩ := List.mem_filterMap.mp hp
 cases q : h.get? b with
 | none => rw [q] at e; cases e
 | some o =>
  rw [q] at e
  have e' : (b, o) = p := Option.some.inj e
  subst e'
  exact ⟨hb, q⟩
theorem Inv.pinned {pins : List (Addr × Obj)} {σ : St} {H : Hp} {s : Shared} {fp : List Addr} (I : Inv X pins σ H s) (hf : ∀ b ∈ fp, FpOk X pins H b) (ho : ∀ b ∈ fp, ∃ o, s.heap.get? b = some o /\ ∀ v, o.data ≠ .cell v) : Inv X (pins ++ pinsAt fp s.heap) σ H s :=
 I.pins_of fun p hp => (List.mem_append.mp hp).elim (fun z => I.pin p (List.mem_append_right _ z)) fun z => by
  obtain ⟨hb, e⟩ := of_pinsAt z
  obtain ⟨f0, f1, f2, _⟩ := hf p.1 hb
  obtain ⟨o, e', d⟩ := ho p.1 hb
  rw [e] at e'; cases e'
  exact ⟨e, f0, f1, f2, d⟩
theorem Inv.unpinned {pins pl : List (Addr × Obj)} {σ : St} {H : Hp} {s : Shared} (I : Inv X (pins ++ pl) σ H s) : Inv X pins σ H s := I.pins_of fun p hp => I.pin p (List.mem_append_right _ (List.mem_append_left _ hp))
theorem ps_for {iter : Expr} {body : List Stmt} {wi : TI} {g : TG} {tb : TS} {pos : Pos} (hp : PassesOwn (model X.prog X.w) X.A X.env X.xe) (hc : X.calm = true) (hi : PI X tg iter wi) (hg : PG X tg g) (hb : PSs X body tb)
  (hs : ∀ x, foldedSetIterable iter X.env x = pure x := by intro _; rfl) : PS X (.For tg iter body [] pos) (tFor wi g tb) := by
 intro pins s σ H D I h
 refine wpAny_For (thn (hi pins s σ H _ I h) fun v s1 h1 => thn h1 fun itv s2 h2 => ?_) hs
 obtain ⟨it, fp, tn, J, H2, e, I2, T, st2, f2, W, ⟨m0, w0⟩, turn⟩ := h2
 subst e
 have stat : ∀ {H' : Hp}, (∀ b ∈ fp, H' b = none) -> ∀ b ∈ fp, FpOk X pins H' b := fun hn b hb => ⟨hn b hb, (f2 b hb).2⟩
 refine codeAny_forLoop_any (fun n s' => ∃ i σ' H', Inv X pins σ' H' s' /\ tn i s'.heap /\ (∀ b ∈ fp, H' b = none) /\ W i n σ' H') ?_ m0 ⟨0, σ, H2, I2, st2, fun b hb => (f2 b hb).1, w0⟩
 rintro n s3 ⟨i, σ3, H3, I3, st3, fr3, w3⟩
 rcases turn i n σ3 H3 w3 with ⟨stop, qn⟩ | ⟨go, N, hN, step⟩
 ·refine wpAny_passesOwn hp (thn (T.done X rfl rfl rfl hc i pins s3 σ3 H3 X.xe I3 (stat fr3) st3 stop) fun r s4 ⟨hr, I4⟩ => ?_)
  subst hr
  exact wpAny_execs_nil ⟨σ3, H3, I4, qn⟩
 ·refine wpAny_passesOwn hp (thn (T.item X rfl rfl rfl hc i pins s3 σ3 H3 X.xe I3 (stat fr3) st3 go) fun r s4 ⟨u, hr, h4⟩ => ?_)
  subst hr
  refine wpAny_passesOwn hp (thn h4 fun _ s5 ⟨x, H5, I5, r5, y5, st5, fr5⟩ => ?_)
  have I5' := I5.pinned (stat fr5) (T.obj _ _ st5)
  refine wpAny_passesOwn hp (thn (hg _ s5 σ3 H5 x u _ I5' r5 (step x H5 y5)) fun _ s6 ⟨σ6, H6, I6, q6⟩ => ?_)
  refine wpAny_passesOwn hp (thn (hb _ s6 σ6 H6 _ I6 q6) fun f s7 q7 => ?_)
  have again : ∀ {σ7 : St} {H7 : Hp}, Inv X (pins ++ pinsAt fp s5.heap) σ7 H7 s7 -> N σ7 H7 -> ∃ m, m < n /\ ∃ i σ' H', Inv X pins σ' H' s7 /\ tn i s7.heap /\ (∀ b ∈ fp, H' b = none) /\ W i m σ' H' := fun {σ7 H7} I7 n7 => by
   obtain ⟨m', hm, w7⟩ := hN σ7 H7 n7
   refine ⟨m', hm, i + 1, σ7, H7, I7.unpinned, T.keep _ _ _ st5 fun b hb o e => (I7.pin (b, o) (List.mem_append_right _ (List.mem_append_right _ (mem_pinsAt hb e)))).1, fun b hb => ?_, w7⟩
   obtain ⟨o, e, d⟩ := T.obj _ _ st5 b hb
   exact (I7.pin (b, o) (List.mem_append_right _ (List.mem_append_right _ (mem_pinsAt hb e)))).2.1
  cases f with
  | next => obtain ⟨σ7, H7, I7, n7⟩ := q7; exact again I7 n7
  | cont => obtain ⟨σ7, H7, I7, n7⟩ := q7; exact again I7 n7
  | brk => obtain ⟨σ7, H7, I7, q7⟩ := q7; exact ⟨σ7, H7, I7.unpinned, q7⟩
  | ret v => obtain ⟨x7, σ7, H7, I7, r7, q7⟩ := q7; exact ⟨x7, σ7, H7, I7.unpinned, r7, q7⟩
end
theorem for_list {K : PySem.W.Frag} {a : Addr} {xs : List V} {g : TG} {tb : TS} {D : Ends} {σ : St} {H : Hp} (Pv : Nat -> St -> Hp -> Prop) (h0 : Pv 0 σ H) (hl : ∀ i σ H, i <= xs.length -> Pv i σ H -> SqL K H a xs)
  (hs : ∀ i x σ H, xs[i]? = some x -> Pv i σ H -> g x σ H fun σ2 H2 => tb { D with nx := Pv (i + 1), ct := Pv (i + 1), bk := D.nx } σ2 H2) (hd : ∀ σ H, Pv xs.length σ H -> D.nx σ H) :
  ∃ W : Nat -> Nat -> St -> Hp -> Prop, (∃ m, W 0 m σ H) /\ ∀ i m σ H, W i m σ H ->
   ((Itl K a).stop i H /\ D.nx σ H) \/ ((Itl K a).go i H /\ ∃ N : St -> Hp -> Prop, (∀ σ' H', N σ' H' -> ∃ m', m' < m /\ W (i + 1) m' σ' H') /\ ∀ x H', (Itl K a).yld i H x H' -> g x σ H' fun σ2 H2 => tb { D with nx := N, ct := N, bk := D.nx } σ2 H2) := by
 refine ⟨fun i m σ H => m = xs.length - i /\ i <= xs.length /\ Pv i σ H, ⟨xs.length, by simp, Nat.zero_le _, h0⟩, ?_⟩
 rintro i m σ H ⟨rfl, hi, p⟩
 have q := hl i σ H hi p
 by_cases hlt : i < xs.length
 ·refine .inr ⟨⟨xs, xs[i], q, by simp [hlt]⟩, Pv (i + 1), fun σ' H' p' => ⟨xs.length - (i + 1), by omega, rfl, hlt, p'⟩, fun x H' y => ?_⟩
  obtain ⟨e, y⟩ := y
  subst e
  exact hs i x σ _ (y xs q) p
 ·have e : i = xs.length := by omega
  subst e
  exact .inl ⟨⟨xs, q, Nat.le_refl _⟩, hd σ H p⟩
theorem for_tup {K : PySem.W.Frag} {a : Addr} {xs : List V} {g : TG} {tb : TS} {D : Ends} {σ : St} {H : Hp} (Pv : Nat -> St -> Hp -> Prop) (h0 : Pv 0 σ H) (hl : ∀ i σ H, i <= xs.length -> Pv i σ H -> SqT K H a xs)
  (hs : ∀ i x σ H, xs[i]? = some x -> Pv i σ H -> g x σ H fun σ2 H2 => tb { D with nx := Pv (i + 1), ct := Pv (i + 1), bk := D.nx } σ2 H2) (hd : ∀ σ H, Pv xs.length σ H -> D.nx σ H) :
  ∃ W : Nat -> Nat -> St -> Hp -> Prop, (∃ m, W 0 m σ H) /\ ∀ i m σ H, W i m σ H ->
   ((Itt K a).stop i H /\ D.nx σ H) \/ ((Itt K a).go i H /\ ∃ N : St -> Hp -> Prop, (∀ σ' H', N σ' H' -> ∃ m', m' < m /\ W (i + 1) m' σ' H') /\ ∀ x H', (Itt K a).yld i H x H' -> g x σ H' fun σ2 H2 => tb { D with nx := N, ct := N, bk := D.nx } σ2 H2) := by
 refine ⟨fun i m σ H => m = xs.length - i /\ i <= xs.length /\ Pv i σ H, ⟨xs.length, by simp, Nat.zero_le _, h0⟩, ?_⟩
 rintro i m σ H ⟨rfl, hi, p⟩
 have q := hl i σ H hi p
 by_cases hlt : i < xs.length
 ·refine .inr ⟨⟨xs, xs[i], q, by simp [hlt]⟩, Pv (i + 1), fun σ' H' p' => ⟨xs.length - (i + 1), by omega, rfl, hlt, p'⟩, fun x H' y => ?_⟩
  obtain ⟨e, y⟩ := y
  subst e
  exact hs i x σ _ (y xs q) p
 ·have e : i = xs.length := by omega
  subst e
  exact .inl ⟨⟨xs, q, Nat.le_refl _⟩, hd σ H p⟩
theorem for_range {lo : Int} {n : Nat} {g : TG} {tb : TS} {D : Ends} {σ : St} {H : Hp} (Pv : Nat -> St -> Hp -> Prop) (h0 : Pv 0 σ H)
  (hs : ∀ i σ H, i < n -> Pv i σ H -> g (.int (lo + i)) σ H fun σ2 H2 => tb { D with nx := Pv (i + 1), ct := Pv (i + 1), bk := D.nx } σ2 H2) (hd : ∀ σ H, Pv n σ H -> D.nx σ H) :
  ∃ W : Nat -> Nat -> St -> Hp -> Prop, (∃ m, W 0 m σ H) /\ ∀ i m σ H, W i m σ H ->
   ((Itr lo n).stop i H /\ D.nx σ H) \/ ((Itr lo n).go i H /\ ∃ N : St -> Hp -> Prop, (∀ σ' H', N σ' H' -> ∃ m', m' < m /\ W (i + 1) m' σ' H') /\ ∀ x H', (Itr lo n).yld i H x H' -> g x σ H' fun σ2 H2 => tb { D with nx := N, ct := N, bk := D.nx } σ2 H2) := by
 refine ⟨fun i m σ H => m = n - i /\ i <= n /\ Pv i σ H, ⟨n, by simp, Nat.zero_le _, h0⟩, ?_⟩
 rintro i m σ H ⟨rfl, hi, p⟩
 by_cases hlt : i < n
 ·refine .inr ⟨hlt, Pv (i + 1), fun σ' H' p' => ⟨n - (i + 1), by omega, rfl, hlt, p'⟩, fun x H' y => ?_⟩
  obtain ⟨e, y⟩ := y
  subst e y
  exact hs i σ _ hlt p
 ·have e : i = n := by omega
  subst e
  exact .inl ⟨Nat.le_refl _, hd σ H p⟩
end L2
namespace L2
open PySem PySem.Spec PyProof.Rows
abbrev R2 := V -> V -> Hp -> VK -> Prop
def OpR (X : Cx) (f : Value -> Value -> Sem Value) (r : R2) : Prop :=
 ∀ (pins : List (Addr × Obj)) (s : Shared) (σ : St) (H : Hp) (x y : V) (v u : Value) (Q : VK), Inv X pins σ H s -> RelV x v -> RelV y u -> r x y H Q ->
  wpAny (model X.prog X.w) X.A (f v u) (EP X pins σ Q) X.xe s
def UnR (X : Cx) (f : Value -> Sem Value) (r : V -> Hp -> VK -> Prop) : Prop :=
 ∀ (pins : List (Addr × Obj)) (s : Shared) (σ : St) (H : Hp) (x : V) (v : Value) (Q : VK), Inv X pins σ H s -> RelV x v -> r x H Q ->
  wpAny (model X.prog X.w) X.A (f v) (EP X pins σ Q) X.xe s
def CallR (X : Cx) (f : Value) (r : List V -> Hp -> VK -> Prop) : Prop :=
 ∀ (pins : List (Addr × Obj)) (s : Shared) (σ : St) (H : Hp) (xs : List V) (us : List Value) (Q : VK), Inv X pins σ H s -> Vals xs us -> r xs H Q ->
  wpAny (model X.prog X.w) X.A (call f us) (EP X pins σ Q) X.xe s
def TruR (X : Cx) (r : V -> Hp -> (Bool -> Hp -> Prop) -> Prop) : Prop :=
 ∀ (pins : List (Addr × Obj)) (s : Shared) (σ : St) (H : Hp) (x : V) (v : Value) (Q : Bool -> Hp -> Prop), Inv X pins σ H s -> RelV x v -> r x H Q ->
  wpAny (model X.prog X.w) X.A (truthy v) (TP X pins σ Q) X.xe s
def tOp (r : R2) (ta tb : TE) : TE := fun σ H Q => ta σ H fun x H1 => tb σ H1 fun y H2 => r x y H2 Q
def tUn (r : V -> Hp -> VK -> Prop) (ta : TE) : TE := fun σ H Q => ta σ H fun x H1 => r x H1 Q
def rI (C : Int -> Int -> Prop) (g : Int -> Int -> V) : R2 := fun x y H Q => ∃ i j, x = .int i /\ y = .int j /\ C i j /\ Q (g i j) H
def rI0 (g : Int -> Int -> V) : R2 := fun x y H Q => ∃ i j, x = .int i /\ y = .int j /\ Q (g i j) H
def rU (g : Int -> V) : V -> Hp -> VK -> Prop := fun x H Q => ∃ i, x = .int i /\ Q (g i) H
section
variable {X : Cx} {a b c : Expr} {ta tb tc : TE} {pos : Pos}
theorem binT (ha : PE X a ta) (hb : PE X b tb) {pins : List (Addr × Obj)} {s : Shared} {σ : St} {H : Hp} {R : V -> V -> Hp -> Prop} (I : Inv X pins σ H s)
  (h : ta σ H fun x H1 => tb σ H1 fun y H2 => R x y H2) {Q : Value -> Shared -> Prop} {f : Value -> Value -> Sem Value}
  (hf : ∀ v u s2 x y H2, Inv X pins σ H2 s2 -> RelV x v -> RelV y u -> R x y H2 -> wpAny (model X.prog X.w) X.A (f v u) Q X.xe s2) :
  wpAny (model X.prog X.w) X.A (eval a X.env) (fun v s₁ => wpAny (model X.prog X.w) X.A (eval b X.env) (fun u s₂ => wpAny (model X.prog X.w) X.A (f v u) Q X.xe s₂) X.xe s₁) X.xe s := by
 refine thn (ha pins s σ H _ I h) fun v s1 ⟨x, H1, I1, r1, q1⟩ => ?_
 refine thn (hb pins s1 σ H1 _ I1 q1) fun u s2 ⟨y, H2, I2, r2, q2⟩ => ?_
 exact hf v u s2 x y H2 I2 r1 r2 q2
theorem pe_op {op : Operator} {r : R2} (ho : OpR X (binaryOp op) r) (ha : PE X a ta) (hb : PE X b tb) : PE X (.BinOp a op b pos) (tOp r ta tb) := by
 intro pins s σ H Q I h
 exact wpAny_BinOp (binT ha hb I h fun v u s2 x y H2 I2 rx ry q => ho pins s2 σ H2 x y v u Q I2 rx ry q)
theorem pe_un {op : UnaryOp} {r : V -> Hp -> VK -> Prop} (ho : UnR X (unaryOp op) r) (ha : PE X a ta) : PE X (.UnaryOp op a pos) (tUn r ta) := by
 intro pins s σ H Q I h
 exact UnaryOp_ (thn (ha pins s σ H _ I h) fun v s1 ⟨x, H1, I1, r1, q1⟩ => ho pins s1 σ H1 x v Q I1 r1 q1)
theorem opI {f : Value -> Value -> Sem Value} {C : Int -> Int -> Prop} {g : Int -> Int -> Int}
  (rule : ∀ (i j : Int) (t u : Tok) (s : Shared) (Q : Value -> Shared -> Prop) (E : Value -> Shared -> Prop), C i j -> Q (.int (g i j) s.toks) { s with toks := s.toks + 1 } -> wpAny (model X.prog X.w) X.A (f (.int i t) (.int j u)) Q E s) :
  OpR X f (rI C fun i j => .int (g i j)) := by
 intro pins s σ H x y v u Q I rx ry h
 obtain ⟨i, j, rfl, rfl, hc, q⟩ := h
 obtain ⟨t, rfl⟩ := rx
 obtain ⟨t', rfl⟩ := ry
 exact rule i j t t' s _ _ hc ⟨.int (g i j), H, I.tok _, ⟨_, rfl⟩, q⟩
theorem opI0 {f : Value -> Value -> Sem Value} {g : Int -> Int -> Int}
  (rule : ∀ (i j : Int) (t u : Tok) (s : Shared) (Q : Value -> Shared -> Prop) (E : Value -> Shared -> Prop), Q (.int (g i j) s.toks) { s with toks := s.toks + 1 } -> wpAny (model X.prog X.w) X.A (f (.int i t) (.int j u)) Q E s) :
  OpR X f (rI0 fun i j => .int (g i j)) := by
 intro pins s σ H x y v u Q I rx ry h
 obtain ⟨i, j, rfl, rfl, q⟩ := h
 obtain ⟨t, rfl⟩ := rx
 obtain ⟨t', rfl⟩ := ry
 exact rule i j t t' s _ _ ⟨.int (g i j), H, I.tok _, ⟨_, rfl⟩, q⟩
theorem opB0 {f : Value -> Value -> Sem Value} {g : Int -> Int -> Bool}
  (rule : ∀ (i j : Int) (t u : Tok) (s : Shared) (Q : Value -> Shared -> Prop) (E : Value -> Shared -> Prop), Q (.bool (g i j)) s -> wpAny (model X.prog X.w) X.A (f (.int i t) (.int j u)) Q E s) :
  OpR X f (rI0 fun i j => .bl (g i j)) := by
 intro pins s σ H x y v u Q I rx ry h
 obtain ⟨i, j, rfl, rfl, q⟩ := h
 obtain ⟨t, rfl⟩ := rx
 obtain ⟨t', rfl⟩ := ry
 exact rule i j t t' s _ _ ⟨.bl (g i j), H, I, rfl, q⟩
def CDiv (i j : Int) : Prop := 0 < j /\ j < 1073741824
def CPow (i j : Int) : Prop := 0 <= j /\ j <= 1000000 /\ i.natAbs < 2 ^ 64
def CMul (i j : Int) : Prop := (-(2 ^ 64) < i /\ i < 2 ^ 64) \/ (-(2 ^ 64) < j /\ j < 2 ^ 64)
theorem CMul.ok {i j : Int} (h : CMul i j) : IntMulOk i j := by
 rcases h with ⟨h1, h2⟩ | ⟨h1, h2⟩
 ·exact .of_left (intBits_le_64 h1 h2)
 ·exact .of_right (intBits_le_64 h1 h2)
theorem op_add : OpR X (binaryOp .Add) (rI0 fun i j => .int (i + j)) := opI0 fun _ _ _ _ _ _ _ q => add_int q
theorem op_sub : OpR X (binaryOp .Sub) (rI0 fun i j => .int (i - j)) := opI0 fun _ _ _ _ _ _ _ q => sub_int q
theorem op_mul : OpR X (binaryOp .Mult) (rI CMul fun i j => .int (i * j)) := opI fun _ _ _ _ _ _ _ hc q => mul_int q hc.ok
theorem op_fdiv : OpR X (binaryOp .FloorDiv) (rI CDiv fun i j => .int (i / j)) := opI fun i j _ _ _ _ _ hc q => by
 have h1 : (0 : Int) < j := hc.1
 have h2 : j < 1073741824 := hc.2
 exact floordiv_int (by omega) (by rw [Int.fdiv_eq_ediv_of_nonneg i (by omega)]; exact q) (.inl (PyProof.noPylong_small (by omega)))
theorem op_mod : OpR X (binaryOp .Mod) (rI (fun _ j => 0 < j) fun i j => .int (i % j)) := opI fun i j _ _ _ _ _ hc q => by
 have h1 : (0 : Int) < j := hc
 exact mod_int' (by omega) (by rw [Int.fmod_eq_emod_of_nonneg i (by omega)]; exact q)
theorem op_pow : OpR X (binaryOp .Pow) (rI CPow fun i j => .int (i ^ j.toNat)) := opI fun _ _ _ _ _ _ _ hc q => pow_int_small hc.1 hc.2.1 hc.2.2 q
theorem unI {f : Value -> Sem Value} {g : Int -> Int}
  (rule : ∀ (i : Int) (t : Tok) (s : Shared) (Q : Value -> Shared -> Prop) (E : Value -> Shared -> Prop), Q (.int (g i) s.toks) { s with toks := s.toks + 1 } -> wpAny (model X.prog X.w) X.A (f (.int i t)) Q E s) :
  UnR X f (rU fun i => .int (g i)) := by
 intro pins s σ H x v Q I rx h
 obtain ⟨i, rfl, q⟩ := h
 obtain ⟨t, rfl⟩ := rx
 exact rule i t s _ _ ⟨.int (g i), H, I.tok _, ⟨_, rfl⟩, q⟩
theorem un_neg : UnR X (unaryOp .USub) (rU fun i => .int (-i)) := unI fun _ _ _ _ _ q => neg_int q
end
def scal : V -> V -> Bool
 | .non, .non => true | .non, .int _ => true | .int _, .non => true | .non, .bl _ => true | .bl _, .non => true | .non, .str _ => true | .str _, .non => true
 | .int _, .int _ => true | .bl _, .bl _ => true | .str _, .str _ => true | .byt _, .byt _ => true
 | .int _, .str _ => true | .str _, .int _ => true | .bl _, .str _ => true | .str _, .bl _ => true
 | _, _ => false
def rEq : R2 := fun x y H Q => scal x y = true /\ Q (.bl (decide (x = y))) H
def rNe : R2 := fun x y H Q => scal x y = true /\ Q (.bl (!decide (x = y))) H
theorem dec_int {i j : Int} : decide (V.int i = V.int j) = (i == j) := by
 rw [Bool.eq_iff_iff]
 simp
theorem dec_bl {i j : Bool} : decide (V.bl i = V.bl j) = (i == j) := by
 rw [Bool.eq_iff_iff]
 simp
theorem dec_str {i j : Str} : decide (V.str i = V.str j) = (i == j) := by
 rw [Bool.eq_iff_iff]
 simp
theorem dec_byt {i j : Array UInt8} : decide (V.byt i = V.byt j) = (i.toList == j.toList) := by
 rw [Bool.eq_iff_iff]
 cases i
 cases j
 simp
section
variable {X : Cx} {a b c : Expr} {ta tb tc : TE} {pos : Pos}
theorem fin_bl {pins : List (Addr × Obj)} {σ : St} {H : Hp} {s : Shared} {Q : VK} {k k' : Bool} (I : Inv X pins σ H s) (q : Q (.bl k) H) (e : k = k') : EP X pins σ Q (.bool k') s := by
 subst e
 exact ⟨.bl k, H, I, rfl, q⟩
theorem op_eq : OpR X (compareOp .Eq) rEq := by
 intro pins s σ H x y v u Q I rx ry h
 obtain ⟨hs, q⟩ := h
 cases x with
 | non =>
  cases rx
  cases y with
  | non => cases ry; exact PySem.EqNone.eq_none_none (fin_bl I q (by simp))
  | bl j => cases ry; exact PySem.EqNone.eq_none_bool (fin_bl I q (by simp))
  | int j => obtain ⟨t', rfl⟩ := ry; exact PySem.EqNone.eq_none_int (fin_bl I q (by simp))
  | str j => obtain ⟨t', rfl⟩ := ry; exact PySem.EqNone.eq_none_str (fin_bl I q (by simp))
  | _ => exact absurd (show false = true from hs) Bool.false_ne_true
 | bl i =>
  cases rx
  cases y with
  | non => cases ry; exact PySem.EqNone.eq_bool_none (fin_bl I q (by simp))
  | bl j => cases ry; exact eq_bool (fin_bl I q dec_bl)
  | str j => obtain ⟨t', rfl⟩ := ry; exact PySem.EqMixed.eq_bool_str (fin_bl I q (by simp))
  | _ => exact absurd (show false = true from hs) Bool.false_ne_true
 | int i =>
  obtain ⟨t, rfl⟩ := rx
  cases y with
  | non => cases ry; exact PySem.EqNone.eq_int_none (fin_bl I q (by simp))
  | int j => obtain ⟨t', rfl⟩ := ry; exact eq_int (fin_bl I q dec_int)
  | str j => obtain ⟨t', rfl⟩ := ry; exact PySem.EqMixed.eq_int_str (fin_bl I q (by simp))
  | _ => exact absurd (show false = true from hs) Bool.false_ne_true
 | str i =>
  obtain ⟨t, rfl⟩ := rx
  cases y with
  | non => cases ry; exact PySem.EqNone.eq_str_none (fin_bl I q (by simp))
  | bl j => cases ry; exact PySem.EqMixed.eq_str_bool (fin_bl I q (by simp))
  | int j => obtain ⟨t', rfl⟩ := ry; exact PySem.EqMixed.eq_str_int (fin_bl I q (by simp))
  | str j => obtain ⟨t', rfl⟩ := ry; exact eq_str (fin_bl I q dec_str)
  | _ => exact absurd (show false = true from hs) Bool.false_ne_true
 | byt i =>
  obtain ⟨t, rfl⟩ := rx
  cases y with
  | byt j => obtain ⟨t', rfl⟩ := ry; exact PySem.W.eq_bytes (fin_bl I q dec_byt)
  | _ => exact absurd (show false = true from hs) Bool.false_ne_true
 | _ => cases y <;> exact absurd (show false = true from hs) Bool.false_ne_true
theorem op_ne : OpR X (compareOp .NotEq) rNe := by
 intro pins s σ H x y v u Q I rx ry h
 obtain ⟨hs, q⟩ := h
 cases x with
 | non =>
  cases rx
  cases y with
  | non => cases ry; exact PySem.EqNone.ne_none_none (fin_bl I q (by simp))
  | bl j => cases ry; exact PySem.EqNone.ne_none_bool (fin_bl I q (by simp))
  | int j => obtain ⟨t', rfl⟩ := ry; exact PySem.EqNone.ne_none_int (fin_bl I q (by simp))
  | str j => obtain ⟨t', rfl⟩ := ry; exact PySem.EqNone.ne_none_str (fin_bl I q (by simp))
  | _ => exact absurd (show false = true from hs) Bool.false_ne_true
 | bl i =>
  cases rx
  cases y with
  | non => cases ry; exact PySem.EqNone.ne_bool_none (fin_bl I q (by simp))
  | bl j => cases ry; exact ne_bool (fin_bl I q (congrArg not dec_bl))
  | str j => obtain ⟨t', rfl⟩ := ry; exact PySem.EqMixed.ne_bool_str (fin_bl I q (by simp))
  | _ => exact absurd (show false = true from hs) Bool.false_ne_true
 | int i =>
  obtain ⟨t, rfl⟩ := rx
  cases y with
  | non => cases ry; exact PySem.EqNone.ne_int_none (fin_bl I q (by simp))
  | int j => obtain ⟨t', rfl⟩ := ry; exact ne_int (fin_bl I q (congrArg not dec_int))
  | str j => obtain ⟨t', rfl⟩ := ry; exact PySem.EqMixed.ne_int_str (fin_bl I q (by simp))
  | _ => exact absurd (show false = true from hs) Bool.false_ne_true
 | str i =>
  obtain ⟨t, rfl⟩ := rx
  cases y with
  | non => cases ry; exact PySem.EqNone.ne_str_none (fin_bl I q (by simp))
  | bl j => cases ry; exact PySem.EqMixed.ne_str_bool (fin_bl I q (by simp))
  | int j => obtain ⟨t', rfl⟩ := ry; exact PySem.EqMixed.ne_str_int (fin_bl I q (by simp))
  | str j => obtain ⟨t', rfl⟩ := ry; exact ne_str (fin_bl I q (congrArg not dec_str))
  | _ => exact absurd (show false = true from hs) Bool.false_ne_true
 | byt i =>
  obtain ⟨t, rfl⟩ := rx
  cases y with
  | byt j => obtain ⟨t', rfl⟩ := ry; exact PySem.W.ne_bytes (fin_bl I q (congrArg not dec_byt))
  | _ => exact absurd (show false = true from hs) Bool.false_ne_true
 | _ => cases y <;> exact absurd (show false = true from hs) Bool.false_ne_true
theorem op_lt : OpR X (compareOp .Lt) (rI0 fun i j => .bl (decide (i < j))) := opB0 fun _ _ _ _ _ _ _ q => lt_int q
theorem op_le : OpR X (compareOp .LtE) (rI0 fun i j => .bl (decide (i <= j))) := opB0 fun _ _ _ _ _ _ _ q => le_int q
theorem op_gt : OpR X (compareOp .Gt) (rI0 fun i j => .bl (decide (j < i))) := opB0 fun _ _ _ _ _ _ _ q => gt_int q
theorem op_isN : OpR X (compareOp .Is) (fun x y H Q => y = .non /\ Q (.bl (decide (x = .non))) H) := by
 intro pins s σ H x y v u Q I rx ry h
 obtain ⟨rfl, q⟩ := h
 cases ry
 refine is_none_gen (fin_bl I q ?_)
 cases x <;> first
  | (cases rx; rfl)
  | (obtain ⟨t, rfl⟩ := rx; rfl)
theorem op_notN : OpR X (compareOp .IsNot) (fun x y H Q => y = .non /\ Q (.bl (!decide (x = .non))) H) := by
 intro pins s σ H x y v u Q I rx ry h
 obtain ⟨rfl, q⟩ := h
 cases ry
 refine isnot_none_gen (fin_bl I q ?_)
 cases x <;> first
  | (cases rx; rfl)
  | (obtain ⟨t, rfl⟩ := rx; rfl)
theorem nomark (b : Expr) {op : CmpOp} (h : op ≠ .In := by decide) (h2 : op ≠ .NotIn := by decide) : behindInMarks op b = false := by
 have e1 : (op == CmpOp.In) = false := by cases op <;> first | rfl | exact absurd rfl h
 have e2 : (op == CmpOp.NotIn) = false := by cases op <;> first | rfl | exact absurd rfl h2
 cases b <;> simp [behindInMarks, e1, e2]
theorem pe_cmpR {op : CmpOp} {r : R2} (ho : OpR X (compareOp op) r) (ha : PE X a ta) (hb : PE X b tb) (hm : behindInMarks op b = false) : PE X (.Compare a [op] [b] pos) (tOp r ta tb) := by
 intro pins s σ H Q I h
 exact wpAny_Compare1 (binT ha hb I h fun v u s2 x y H2 I2 rx ry q => ho pins s2 σ H2 x y v u Q I2 rx ry q) hm
def tTest (t : TE) : TT := fun σ H Q => t σ H fun x H' => ∃ k, x = .bl k /\ Q k H'
theorem pt_cmpR {op : CmpOp} {r : R2} (ho : OpR X (compareOp op) r) (ha : PE X a ta) (hb : PE X b tb) (hm : behindInMarks op b = false) : PT X (.Compare a [op] [b] pos) (tTest (tOp r ta tb)) := by
 intro pins s σ H Q I h
 refine wpAny_isTrue_Compare1 (thn (ha pins s σ H _ I h) fun v s1 ⟨x, H1, I1, r1, q1⟩ => thn (hb pins s1 σ H1 _ I1 q1) fun u s2 ⟨y, H2, I2, r2, q2⟩ =>
  thn (ho pins s2 σ H2 x y v u _ I2 r1 r2 q2) fun c s3 ⟨z, H3, I3, r3, k, e, q3⟩ => ?_) hm
 subst e
 cases r3
 exact wpAny_truthy_bool ⟨H3, I3, q3⟩
def tChain (r r' : R2) (ta tb tc : TE) : TE := fun σ H Q => ta σ H fun x H1 => tb σ H1 fun y H2 => r x y H2 fun z H3 => ∃ k, z = .bl k /\
 (if k = true then tc σ H3 fun w' H4 => r' y w' H4 Q else Q (.bl false) H3)
theorem pe_chain {op op' : CmpOp} {r r' : R2} (ho : OpR X (compareOp op) r) (ho' : OpR X (compareOp op') r') (ha : PE X a ta) (hb : PE X b tb) (hc : PE X c tc)
  (hm : lastMarks [op, op'] [b, c] = false := by with_unfolding_all rfl) : PE X (.Compare a [op, op'] [b, c] pos) (tChain r r' ta tb tc) := by
 intro pins s σ H Q I h
 refine Compare_chain (thn (ha pins s σ H _ I h) fun v s1 ⟨x, H1, I1, r1, q1⟩ => chain_link (thn (hb pins s1 σ H1 _ I1 q1) fun u s2 ⟨y, H2, I2, r2, q2⟩ =>
  thn (ho pins s2 σ H2 x y v u _ I2 r1 r2 q2) fun d s3 ⟨z, H3, I3, r3, k, e, q3⟩ => ?_)) hm
 subst e
 cases r3
 refine wpAny_truthy_bool ?_
 cases k with
 | false => exact ite_ff ⟨.bl false, H3, I3, rfl, q3⟩
 | true => exact ite_tt (chain_last (thn (hc pins s3 σ H3 _ I3 q3) fun w' s4 ⟨z', H4, I4, r4, q4⟩ => ho' pins s4 σ H4 y z' u w' Q I4 r2 r4 q4))
theorem pt_chain {op op' : CmpOp} {r r' : R2} (ho : OpR X (compareOp op) r) (ho' : OpR X (compareOp op') r') (ha : PE X a ta) (hb : PE X b tb) (hc : PE X c tc)
  (hm : lastMarks [op, op'] [b, c] = false := by with_unfolding_all rfl) : PT X (.Compare a [op, op'] [b, c] pos) (tTest (tChain r r' ta tb tc)) := by
 intro pins s σ H Q I h
 refine isTrue_chain (thn (ha pins s σ H _ I h) fun v s1 ⟨x, H1, I1, r1, q1⟩ => test_link (thn (hb pins s1 σ H1 _ I1 q1) fun u s2 ⟨y, H2, I2, r2, q2⟩ =>
  thn (ho pins s2 σ H2 x y v u _ I2 r1 r2 q2) fun d s3 ⟨z, H3, I3, r3, k, e, q3⟩ => ?_)) hm
 subst e
 cases r3
 refine wpAny_truthy_bool ?_
 cases k with
 | false =>
  obtain ⟨k', e', q'⟩ := q3
  cases e'
  exact ite_ff ⟨H3, I3, q'⟩
 | true =>
  refine ite_tt (test_last (thn (hc pins s3 σ H3 _ I3 q3) fun w' s4 ⟨z', H4, I4, r4, q4⟩ => thn (ho' pins s4 σ H4 y z' u w' _ I4 r2 r4 q4) fun d' s5 ⟨z2, H5, I5, r5, k2, e2, q5⟩ => ?_))
  subst e2
  cases r5
  exact wpAny_truthy_bool ⟨H5, I5, q5⟩
def TruV (K : PySem.W.Frag) (x : V) (H : Hp) (k : Bool) : Prop :=
 match x with
 | .non => k = false
 | .bl b => k = b
 | .int i => k = (i != 0)
 | .str y => y.length <= sizeLine /\ k = ((y.length : Int) != 0)
 | .byt y => y.size <= sizeLine /\ k = ((y.size : Int) != 0)
 | .ref p => (∃ xs, SqL K H p xs /\ k = !xs.isEmpty) \/ (∃ xs, SqT K H p xs /\ k = !xs.isEmpty) \/ ∃ kvs, H p = some (.dK kvs) /\ k = !kvs.isEmpty
 | _ => False
theorem isEmpty_kv {κ : Type} {kvs : List (κ × V)} {vs : List (κ × Value)} (r : KV kvs vs) : (!vs.isEmpty) = !kvs.isEmpty := by
 cases r <;> rfl
theorem isEmpty_of {xs : List V} {its : List Value} (r : Vals xs its) : (!its.toArray.isEmpty) = !xs.isEmpty := by
 cases r <;> simp
theorem line63 : (sizeLine : Nat) < 2 ^ 63 := by rw [sizeLine_eq]; decide
theorem tru_ok : TruR X (fun x H Q => ∃ k, TruV X.K x H k /\ Q k H) := by
 intro pins s σ H x v Q I rx h
 obtain ⟨k, e, q⟩ := h
 have hl := line63
 have hs : sizeLine = 16777216 := sizeLine_eq
 cases x with
 | non =>
  cases rx
  have e' : k = false := e
  subst e'
  exact truthy_none ⟨H, I, q⟩
 | bl b =>
  cases rx
  have e' : k = b := e
  subst e'
  exact wpAny_truthy_bool ⟨H, I, q⟩
 | int i =>
  obtain ⟨t, rfl⟩ := rx
  have e' : k = (i != 0) := e
  subst e'
  exact PySem.P.truthy_int ⟨H, I, q⟩
 | str y =>
  obtain ⟨t, rfl⟩ := rx
  obtain ⟨hy, e'⟩ : y.length <= sizeLine /\ k = ((y.length : Int) != 0) := e
  subst e'
  exact PySem.P.truthy_str (by omega) ⟨H, I.tok _, q⟩
 | byt y =>
  obtain ⟨t, rfl⟩ := rx
  obtain ⟨hy, e'⟩ : y.size <= sizeLine /\ k = ((y.size : Int) != 0) := e
  subst e'
  exact PySem.W.truthy_bytes (by omega) ⟨H, I.tok _, q⟩
 | ref p =>
  cases rx
  have e' : (∃ xs, SqL X.K H p xs /\ k = !xs.isEmpty) \/ (∃ xs, SqT X.K H p xs /\ k = !xs.isEmpty) \/ ∃ kvs, H p = some (.dK kvs) /\ k = !kvs.isEmpty := e
  rcases e' with ⟨xs, hx, e'⟩ | ⟨xs, hx, e'⟩ | ⟨kvs, hx, e'⟩
  ·subst e'
   obtain ⟨its, r, pl, hz⟩ := I.list hx
   have hlen := r.length
   exact wpAny_truthy_list pl.isList (by simp only [List.size_toArray]; omega) ⟨H, I.tok _, by rw [isEmpty_of r]; exact q⟩
  ·subst e'
   obtain ⟨its, r, pl, hz⟩ := I.tuple hx
   have hlen := r.length
   exact truthy_tuple pl (by simp only [List.size_toArray]; omega) ⟨H, I.tok _, by rw [isEmpty_of r]; exact q⟩
  ·subst e'
   obtain ⟨hz, hS, vs, r, m⟩ : kvs.length <= sizeLine /\ (p == sysModules) = false /\ ∃ vs, KV kvs vs /\ s.heap.DictOf (mixKind X.prog X.w) p vs := I.hok p _ hx
   have hlen : kvs.length = vs.length := Paired.length r
   exact wpAny_truthy_dict hS m (by omega) ⟨H, I.tok _, by rw [isEmpty_kv r]; exact q⟩
 | _ => exact (show False from e).elim
theorem pt_truth (ha : PE X a ta) (he : ∀ whole, isTrue a X.env whole = (do let v <- whole; standAt a.pos; holding [v] (truthy v))) :
  PT X a (fun σ H Q => ta σ H fun x H' => ∃ k, TruV X.K x H' k /\ Q k H') := by
 intro pins s σ H Q I h
 exact isTrue_plain (thn (ha pins s σ H _ I h) fun v s1 ⟨x, H1, I1, r1, q1⟩ => tru_ok pins s1 σ H1 x v Q I1 r1 q1) (he _)
theorem op_add_str : OpR X (binaryOp .Add) (fun x y H Q => ∃ i j, x = .str i /\ y = .str j /\ i.length + j.length <= sizeLine /\ Q (.str (i ++ j)) H) := by
 intro pins s σ H x y v u Q I rx ry h
 obtain ⟨i, j, rfl, rfl, hz, q⟩ := h
 obtain ⟨t, rfl⟩ := rx
 obtain ⟨t', rfl⟩ := ry
 exact add_str (fun t' tk => ⟨.str (i ++ j), H, I.tok _, ⟨_, rfl⟩, q⟩) hz
theorem vals1 {x : V} {us : List Value} (r : Vals [x] us) : ∃ u, us = [u] /\ RelV x u := by
 cases r with
 | cons r1 r2 => cases r2; exact ⟨_, rfl, r1⟩
theorem vals2 {x y : V} {us : List Value} (r : Vals [x, y] us) : ∃ u w', us = [u, w'] /\ RelV x u /\ RelV y w' := by
 cases r with
 | cons r1 r2 =>
  cases r2 with
  | cons r3 r4 => cases r4; exact ⟨_, _, rfl, r1, r3⟩
theorem call_abs : CallR X (.builtin "abs") (fun xs H Q => ∃ i, xs = [.int i] /\ Q (.int (if i < 0 then -i else i)) H) := by
 intro pins s σ H xs us Q I r h
 obtain ⟨i, rfl, q⟩ := h
 obtain ⟨u, rfl, t, rfl⟩ := vals1 r
 exact call_abs_int fun u tk => ⟨.int (if i < 0 then -i else i), H, I.tok _, ⟨_, rfl⟩, q⟩
theorem call_max2 (hc : X.calm = true) : CallR X (.builtin "max") (fun xs H Q => ∃ i j, xs = [.int i, .int j] /\ Q (.int (if j > i then j else i)) H) := by
 intro pins s σ H xs us Q I r h
 obtain ⟨i, j, rfl, q⟩ := h
 obtain ⟨u, w', rfl, ⟨t, rfl⟩, ⟨t', rfl⟩⟩ := vals2 r
 refine max_two_ints (I.ok.hd hc) fun h' tk k => ⟨_, H, I.kept k, ?_, q⟩
 by_cases hj : j > i
 ·rw [if_pos hj, if_pos hj]; exact ⟨_, rfl⟩
 ·rw [if_neg hj, if_neg hj]; exact ⟨_, rfl⟩
theorem call_min2 (hc : X.calm = true) : CallR X (.builtin "min") (fun xs H Q => ∃ i j, xs = [.int i, .int j] /\ Q (.int (if j < i then j else i)) H) := by
 intro pins s σ H xs us Q I r h
 obtain ⟨i, j, rfl, q⟩ := h
 obtain ⟨u, w', rfl, ⟨t, rfl⟩, ⟨t', rfl⟩⟩ := vals2 r
 refine min_two_ints (I.ok.hd hc) fun h' tk k => ⟨_, H, I.kept k, ?_, q⟩
 by_cases hj : j < i
 ·rw [if_pos hj, if_pos hj]; exact ⟨_, rfl⟩
 ·rw [if_neg hj, if_neg hj]; exact ⟨_, rfl⟩
end
end L2
namespace L2
open PySem PySem.Spec PyProof.Rows
structure ObjM (h : Heap) (x dx C : Addr) (mA : Str -> Option Value) : Prop where
 obj : h.get? x = some (PySem.W.instObj C dx)
 ns : h.Ns1 dx mA
 ne : dx ≠ x
theorem lookIn_ns {h : Heap} {dx : Addr} {mA : Str -> Option Value} (n : h.Ns1 dx mA) : ∃ od, h.get? dx = some od /\ ∀ name, PySem.W.lookIn name od = some (mA name) := by
 obtain ⟨o, es, ep, ho, hd, hk, _, hm⟩ := n
 refine ⟨o, ho, fun name => ?_⟩
 have e := hm name
 unfold nsFind findBy at e
 rw [<- Array.find?_toList] at e
 unfold PySem.W.lookIn
 rw [hd]
 dsimp only
 split
 ·rename_i y q
  rw [q] at e
  exact congrArg some e
 ·rename_i q
  rw [q] at e
  have a : es.toList.any (·.refKey) = false := by
   rw [List.any_eq_false]
   intro y hy
   obtain ⟨z, t, hkey⟩ := hk y (Array.mem_toList_iff.mp hy)
   simp [DictEntry.refKey, hkey]
  have a' : ¬ es.toList.any (·.refKey) = true := by rw [a]; exact Bool.false_ne_true
  rw [if_neg a']
  exact congrArg some e
theorem ObjM.look {h : Heap} {x dx C : Addr} {mA : Str -> Option Value} (I : ObjM h x dx C mA) : ∃ od, PySem.W.InstAt h x (PySem.W.instObj C dx) C (some od) /\ ∀ name, PySem.W.lookIn name od = some (mA name) :=
 let ⟨od, ho, hl⟩ := lookIn_ns I.ns
 ⟨od, ⟨I.obj, rfl, rfl, ho⟩, hl⟩
section
variable {prog : Program} {w : World} {A : Around} {E : Value -> Shared -> Prop} {s : Shared} {K : PySem.W.Frag} {x dx C f : Addr} {mA : Str -> Option Value} {name : Str} {v : Value}
theorem get_map {expr : Bool} {Q : Value -> Shared -> Prop} (X : K.In s.heap) (I : ObjM s.heap x dx C mA) (hg : PySem.W.plainGet K C name = true) (hh : PySem.W.hasDictIn K C = true)
  (ha : PySem.W.findIn K (.ref C) name = some none) (hv : mA name = some v) (hv' : PySem.W.handedIn v = true) (h : Q v { s with toks := s.toks + 1 }) :
  wpAny (model prog w) A (getAttr (.ref x) name expr) Q E s := by
 obtain ⟨od, J, hl⟩ := I.look
 exact PySem.W.get_value X J (PySem.W.plainGet_of hg).1 (PySem.W.findObj_own hh ha rfl (by rw [hl, hv])) hv' h
theorem get_meth {pl : Sem Bool} {Q : Value × List Value -> Shared -> Prop} (X : K.In s.heap) (I : ObjM s.heap x dx C mA) (hg : PySem.W.plainGet K C name = true)
  (hf : PySem.W.findIn K (.ref C) name = some (some (.ref f))) (ht : PySem.W.isFn K (.ref f) = true) (hv : mA name = none) (h : Q (.ref f, [.ref x]) s) :
  wpAny (model prog w) A (getMethod (.ref x) name pl) Q E s := by
 obtain ⟨od, J, hl⟩ := I.look
 exact PySem.W.method_fn X J (PySem.W.plainGet_of hg).1 (PySem.W.plainGet_of hg).2 hf (beq_iff_eq.mp ht) (by show (PySem.W.lookIn name od).map (·.isSome) = some false; rw [hl, hv]; rfl) h
theorem set_map {ns : List Str} {Q : Unit -> Shared -> Prop} (X : K.In s.heap) (I : ObjM s.heap x dx C mA)
  (hs : PySem.W.findIn K (.ref C) "__setattr__" = some (some (.builtin "object.__setattr__"))) (hp : PySem.W.plainOver K C = true) (ht : PySem.W.takerIn K C name = some none) (hh : PySem.W.hasDictIn K C = true)
  (hw : PySem.Within mA ns) (hsz : ns.length <= sizeLine)
  (h : ∀ h', ObjM h' x dx C (fun y => if y = name then some v else mA y) -> Heap.SameBut dx s.heap h' -> Q () { s with heap := h', toks := s.toks + 2 }) :
  wpAny (model prog w) A (setAttr (.ref x) name v) Q E s := by
 obtain ⟨od, J, hl⟩ := I.look
 refine PySem.W.set_plain X J hs (PySem.W.osa_open (s := { s with toks := s.toks + 1 }) (r := none) X J hp ht fun b => ?_)
 obtain ⟨cd, hc, hd'⟩ := PySem.W.any_some hh
 have hx : s.heap.get? x = some ⟨.ref C, some dx, .plain, #[]⟩ := I.obj
 refine wpAny_bind (wpAny_pure (wpAny_bind (wpAny_bind (wpAny_loadPart hx (wpAny_bind (PySem.W.Looks.here (s := { s with toks := s.toks + 1 }) (PySem.W.looks_clsIn X hc) ?_))))))
 rw [hd']
 refine wpAny_pure (a := some dx) (wpAny_bind (wpAny_pure (wpAny_bind ?_)))
 refine wpAny_nsSet1 (s := { s with toks := s.toks + 1 }) I.ns fun h' hn2 hs2 => ?_
 obtain ⟨oD, esD, epD, hoD, hdD, hcD⟩ := hn2.count (PySem.Within.cons name v hw)
 refine wpAny_bind (wpAny_lookBehind hoD (by rw [hdD]; exact pastItsLine_dict (Nat.le_trans hcD (by rw [List.length_cons]; omega))) ?_)
 exact wpAny_pure (h _ ⟨(hs2.2 _ (Ne.symm I.ne)).trans I.obj, hn2, I.ne⟩ hs2)
theorem make_map {R : Result -> Shared -> Prop} {vs : List Value} {kw : List (Str × Value)} (X : K.In s.heap) (hm : PySem.W.makesIn K C = true)
  (hi : PySem.W.findIn K (.ref C) "__init__" = some (some (.ref f))) (hf : PySem.W.typeIn K (.ref f) = some (.type "function"))
  (h : codeAny (model prog w) (A.under (.builtin "type.__call__" ⟨.ref C :: vs, kw⟩)) (.call (.ref f) ⟨.ref (s.heap.objs.size + 1) :: vs, kw⟩) (PySem.W.InitBack (s.heap.objs.size + 1) R)
   { s with heap := (s.heap.push PySem.W.emptyDict).push (PySem.W.instObj C s.heap.objs.size) }) :
  codeAny (model prog w) A (.call (.ref C) ⟨vs, kw⟩) R s := by
 obtain ⟨hh, g, d, t, os⟩ := s
 exact PySem.W.make_core (PySem.W.makes_of X hm) (PySem.W.looks_findIn X hi) (fun self => PySem.W.bind_fn X self hf) (.inl rfl) h
end
def putF (f : Str) (v : V) : List (Str × V) -> List (Str × V)
 | [] => [(f, v)]
 | (g, x) :: r => if g = f then (g, v) :: r else (g, x) :: putF f v r
theorem lookup_putF (f g : Str) (v : V) : ∀ fs : List (Str × V), (putF f v fs).lookup g = if g = f then some v else fs.lookup g
 | [] => by
  show List.lookup g [(f, v)] = _
  by_cases h : g = f
  ·have hb : (g == f) = true := beq_iff_eq.mpr h
   simp only [List.lookup, hb, if_pos h]
  ·have hb : (g == f) = false := beq_eq_false_iff_ne.mpr h
   simp only [List.lookup, hb, if_neg h]
 | (k, x) :: r => by
  have ih := lookup_putF f g v r
  rw [show putF f v ((k, x) :: r) = (if k = f then (k, v) :: r else (k, x) :: putF f v r) from rfl]
  by_cases hk : k = f
  ·rw [if_pos hk]
   by_cases h : g = k
   ·have hb : (g == k) = true := beq_iff_eq.mpr h
    simp only [List.lookup, hb, if_pos (h.trans hk)]
   ·have hb : (g == k) = false := beq_eq_false_iff_ne.mpr h
    simp only [List.lookup, hb, if_neg (fun e : g = f => h (e.trans hk.symm))]
  ·rw [if_neg hk]
   by_cases h : g = k
   ·have hb : (g == k) = true := beq_iff_eq.mpr h
    simp only [List.lookup, hb, if_neg (fun e : g = f => hk (h.symm.trans e))]
   ·have hb : (g == k) = false := beq_eq_false_iff_ne.mpr h
    simp only [List.lookup, hb]
    exact ih
theorem keys_putF (f : Str) (v : V) : ∀ fs : List (Str × V), f ∈ (putF f v fs).map (·.1) /\ ∀ g, g ∈ fs.map (·.1) -> g ∈ (putF f v fs).map (·.1)
 | [] => ⟨by simp [putF], fun g h => by simp at h⟩
 | (k, x) :: r => by
  obtain ⟨i1, i2⟩ := keys_putF f v r
  rw [show putF f v ((k, x) :: r) = (if k = f then (k, v) :: r else (k, x) :: putF f v r) from rfl]
  by_cases hk : k = f
  ·rw [if_pos hk]
   subst hk
   exact ⟨by simp, fun g h => by simpa using h⟩
  ·rw [if_neg hk]
   refine ⟨?_, fun g h => ?_⟩
   ·rw [List.map_cons]
    exact List.mem_cons_of_mem _ i1
   ·rw [List.map_cons] at h ⊢
    rcases List.mem_cons.mp h with e | e
    ·exact List.mem_cons.mpr (.inl e)
    ·exact List.mem_cons_of_mem _ (i2 g e)
theorem length_putF (f : Str) (v : V) : ∀ fs : List (Str × V), (putF f v fs).length <= fs.length + 1
 | [] => by simp [putF]
 | (k, x) :: r => by
  have ih := length_putF f v r
  rw [show putF f v ((k, x) :: r) = (if k = f then (k, v) :: r else (k, x) :: putF f v r) from rfl]
  by_cases hk : k = f
  ·rw [if_pos hk, List.length_cons, List.length_cons]; omega
  ·rw [if_neg hk, List.length_cons, List.length_cons]; omega
theorem RelO.some_of {v : V} {o : Option Value} (r : RelO (some v) o) : ∃ u, o = some u /\ RelV v u := by
 cases o with
 | none => exact (show False from r).elim
 | some u => exact ⟨u, rfl, r⟩
theorem RelO.none_of {o : Option Value} (r : RelO none o) : o = none := by
 cases o with
 | none => rfl
 | some u => exact (show False from r).elim
theorem handed_of {v : V} {u : Value} (r : RelV v u) : PySem.W.handedIn u = true := by
 cases v with
 | non => cases (show u = Value.none from r); rfl
 | bl b => cases (show u = Value.bool b from r); rfl
 | int i => obtain ⟨t, e⟩ := (show ∃ t, u = Value.int i t from r); cases e; rfl
 | str x => obtain ⟨t, e⟩ := (show ∃ t, u = Value.str x t from r); cases e; rfl
 | byt b => obtain ⟨t, e⟩ := (show ∃ t, u = Value.bytes b t from r); cases e; rfl
 | flt b => obtain ⟨t, e⟩ := (show ∃ t, u = Value.float b t from r); cases e; rfl
 | ref a => cases (show u = Value.ref a from r); rfl
 | ty n => cases (show u = Value.type n from r); rfl
section
variable {P : Program} {w : World} {H H' : Hp} {h h' : Heap} {a C dx : Addr} {fs fs' : List (Str × V)}
theorem ins_get (hok : HOk P w H h) (e : H a = some (.ins C dx fs)) : ∃ mA, ObjM h a dx C mA /\ (∀ f, RelO (fs.lookup f) (mA f)) /\ PySem.Within mA (fs.map (·.1)) /\ fs.length <= 1000 /\ H dx = some (.own a) := by
 obtain ⟨d, z, ne, ob, mA, n, r, q⟩ := (show ObjOk P w H h a (.ins C dx fs) from hok a _ e)
 exact ⟨mA, ⟨ob, n, ne⟩, r, q, z, d⟩
end
structure Cls (K : PySem.W.Frag) (C : Addr) : Prop where
 pg : PySem.W.plainGet K C Str.empty = true
 hd : PySem.W.hasDictIn K C = true
 po : PySem.W.plainOver K C = true
 sa : PySem.W.findIn K (.ref C) "__setattr__" = some (some (.builtin "object.__setattr__"))
theorem Cls.get {K : PySem.W.Frag} {C : Addr} (c : Cls K C) (f : Str) : PySem.W.plainGet K C f = true := c.pg
def NoAttr (K : PySem.W.Frag) (C : Addr) (f : Str) : Prop := PySem.W.findIn K (.ref C) f = some none
theorem NoAttr.taker {K : PySem.W.Frag} {C : Addr} {f : Str} (n : NoAttr K C f) : PySem.W.takerIn K C f = some none := by
 unfold PySem.W.takerIn
 rw [show PySem.W.findIn K (.ref C) f = some none from n]
 rfl
structure Meth (K : PySem.W.Frag) (C : Addr) (m : Str) (f : Addr) : Prop where
 at_ : PySem.W.findIn K (.ref C) m = some (some (.ref f))
 fn : PySem.W.isFn K (.ref f) = true
 kp : PySem.W.keepIn K (.ref f) = true
section
variable {X : Cx} {pins : List (Addr × Obj)} {σ : St} {H : Hp} {s : Shared} {a C dx : Addr} {fs : List (Str × V)} {f : Str} {v : V} {A : Around} {E : Value -> Shared -> Prop}
theorem getattr_ok {b : Bool} {Q : Value -> Shared -> Prop} (I : Inv X pins σ H s) (e : H a = some (.ins C dx fs)) (c : Cls X.K C) (n : NoAttr X.K C f) (l : fs.lookup f = some v)
  (h : ∀ u s', Inv X pins σ H s' -> RelV v u -> Q u s') : wpAny (model X.prog X.w) A (getAttr (.ref a) f b) Q E s := by
 obtain ⟨mA, O, r, _, _, _⟩ := ins_get I.hok e
 obtain ⟨u, hu, ru⟩ := RelO.some_of (v := v) (o := mA f) (by rw [<- l]; exact r f)
 exact get_map I.kIn O (c.get f) c.hd n hu (handed_of ru) (h u _ (I.tok _) ru)
theorem getmeth_ok {m : Str} {g : Addr} {pl : Sem Bool} {Q : Value × List Value -> Shared -> Prop} (I : Inv X pins σ H s) (e : H a = some (.ins C dx fs)) (c : Cls X.K C) (k : Meth X.K C m g) (l : fs.lookup m = none)
  (h : Q (.ref g, [.ref a]) s) : wpAny (model X.prog X.w) A (getMethod (.ref a) m pl) Q E s := by
 obtain ⟨mA, O, r, _, _, _⟩ := ins_get I.hok e
 have hn : mA m = none := RelO.none_of (by rw [<- l]; exact r m)
 exact get_meth I.kIn O (c.get m) k.at_ k.fn hn h
theorem setattr_ok {y : V} {u : Value} {Q : Unit -> Shared -> Prop} (I : Inv X pins σ H s) (e : H a = some (.ins C dx fs)) (c : Cls X.K C) (n : NoAttr X.K C f) (hl : fs.length < 1000) (ry : RelV y u)
  (h : ∀ s', Inv X pins σ (upd H a (.ins C dx (putF f y fs))) s' -> Q () s') : wpAny (model X.prog X.w) A (setAttr (.ref a) f u) Q E s := by
 obtain ⟨mA, O, r, wi, _, ho⟩ := ins_get I.hok e
 have hz : (fs.map (·.1)).length <= sizeLine := by rw [List.length_map, sizeLine_eq]; omega
 refine set_map I.kIn O c.sa c.po n.taker c.hd wi hz fun h' O' sb => h _ ?_
 have hd : ∃ o, h'.get? dx = some o := let ⟨o, _, _, e', _⟩ := O'.ns; ⟨o, e'⟩
 refine I.write (x := a) (e := dx) (by rw [e]; exact True.intro) (.inr ho) (fun b q hb z => (sb.2 b hb).trans z) hd ?_
 refine ⟨by rw [upd_ne O.ne]; exact ho, ?_, O.ne, O'.obj, _, O'.ns, fun g => ?_, fun g hg => ?_⟩
 ·have := length_putF f y fs; omega
 ·show RelO ((putF f y fs).lookup g) (if g = f then some u else mA g)
  rw [lookup_putF]
  by_cases q : g = f
  ·rw [if_pos q, if_pos q]; exact ry
  ·rw [if_neg q, if_neg q]; exact r g
 ·by_cases q : g = f
  ·rw [q]; exact (keys_putF f y fs).1
  ·refine (keys_putF f y fs).2 g (wi g fun z => hg ?_)
   show (if g = f then some u else mA g) = none
   rw [if_neg q]; exact z
theorem Inv.made (I : Inv X pins σ H s) : Inv X pins σ (upd (upd H s.heap.objs.size (.own (s.heap.objs.size + 1))) (s.heap.objs.size + 1) (.ins C s.heap.objs.size []))
  { s with heap := (s.heap.push PySem.W.emptyDict).push (PySem.W.instObj C s.heap.objs.size) } := by
 have e1 : (s.heap.push PySem.W.emptyDict).get? s.heap.objs.size = some PySem.W.emptyDict := Heap.get?_push_size s.heap rfl
 have e2 : ((s.heap.push PySem.W.emptyDict).push (PySem.W.instObj C s.heap.objs.size)).get? (s.heap.objs.size + 1) = some (PySem.W.instObj C s.heap.objs.size) := by
  have := Heap.get?_push_size (s.heap.push PySem.W.emptyDict) (o := PySem.W.instObj C s.heap.objs.size) rfl
  rwa [Heap.size_push] at this
 have e3 : (s.heap.push PySem.W.emptyDict).Ns s.heap.objs.size (fun _ => none) := ⟨PySem.W.emptyDict, #[], _, e1, rfl, (fun e he => absurd he (by simp)), fun _ => rfl⟩
 have I1 := I.laid (a := s.heap.objs.size) (o := .own (s.heap.objs.size + 1)) (h' := s.heap.push PySem.W.emptyDict) (t' := s.toks) (fun b u q => Heap.get?_push_of_some _ q) (Nat.le_refl _) ⟨_, e1⟩
 refine I1.laid (a := s.heap.objs.size + 1) (o := .ins C s.heap.objs.size []) (t' := s.toks) (fun b u q => Heap.get?_push_of_some _ q) (Nat.le_of_eq (Heap.size_push _ _)) ?_
 have ne : s.heap.objs.size ≠ s.heap.objs.size + 1 := Nat.ne_of_lt (Nat.lt_succ_self _)
 refine ⟨by rw [upd_ne ne, upd_same], Nat.zero_le _, ne, e2, fun _ => none, (Heap.Ns1.of_empty e3).at fun o q => Heap.get?_push_of_some _ q, fun _ => True.intro, fun y hy => absurd rfl hy⟩
theorem attr_of {prog : Program} {w : World} {env : Env} {e : Expr} {f : Str} {pos : Pos} {s : Shared} {Q : Value -> Shared -> Prop} (hb : attributeBase e f env (eval e env) = eval e env)
  (h : wpAny (model prog w) A (eval e env) (fun o s₁ => wpAny (model prog w) A (getAttr o f true) Q E s₁) E s) : wpAny (model prog w) A (eval (.Attribute e f pos) env) Q E s :=
 Attribute_any_ h (by rw [arm_eval_Attribute, hb])
end
def tFld (K : PySem.W.Frag) (ta : TE) (f : Str) : TE := fun σ H Q => ta σ H fun x H1 => ∃ a C dx fs v, x = .ref a /\ H1 a = some (.ins C dx fs) /\ Cls K C /\ NoAttr K C f /\ fs.lookup f = some v /\ Q v H1
def sFld (K : PySem.W.Frag) (ta tv : TE) (f : Str) : TS := fun D σ H => tv σ H fun y H1 => ta σ H1 fun x H2 => ∃ a C dx fs, x = .ref a /\ H2 a = some (.ins C dx fs) /\ Cls K C /\ NoAttr K C f /\ fs.length < 1000 /\
 D.nx σ (upd H2 a (.ins C dx (putF f y fs)))
def InOp (X : Cx) (op : Operator) (rd : V -> V -> Hp -> VK -> Prop) : Prop :=
 ∀ (pins : List (Addr × Obj)) (s : Shared) (σ : St) (H : Hp) (x y : V) (u v : Value) (Q : VK), Inv X pins σ H s -> RelV x u -> RelV y v -> rd x y H Q -> wpAny (model X.prog X.w) X.A (inplaceOp op u v) (EP X pins σ Q) X.xe s
def sFldAug (K : PySem.W.Frag) (ta tv : TE) (rd : V -> V -> Hp -> VK -> Prop) (f : Str) : TS := fun D σ H => ta σ H fun x H1 => ∃ a C dx fs v, x = .ref a /\ H1 a = some (.ins C dx fs) /\ Cls K C /\ NoAttr K C f /\ fs.lookup f = some v /\
 tv σ H1 fun y H2 => rd v y H2 fun z H3 => ∃ dx' fs', H3 a = some (.ins C dx' fs') /\ fs'.length < 1000 /\ D.nx σ (upd H3 a (.ins C dx' (putF f z fs')))
section
variable {X : Cx} {o e value : Expr} {f : Str} {pos pos' tpos : Pos} {ta tv : TE}
theorem pe_fld (he : PE X e ta) (hb : attributeBase e f X.env (eval e X.env) = eval e X.env) : PE X (.Attribute e f pos) (tFld X.K ta f) := by
 intro pins s σ H Q I h
 refine attr_of hb (thn (he pins s σ H _ I h) fun u s1 ⟨x, H1, I1, rx, a, C, dx, fs, v, ex, ea, c, n, l, q⟩ => ?_)
 subst ex
 obtain rfl : u = Value.ref a := rx
 exact getattr_ok I1 ea c n l fun u' s2 I2 ru => ⟨v, H1, I2, ru, q⟩
theorem ps_fld (ha : PE X o ta) (hv : PE X value tv) (hs : swapsWith value (some (.Attribute o f pos')) pos.line X.env = pure false) : PS X (.Assign [.Attribute o f pos'] value pos) (sFld X.K ta tv f) := by
 intro pins s σ H D I h
 refine plainObj_wpAny_Assign_Attribute (thn (hv pins s σ H _ I h) fun u s1 ⟨y, H1, I1, ry, q⟩ => thn (ha pins s1 σ H1 _ I1 q) fun ov s2 ⟨x, H2, I2, rx, a, C, dx, fs, ex, ea, c, n, l, q2⟩ => ?_) hs
 subst ex
 obtain rfl : ov = Value.ref a := rx
 exact setattr_ok I2 ea c n l ry fun s3 I3 => ⟨σ, _, I3, q2⟩
theorem ps_fldaug {op : Operator} {rd : V -> V -> Hp -> VK -> Prop} (ha : PE X o ta) (hv : PE X value tv) (hop : InOp X op rd) : PS X (.AugAssign (.Attribute o f tpos) op value pos) (sFldAug X.K ta tv rd f) := by
 intro pins s σ H D I h
 refine wpAny_AugAssign_AttributeAny (thn (ha pins s σ H _ I h) fun ov s1 ⟨x, H1, I1, rx, a, C, dx, fs, v, ex, ea, c, n, l, q⟩ => ?_)
 subst ex
 obtain rfl : ov = Value.ref a := rx
 refine getattr_ok I1 ea c n l fun u s2 I2 ru => thn (hv pins s2 σ H1 _ I2 q) fun w3 s3 ⟨y, H2, I3, ry, q3⟩ => thn (hop pins s3 σ H2 v y u w3 _ I3 ru ry q3) fun w4 s4 ⟨z, H3, I4, rz, dx', fs', ea', l', q4⟩ => ?_
 exact setattr_ok I4 ea' c n l' rz fun s5 I5 => ⟨σ, _, I5, q4⟩
def rAdd : V -> V -> Hp -> VK -> Prop := fun x y H Q => ∃ i j, x = .int i /\ y = .int j /\ Q (.int (i + j)) H
theorem in_add : InOp X .Add rAdd := by
 rintro pins s σ H x y u v Q I rx ry ⟨i, j, rfl, rfl, q⟩
 obtain ⟨t, rfl⟩ := (show ∃ t, u = Value.int i t from rx)
 obtain ⟨t', rfl⟩ := (show ∃ t', v = Value.int j t' from ry)
 exact PyProof.Rows.iadd_int ⟨.int (i + j), H, I.tok _, ⟨_, rfl⟩, q⟩
end
section
variable {X : Cx} {pins : List (Addr × Obj)} {σ : St} {H : Hp} {s : Shared} {A : Around} {E : Value -> Shared -> Prop} {Q : Value -> Shared -> Prop} {c : Value} {b : Bool}
inductive TyOf (K : PySem.W.Frag) (H : Hp) : V -> Value -> Prop where
 | non : TyOf K H .non (.type "NoneType")
 | bl (x : Bool) : TyOf K H (.bl x) (.type "bool")
 | int (i : Int) : TyOf K H (.int i) (.type "int")
 | str (x : Str) : TyOf K H (.str x) (.type "str")
 | flt (x : UInt64) : TyOf K H (.flt x) (.type "float")
 | lst {a : Addr} {xs : List V} (e : H a = some (.lst xs)) : TyOf K H (.ref a) (.type "list")
 | frz {a : Addr} {o : Obj} {xs : List V} (e : H a = some (.frz o (.lst xs))) : TyOf K H (.ref a) (.type "list")
 | tup {a : Addr} {xs : List V} (e : H a = some (.tup xs)) : TyOf K H (.ref a) (.type "tuple")
 | dK {a : Addr} {kvs : List (Key × V)} (e : H a = some (.dK kvs)) : TyOf K H (.ref a) (.type "dict")
 | dT {a : Addr} {kvs : List (List Key × V)} (e : H a = some (.dT kvs)) : TyOf K H (.ref a) (.type "dict")
 | ins {a C dx : Addr} {fs : List (Str × V)} (e : H a = some (.ins C dx fs)) (cl : Cls K C) (ha : PySem.W.findIn K (.ref C) "__class__" = some (some (.builtin "object.__class__")))
   (hn : PySem.W.specialIn K (.builtin "object.__class__") "__get__" = some (some (.builtin "getset_descriptor.__get__"))) (htk : PySem.W.takesIn K (.builtin "object.__class__") = some true)
   (hm : PySem.W.mroIn K C (.type "object") = some true) : TyOf K H (.ref a) (.ref C)
theorem isinst_ok {x : V} {u t : Value} (I : Inv X pins σ H s) (rx : RelV x u) (ty : TyOf X.K H x t) (e : PySem.W.kitOne X.K t c = some b) (h : ∀ tk, Q (.bool b) { s with toks := tk }) :
  wpAny (model X.prog X.w) A (call (.builtin "isinstance") [u, c]) Q E s := by
 cases ty with
 | non => cases (show u = Value.none from rx); exact PySem.W.kia_one PySem.W.kitx_none I.kIn True.intro e (fun z => nomatch z) h
 | bl y => cases (show u = Value.bool y from rx); exact PySem.W.kia_one PySem.W.kitx_bool I.kIn True.intro e (fun z => nomatch z) h
 | int i => obtain ⟨t, q⟩ := (show ∃ t, u = Value.int i t from rx); cases q; exact PySem.W.kia_one PySem.W.kitx_int I.kIn True.intro e (fun z => nomatch z) h
 | str y => obtain ⟨t, q⟩ := (show ∃ t, u = Value.str y t from rx); cases q; exact PySem.W.kia_one PySem.W.kitx_str I.kIn True.intro e (fun z => nomatch z) h
 | flt y => obtain ⟨t, q⟩ := (show ∃ t, u = Value.float y t from rx); cases q; exact PySem.W.kia_one PySem.W.kitx_float I.kIn True.intro e (fun z => nomatch z) h
 | @lst a xs ea =>
  cases (show u = Value.ref a from rx)
  obtain ⟨_, _, n, _, h1⟩ := (show ObjOk X.prog X.w H s.heap a (.lst xs) from I.hok a _ ea)
  exact PySem.W.kia_one PySem.W.kitx_list I.kIn ⟨_, h1, rfl⟩ e (fun z => nomatch z) h
 | @frz a ob xs ea =>
  cases (show u = Value.ref a from rx)
  obtain ⟨_, _, _, n, _, h1⟩ := (show ObjOk X.prog X.w H s.heap a (.frz ob (.lst xs)) from I.hok a _ ea)
  exact PySem.W.kia_one PySem.W.kitx_list I.kIn ⟨_, h1, rfl⟩ e (fun z => nomatch z) h
 | @tup a xs ea =>
  cases (show u = Value.ref a from rx)
  obtain ⟨_, _, _, p⟩ := (show ObjOk X.prog X.w H s.heap a (.tup xs) from I.hok a _ ea)
  obtain ⟨o, h1, h2, _⟩ := p
  exact PySem.W.kia_one PySem.W.kitx_tuple I.kIn ⟨o, h1, h2⟩ e (fun z => nomatch z) h
 | @dK a kvs ea =>
  cases (show u = Value.ref a from rx)
  obtain ⟨_, _, vs, _, p⟩ := (show ObjOk X.prog X.w H s.heap a (.dK kvs) from I.hok a _ ea)
  obtain ⟨o, es, ep, h1, h2, _⟩ := p
  exact PySem.W.kia_one PySem.W.kitx_dict I.kIn ⟨o, h1, h2.1⟩ e (fun z => nomatch z) h
 | @dT a kvs ea =>
  cases (show u = Value.ref a from rx)
  obtain ⟨_, _, xs, _, o, es, ep, h1, h2, _⟩ := (show ObjOk X.prog X.w H s.heap a (.dT kvs) from I.hok a _ ea)
  exact PySem.W.kia_one PySem.W.kitx_dict I.kIn ⟨o, h1, h2.1⟩ e (fun z => nomatch z) h
 | @ins a C dx fs ea cl ha hn htk hm =>
  cases (show u = Value.ref a from rx)
  obtain ⟨mA, O, _⟩ := ins_get I.hok ea
  obtain ⟨od, J, _⟩ := O.look
  exact PySem.W.kia_one (PySem.W.kitx_own (cl.get _) cl.hd ha hn htk hm) I.kIn J e (fun z => nomatch z) h
end
end L2
namespace L2
open PySem PySem.Spec PyProof.Rows
structure Room (k : Nat) (A : Around) : Prop where
 hd : A.handled = none
 dp : A.depth + 3 * k + 5 < recursionLimit
 un : A.units + 16 * k + 200 < cLine
 gd : A.guards = some []
theorem Room.mono {j k : Nat} {A : Around} (r : Room k A) (h : j <= k) : Room j A := ⟨r.hd, by have := r.dp; omega, by have := r.un; omega, r.gd⟩
theorem Room.deeper {k : Nat} {A : Around} (r : Room (k + 1) A) (env : Env) : Room k (A.deeper env) :=
 ⟨r.hd, by have := r.dp; show A.depth + 1 + 3 * k + 5 < _; omega, by have := r.un; show A.units + 3 + 16 * k + 200 < _; omega, by first | exact r.gd | simp [Around.deeper, r.gd]⟩
theorem make_depth {A : Around} {C : Addr} {us : List Value} {kw : List (Str × Value)} : (A.under (.builtin "type.__call__" ⟨.ref C :: us, kw⟩)).depth = A.depth + 1 := by
 first | rfl | simp [Around.under, Code.weight, Code.isCreation, Code.isGuard, Code.isCaller, Code.frames, Code.isFrame, guardIds]
theorem make_units {A : Around} {C : Addr} {us : List Value} {kw : List (Str × Value)} : (A.under (.builtin "type.__call__" ⟨.ref C :: us, kw⟩)).units = A.units + 1 := by
 first | rfl | simp [Around.under, Code.cUnits, Code.frames, Code.isFrame]
theorem make_guards {A : Around} {C : Addr} {us : List Value} {kw : List (Str × Value)} (h : A.guards = some []) : (A.under (.builtin "type.__call__" ⟨.ref C :: us, kw⟩)).guards = some [] := by
 first | exact h | (simp [Around.under, Code.guards, Code.isGuard, guardIds, pushGuards, h])
theorem Room.make {k : Nat} {A : Around} (r : Room (k + 1) A) (C : Addr) (us : List Value) (kw : List (Str × Value)) : Room k (A.under (.builtin "type.__call__" ⟨.ref C :: us, kw⟩)) :=
 ⟨r.hd, by have := r.dp; rw [make_depth]; omega, by have := r.un; rw [make_units]; omega, make_guards r.gd⟩
theorem Room.depth {k : Nat} {A : Around} (r : Room k A) : A.depth < recursionLimit := by have := r.dp; omega
theorem Room.units {k : Nat} {A : Around} (r : Room k A) : A.units + 64 < cLine := by have := r.un; omega
def tNil : TA := fun _ H Q => Q [] H
def tCons (ta : TE) (tr : TA) : TA := fun σ H Q => ta σ H fun x H1 => tr σ H1 fun xs H2 => Q (x :: xs) H2
section
variable {X : Cx} {e : Expr} {es : List Expr} {te : TE} {t : TA} {pos : Pos}
theorem pa_nil : PA X [] tNil := fun _ _ _ _ H Q I h => Calls.spliced_nil ⟨[], H, I, .nil, h⟩
theorem pa_cons (ha : PE X e te) (hr : PA X es t) (hs : starEach (e :: es) X.env = (false, eval e X.env) :: starEach es X.env := by rfl) : PA X (e :: es) (tCons te t) := by
 intro pos pins s σ H Q I h
 rw [hs]
 show wpAny _ _ (spliced ((false, eval e X.env) :: backTo pos (starEach es X.env))) _ _ s
 refine Calls.spliced_cons (thn (ha pins s σ H _ I h) fun u s1 ⟨x, H1, I1, r1, q1⟩ => ?_)
 exact thn (hr pos pins s1 σ H1 _ I1 q1) fun us s2 ⟨xs, H2, I2, r2, q2⟩ => ⟨x :: xs, H2, I2, .cons r1 r2, q2⟩
def tTup (t : TA) : TE := fun σ H Q => t σ H fun xs H1 => xs.length <= sizeLine /\ ∀ p, H1 p = none -> Q (.ref p) (upd H1 p (.tup xs))
def tLst (t : TA) : TE := fun σ H Q => t σ H fun xs H1 => xs.length <= sizeLine /\ ∀ p, H1 p = none -> Q (.ref p) (upd H1 p (.lst xs))
theorem pe_tup {x1} (h : PA X es t) : PE X (.Tuple es x1 pos) (tTup t) := by
 intro pins s σ H Q I hq
 refine wpAny_Tuple_spliced (thn (h pos pins s σ H _ I hq) fun us s1 ⟨xs, H1, I1, r, z, q⟩ => ⟨by rw [<- r.length]; exact z, ?_⟩)
 have hf : H1 s1.heap.objs.size = none := I1.hok.fresh (Nat.le_refl _)
 refine ⟨.ref s1.heap.objs.size, upd H1 s1.heap.objs.size (.tup xs), I1.laid (t' := s1.toks) (fun b u e => Heap.get?_push_of_some _ e) (Nat.le_refl _) ?_, rfl, q _ hf⟩
 exact ⟨z, us, r, ⟨_, Heap.get?_push_size _ rfl, rfl, _, rfl, rfl⟩⟩
theorem pe_lst (h : PA X es t) : PE X (.List es pos) (tLst t) := by
 intro pins s σ H Q I hq
 refine wpAny_List_spliced (thn (h pos pins s σ H _ I hq) fun us s1 ⟨xs, H1, I1, r, z, q⟩ => ⟨by rw [<- r.length]; exact z, ?_⟩)
 have hf : H1 s1.heap.objs.size = none := I1.hok.fresh (Nat.le_refl _)
 refine ⟨.ref s1.heap.objs.size, upd H1 s1.heap.objs.size (.lst xs), I1.laid (t' := s1.toks) (fun b u e => Heap.get?_push_of_some _ e) (Nat.le_refl _) ?_, rfl, q _ hf⟩
 exact ⟨z, us, 0, r, Heap.get?_push_size _ rfl⟩
end
abbrev Sp := List V -> Hp -> VK -> XK -> Prop
abbrev CXT := List Env -> Hp -> Shared -> XK -> Value -> Shared -> Prop
structure Env0 (P : Program) (w : World) (K : PySem.W.Frag) (mg : Str -> Option Value) (base : Heap) (A : Around) (outer : List Env) (s : Shared) (H : Hp) : Prop where
 frames : A.frames = some outer
 mod : Mod K mg base
 bs : ∀ b o, base.get? b = some o -> s.heap.get? b = some o /\ H b = none
 bsz : base.objs.size <= s.heap.objs.size
 funs : s.heap.FunFrames base outer
 frf : ∀ b ∈ frs outer, H b = none
 hok : HOk P w H s.heap
 bare : AllBare s.gens
def CE (outer : List Env) (P : Program) (w : World) (H : Hp) (s : Shared) (Q : VK) (u : Value) (s' : Shared) : Prop :=
 ∃ v H', s'.os = s.os /\ AllBare s'.gens /\ Un (frs outer) [] H H' s.heap s'.heap /\ HOk P w H' s'.heap /\ RelV v u /\ Q v H'
def CR (CX : CXT) (outer : List Env) (P : Program) (w : World) (H : Hp) (s : Shared) (Q : VK) (E : XK) (r : Result) (s' : Shared) : Prop :=
 match r with
 | .ok (.ret u) => CE outer P w H s Q u s'
 | .ok _ => False
 | .error e => CX outer H s E e s'
structure FnOk (P : Program) (w : World) (K : PySem.W.Frag) (mg : Str -> Option Value) (base : Heap) (CX : CXT) (k : Nat) (f : Addr) (fd : FuncData) (ps : List Str) (sp : Sp) : Prop where
 len : ∀ vs H Q E, sp vs H Q E -> vs.length = ps.length
 run : ∀ (A : Around) (outer : List Env) (s : Shared) (H : Hp) (args : Args) (us : List Value) (vs : List V) (Q : VK) (E : XK), Room k A -> Env0 P w K mg base A outer s H -> BindsTo s fd args (ps.zip us) -> Vals vs us -> sp vs H Q E ->
  codeAny (model P w) A (.call (.ref f) args) (CR CX outer P w H s Q E) s
theorem Env0.make {P : Program} {w : World} {K : PySem.W.Frag} {mg : Str -> Option Value} {base : Heap} {A : Around} {outer : List Env} {s : Shared} {H : Hp} (e : Env0 P w K mg base A outer s H) (C : Addr) (us : List Value) (kw : List (Str × Value)) :
  Env0 P w K mg base (A.under (.builtin "type.__call__" ⟨.ref C :: us, kw⟩)) outer s H := ⟨by first | exact e.frames | (simpa [Around.under, Code.envs, Code.isFrame, pushEnvs] using e.frames), e.mod, e.bs, e.bsz, e.funs, e.frf, e.hok, e.bare⟩
section
variable {X : Cx} {pins : List (Addr × Obj)} {σ : St} {H : Hp} {s s' : Shared}
theorem Inv.env0 (I : Inv X pins σ H s) : Env0 X.prog X.w X.K X.mg X.base X.A X.stack s H :=
 ⟨I.ok.frames, I.ok.mod, I.bs, Nat.le_trans I.ok.bsz I.sz, I.stack, I.stkFree, I.hok, I.bare⟩
theorem Inv.after {Q : VK} {u : Value} (I : Inv X pins σ H s) (h : CE X.stack X.prog X.w H s Q u s') : EP X pins σ Q u s' := by
 obtain ⟨v, H', os, bare, un, hok, r, q⟩ := h
 obtain ⟨hh, g, d, t, os'⟩ := s'
 obtain rfl : os' = s.os := os
 exact ⟨v, H', I.call (h' := hh) (g' := g) (d' := d) (t' := t) (ch := []) un hok bare (fun b z => absurd z (by simp)), r, q⟩
end
def tCall (sp : Sp) (dvs : List V) (E : XK) (t : TA) : TE := fun σ H Q => t σ H fun vs H1 => sp (vs ++ dvs) H1 Q E
def tMeth (C : Addr) (m : Str) (sp : Sp) (dvs : List V) (E : XK) (ta : TE) (t : TA) : TE := fun σ H Q => ta σ H fun x H1 => ∃ a dx fs, x = .ref a /\ H1 a = some (.ins C dx fs) /\ fs.lookup m = none /\
 t σ H1 fun vs H2 => sp (x :: (vs ++ dvs)) H2 Q E
def tMake (C : Addr) (sp : Sp) (dvs : List V) (E : XK) (t : TA) : TE := fun σ H Q => t σ H fun vs H1 => ∀ x dx, H1 x = none -> H1 dx = none -> dx ≠ x ->
 sp (.ref x :: (vs ++ dvs)) (upd (upd H1 dx (.own x)) x (.ins C dx [])) (fun v H2 => v = .non /\ Q (.ref x) H2) E
def Binds (K : PySem.W.Frag) (fd : FuncData) (ps : List Str) (ds : List Value) : Prop :=
 ∀ (s : Shared) (us : List Value), K.In s.heap -> (us ++ ds).length = ps.length -> BindsTo s fd ⟨us, []⟩ (ps.zip (us ++ ds))
theorem Binds.all {K : PySem.W.Frag} {fd : FuncData} {ps : List Str} (h : ∀ us : List Value, us.length = ps.length -> bindArgs fd ⟨us, []⟩ = pure (ps.zip us)) : Binds K fd ps [] := fun s us _ hl => by
 rw [List.append_nil] at hl ⊢
 exact .of_eq (h us hl)
def Passes (CX : CXT) (X : Cx) (E : XK) : Prop := ∀ (pins : List (Addr × Obj)) (σ : St) (H : Hp) (s : Shared) (e : Value) (s' : Shared), Inv X pins σ H s -> CX X.stack H s E e s' -> X.xe e s'
section
variable {X : Cx} {CX : CXT} {k : Nat} {f C : Addr} {fd : FuncData} {ps : List Str} {sp : Sp} {dvs : List V} {ds : List Value} {E : XK} {x m : Str} {p pos apos : Pos} {e o : Expr} {es : List Expr} {ta : TE} {t : TA}
theorem run_fn {pins : List (Addr × Obj)} {σ : St} {H : Hp} {s : Shared} {Q : VK} {us : List Value} {vs : List V} (F : FnOk X.prog X.w X.K X.mg X.base CX k f fd ps sp) (hr : Room k X.A) (hb : Binds X.K fd ps ds) (hd : Vals dvs ds) (hx : Passes CX X E)
  (I : Inv X pins σ H s) (r : Vals vs us) (h : sp (vs ++ dvs) H Q E) : wpAny (model X.prog X.w) X.A (call (.ref f) us) (EP X pins σ Q) X.xe s := by
 have r2 : Vals (vs ++ dvs) (us ++ ds) := r.append hd
 have hl : (us ++ ds).length = ps.length := by rw [<- r2.length]; exact F.len _ _ _ _ h
 refine wpAny_call (codeAny_mono (F.run X.A X.stack s H ⟨us, []⟩ (us ++ ds) (vs ++ dvs) Q E hr I.env0 (hb s us I.kIn hl) r2 h) fun r s' hq => ?_)
 cases r with
 | error e => exact hx pins σ H s e s' I hq
 | ok fl =>
  cases fl with
  | ret u => exact I.after hq
  | next => exact False.elim hq
  | brk => exact False.elim hq
  | cont => exact False.elim hq
theorem pe_call (F : FnOk X.prog X.w X.K X.mg X.base CX k f fd ps sp) (hr : Room k X.A) (hg : Gl X x) (hm : X.mg x = some (.ref f)) (hk : PySem.W.keepIn X.K (.ref f) = true) (hb : Binds X.K fd ps ds) (hd : Vals dvs ds) (hx : Passes CX X E)
  (ha : PA X (e :: es) t) (hdb : (x == ("__debug__" : Str)) = false := by decide) (he : starEach (e :: es) X.env = (false, eval e X.env) :: starEach es X.env := by rfl) (hpl : (backTo pos (starEach es X.env)).any (·.1) = false := by rfl) :
  PE X (.Call (.Name x p) (e :: es) [] pos) (tCall sp dvs E t) := by
 intro pins s σ H Q I h
 refine wpAny_Call_Name_kw (ld_glob I hg hm ?_ hdb)
 refine PySem.W.callWith_K (h₀ := X.base) I.ok.mod.kin hk (thn (ha pos pins s σ H _ I h) fun us s1 ⟨vs, H1, I1, r, q⟩ => ⟨I1.kIn, ?_⟩) he hpl
 exact run_fn F hr hb hd hx I1 r q
theorem pe_meth {pl : Sem Bool} (he : PE X o ta) (c : Cls X.K C) (hm : Meth X.K C m f) (F : FnOk X.prog X.w X.K X.mg X.base CX k f fd ps sp) (hr : Room k X.A) (hb : Binds X.K fd ps ds) (hd : Vals dvs ds) (hx : Passes CX X E) (ha : PA X (e :: es) t)
  (hst : starEach (e :: es) X.env = (false, eval e X.env) :: starEach es X.env := by rfl) (hpl : (backTo pos (starEach es X.env)).any (·.1) = false := by rfl)
  (ht : eval (.Call (.Attribute o m apos) (e :: es) [] pos) X.env = (do
   let ov <- eval o X.env
   standAt apos.atName
   let (f, first) <- holding [ov] (getMethod ov m pl)
   callWith pos f first (backTo pos (starEach (e :: es) X.env)) (backToKw pos (keywordEach [] X.env))) := by rfl) :
  PE X (.Call (.Attribute o m apos) (e :: es) [] pos) (tMeth C m sp dvs E ta t) := by
 intro pins s σ H Q I h
 refine PySem.W.methodCall_KW (pl := pl) (thn (he pins s σ H _ I h) fun u s1 ⟨x, H1, I1, rx, a, dx, fs, ex, ea, l, q⟩ => ?_) ht
 subst ex
 obtain rfl : u = Value.ref a := rx
 refine getmeth_ok I1 ea c hm l ?_
 refine PySem.W.callWith_K (first := [.ref a]) (h₀ := X.base) I.ok.mod.kin hm.kp (thn (ha pos pins s1 σ H1 _ I1 q) fun us s2 ⟨vs, H2, I2, r, q2⟩ => ⟨I2.kIn, ?_⟩) hst hpl
 exact run_fn (us := .ref a :: us) (vs := .ref a :: vs) F hr hb hd hx I2 (.cons rfl r) q2
structure Mk (K : PySem.W.Frag) (C f : Addr) : Prop where
 makes : PySem.W.makesIn K C = true
 init : PySem.W.findIn K (.ref C) "__init__" = some (some (.ref f))
 fn : PySem.W.isFn K (.ref f) = true
 kp : PySem.W.keepIn K (.ref C) = true
theorem run_make {pins : List (Addr × Obj)} {σ : St} {H : Hp} {s : Shared} {Q : VK} {us : List Value} {vs : List V} (M : Mk X.K C f) (F : FnOk X.prog X.w X.K X.mg X.base CX k f fd ps sp) (hr : Room (k + 1) X.A) (hb : Binds X.K fd ps ds) (hd : Vals dvs ds)
  (hx : Passes CX X E) (I : Inv X pins σ H s) (r : Vals vs us)
  (h : ∀ x dx, H x = none -> H dx = none -> dx ≠ x -> sp (.ref x :: (vs ++ dvs)) (upd (upd H dx (.own x)) x (.ins C dx [])) (fun v H2 => v = .non /\ Q (.ref x) H2) E) :
  wpAny (model X.prog X.w) X.A (call (.ref C) us) (EP X pins σ Q) X.xe s := by
 have hq := h (s.heap.objs.size + 1) s.heap.objs.size (I.hok.fresh (Nat.le_succ _)) (I.hok.fresh (Nat.le_refl _)) (Nat.ne_of_lt (Nat.lt_succ_self _))
 have I2 := Inv.made (C := C) I
 have r2 : Vals (V.ref (s.heap.objs.size + 1) :: (vs ++ dvs)) (Value.ref (s.heap.objs.size + 1) :: (us ++ ds)) := .cons rfl (r.append hd)
 have hl : (Value.ref (s.heap.objs.size + 1) :: us ++ ds).length = ps.length := by
  have e := r2.length
  rw [F.len _ _ _ _ hq] at e
  exact e.symm
 refine wpAny_call (make_map (f := f) I.kIn M.makes M.init (beq_iff_eq.mp M.fn) (codeAny_mono (F.run _ X.stack _ _ ⟨Value.ref (s.heap.objs.size + 1) :: us, []⟩ (Value.ref (s.heap.objs.size + 1) :: (us ++ ds)) _ _ E (hr.make C us [])
  (I2.env0.make C us []) (hb _ (Value.ref (s.heap.objs.size + 1) :: us) I2.kIn hl) r2 hq) fun r s' hq' => ?_))
 cases r with
 | error e => exact hx pins σ _ _ e s' I2 hq'
 | ok fl =>
  cases fl with
  | ret u =>
   obtain ⟨v, H', I3, rv, ev, q3⟩ := I2.after hq'
   subst ev
   exact ⟨rv, ⟨V.ref (s.heap.objs.size + 1), H', I3, rfl, q3⟩⟩
  | next => exact False.elim hq'
  | brk => exact False.elim hq'
  | cont => exact False.elim hq'
theorem pe_make (M : Mk X.K C f) (F : FnOk X.prog X.w X.K X.mg X.base CX k f fd ps sp) (hr : Room (k + 1) X.A) (hg : Gl X x) (hm : X.mg x = some (.ref C)) (hb : Binds X.K fd ps ds) (hd : Vals dvs ds) (hx : Passes CX X E)
  (ha : PA X (e :: es) t) (hdb : (x == ("__debug__" : Str)) = false := by decide) (he : starEach (e :: es) X.env = (false, eval e X.env) :: starEach es X.env := by rfl) (hpl : (backTo pos (starEach es X.env)).any (·.1) = false := by rfl) :
  PE X (.Call (.Name x p) (e :: es) [] pos) (tMake C sp dvs E t) := by
 intro pins s σ H Q I h
 refine wpAny_Call_Name_kw (ld_glob I hg hm ?_ hdb)
 refine PySem.W.callWith_K (h₀ := X.base) I.ok.mod.kin M.kp (thn (ha pos pins s σ H _ I h) fun us s1 ⟨vs, H1, I1, r, q⟩ => ⟨I1.kIn, ?_⟩) he hpl
 exact run_make M F hr hb hd hx I1 r q
end
structure FnScope (N P : List Str) (sc : Scope) : Prop where
 kind : sc.kind = .function
 co : sc.isCoroutine = false
 gen : sc.isGenerator = false
 nd : N.Nodup
 pre : N.take P.length = P
 par : ∀ x ∈ P, sc.names.lookup x = some .local \/ sc.names.lookup x = some .cell
 nofree : ∀ y ∈ sc.names, y.2 ≠ .free
theorem bindL_out {kindOf : Str -> Option NameKind} {x : Str} : ∀ {binds : List (Str × Value)} {m : Str -> Option Value}, (∀ v, (x, v) ∉ binds) -> bindL kindOf binds m x = m x
 | [], _, _ => rfl
 | (n, v) :: r, m, h => by
  unfold bindL
  rw [bindL_out fun w hw => h w (List.mem_cons_of_mem _ hw)]
  split
  ·have : x ≠ n := by rintro rfl; exact h v List.mem_cons_self
   simp [this]
  ·rfl
theorem bindC_out {kindOf : Str -> Option NameKind} {x : Str} : ∀ {binds : List (Str × Value)} {m : Str -> Option Value}, (∀ v, (x, v) ∉ binds) -> bindC kindOf binds m x = m x
 | [], _, _ => rfl
 | (n, v) :: r, m, h => by
  unfold bindC
  rw [bindC_out fun w hw => h w (List.mem_cons_of_mem _ hw)]
  split
  ·rfl
  ·have : x ≠ n := by rintro rfl; exact h v List.mem_cons_self
   simp [this]
theorem bindL_get {kindOf : Str -> Option NameKind} {x : Str} {v : Value} : ∀ {P : List Str} {vs : List Value} {i : Nat} {m : Str -> Option Value}, P.Nodup -> P[i]? = some x -> vs[i]? = some v -> kindOf x = some .local ->
  bindL kindOf (P.zip vs) m x = some v
 | [], _, _, _, _, h, _, _ => by simp at h
 | _ :: _, [], _, _, _, _, h, _ => by simp at h
 | p :: P, w :: vs, 0, m, nd, h1, h2, hk => by
  simp at h1 h2; subst h1; subst h2
  show bindL kindOf ((p, w) :: P.zip vs) m p = _
  unfold bindL
  rw [bindL_out fun v hv => (List.nodup_cons.mp nd).1 (List.of_mem_zip hv).1, if_pos hk]
  simp
 | p :: P, w :: vs, i + 1, m, nd, h1, h2, hk => by
  show bindL kindOf ((p, w) :: P.zip vs) m x = _
  unfold bindL
  exact bindL_get (i := i) (List.nodup_cons.mp nd).2 (by simpa using h1) (by simpa using h2) hk
theorem bindC_get {kindOf : Str -> Option NameKind} {x : Str} {v : Value} : ∀ {P : List Str} {vs : List Value} {i : Nat} {m : Str -> Option Value}, P.Nodup -> P[i]? = some x -> vs[i]? = some v -> kindOf x ≠ some .local ->
  bindC kindOf (P.zip vs) m x = some v
 | [], _, _, _, _, h, _, _ => by simp at h
 | _ :: _, [], _, _, _, _, h, _ => by simp at h
 | p :: P, w :: vs, 0, m, nd, h1, h2, hk => by
  simp at h1 h2; subst h1; subst h2
  show bindC kindOf ((p, w) :: P.zip vs) m p = _
  unfold bindC
  rw [bindC_out fun v hv => (List.nodup_cons.mp nd).1 (List.of_mem_zip hv).1, if_neg hk]
  simp
 | p :: P, w :: vs, i + 1, m, nd, h1, h2, hk => by
  show bindC kindOf ((p, w) :: P.zip vs) m x = _
  unfold bindC
  exact bindC_get (i := i) (List.nodup_cons.mp nd).2 (by simpa using h1) (by simpa using h2) hk
def start (N : List Str) (vs : List V) : St := vs.map some ++ List.replicate (N.length - vs.length) none
def cxOf (CX : CXT) (P : Program) (w : World) (K : PySem.W.Frag) (mg : Str -> Option Value) (base : Heap) (N : List Str) (qual : Str) (scope : Scope) (f : Addr) (cd : Value) (A : Around) (outer : List Env) (s : Shared) (H : Hp) (E : XK) : Cx where
 prog := P
 w := w
 K := K
 mg := mg
 base := base
 A := A.deeper (envOfC qual scope s.heap.objs.size f cd)
 N := N
 s₀ := s
 H₀ := H
 env := envOfC qual scope s.heap.objs.size f cd
 outer := outer
 stack := envOfC qual scope s.heap.objs.size f cd :: outer
 ex := []
 calm := true
 fn := fun _ => true
 pn := []
 xe := fun e s' => wpAny (model P w) (A.deeper (envOfC qual scope s.heap.objs.size f cd)) (leaving (envOfC qual scope s.heap.objs.size f cd) e) (fun _ s'' => CX outer H s E e s'') (fun e' s'' => CX outer H s E e' s'') s'
theorem cell_has {sc : Scope} {n : Nat} {x : Str} (h : sc.names.lookup x = some .cell) : ∃ c, (cellsFrom n sc.names []).lookup x = some c := by
 have q := PySem.W.cellsFrom_some sc.names n [] (.inl h)
 exact Option.isSome_iff_exists.mp q
theorem inv_start {CX : CXT} {P : Program} {w : World} {K : PySem.W.Frag} {mg : Str -> Option Value} {base : Heap} {N ps : List Str} {qual : Str} {scope : Scope} {f : Addr} {cd : Value} {A : Around} {outer : List Env} {s s1 : Shared} {H : Hp} {E : XK} {us : List Value} {vs : List V}
  (S : FnScope N ps scope) (hd : A.handled = none) (e0 : Env0 P w K mg base A outer s H) (hl : vs.length = ps.length) (r : Vals vs us)
  (x : InCallC s s.heap.objs.size (bindL (envOfC qual scope s.heap.objs.size f cd).kindOf (ps.zip us) fun _ => none) (cellsFrom (s.heap.objs.size + 1) scope.names []) (bindC (envOfC qual scope s.heap.objs.size f cd).kindOf (ps.zip us) fun _ => none) s1) :
  Inv (cxOf CX P w K mg base N qual scope f cd A outer s H E) [] (start N vs) H s1 := by
 have hpl : ps.length <= N.length := by have := congrArg List.length S.pre; rw [List.length_take] at this; omega
 obtain ⟨h1, tk, rfl, hk⟩ := x.done
 have noA : ∀ b : Addr, b ∉ (cxOf CX P w K mg base N qual scope f cd A outer s H E).ex := fun b z => absurd (show b ∈ ([] : List Addr) from z) (by simp)
 refine ⟨⟨e0.mod, S.kind, rfl, rfl, Nat.le_refl _, fun y z c h1 h2 => ?_, fun y hy => ?_, fun y c _ h => ?_, fun _ => hd, Around.frames_deeper e0.frames, .inr ⟨rfl, rfl⟩, fun b z => absurd z (noA b), e0.bs, e0.bsz, fun b _ _ => noA b, fun b z => absurd z (noA b), e0.funs, e0.frf⟩,
  rfl, e0.bare, Un.kept hk, ⟨_, x.toInCall.ns, fun i y v h1 h2 h3 => ?_⟩, fun y c h => ⟨_, x.cell y c h⟩, e0.hok.fresh (Nat.le_refl _), fun y c h => ?_, fun p hp => absurd (show p ∈ ([] : List (Addr × Obj)) from hp) (by simp), e0.hok.kept hk, ?_⟩
 ·exact name_of_addr x.apart (PySem.mem_of_lookup h1) (PySem.mem_of_lookup h2)
 ·have hy : scope.names.lookup y = some .cell \/ scope.names.lookup y = some .free := hy
  rcases hy with hy | hy
  ·exact cell_has hy
  ·exact absurd rfl (S.nofree _ (PySem.mem_of_lookup hy))
 ·exact Nat.le_of_lt (x.above y c (PySem.mem_of_lookup h))
 ·have hi : i < vs.length := by
   unfold start at h2
   by_cases hi : i < vs.length
   ·exact hi
   ·rw [List.getElem?_append_right (by simpa using hi)] at h2
    rw [List.getElem?_replicate] at h2
    split at h2 <;> cases h2
  have ha : vs[i]? = some v := by
   unfold start at h2
   rw [List.getElem?_append_left (by simpa using hi), List.getElem?_map] at h2
   cases e : vs[i]? with
   | none => rw [e] at h2; cases h2
   | some a => rw [e] at h2; cases h2; rfl
  obtain ⟨u, hu, rv⟩ := r.get ha
  have hp : ps[i]? = some y := by
   rw [<- S.pre, List.getElem?_take_of_lt (by omega)]; exact h1
  have ndP : ps.Nodup := by rw [<- S.pre]; exact S.nd.sublist (List.take_sublist _ _)
  refine ⟨u, rv, ?_⟩
  rcases S.par y (List.mem_of_getElem? hp) with k | k
  ·exact .inl ⟨k, bindL_get ndP hp hu k⟩
  ·obtain ⟨c, e⟩ := cell_has (n := s.heap.objs.size + 1) k
   refine .inr ⟨.inl k, c, e, ?_⟩
   have q := x.cell y c e
   rw [bindC_get ndP hp hu (by show scope.names.lookup y ≠ _; rw [k]; decide)] at q
   exact q
 ·exact e0.hok.fresh (Nat.le_of_lt (x.above y c (PySem.mem_of_lookup h)))
 ·unfold start
  show _ = N.length
  rw [List.length_append, List.length_map, List.length_replicate]
  omega
theorem fn_of {CX : CXT} {P : Program} {w : World} {K : PySem.W.Frag} {mg : Str -> Option Value} {base : Heap} {k : Nat} {f : Addr} {name qual : Str} {params : Arguments} {body : List Stmt} {scope : Scope} {dV kV doc pm cdv ct oc : Value} {an od : Option Addr}
  {osl : Array (Option Value)} {N ps : List Str} {sp : Sp} (lk : K.lookup f = some ⟨oc, od, .func (PySem.W.fnOf name qual params body scope dV kV doc pm an cdv ct), osl⟩) (hcd : PySem.W.codeIn K cdv qual = true) (S : FnScope N ps scope)
  (len : ∀ vs H Q E, sp vs H Q E -> vs.length = ps.length)
  (hbody : ∀ (A : Around) (outer : List Env) (s : Shared) (H : Hp) (vs : List V) (Q : VK) (E : XK), Room k (A.deeper (envOfC qual scope s.heap.objs.size f cdv)) -> sp vs H Q E ->
   ∃ t, PSs (cxOf CX P w K mg base N qual scope f cdv A outer s H E) body t /\ t { nx := fun _ H' => Q .non H', rt := Q } (start N vs) H) :
  FnOk P w K mg base CX (k + 1) f (PySem.W.fnOf name qual params body scope dV kV doc pm an cdv ct) ps sp := by
 refine ⟨len, fun A outer s H args us vs Q E hr e0 hb r hsp => ?_⟩
 have hl := len _ _ _ _ hsp
 have KX : K.In s.heap := e0.mod.kin.keeps fun b o e => (e0.bs b o e).1
 have lim : s.heap.NoLimit := e0.mod.nolimit.keeps fun b o e => (e0.bs b o e).1
 have hkind : ∀ y ∈ ps.zip us, scope.names.lookup y.1 = some .local \/ (scope.names.lookup y.1 = some .cell /\ ((cellsFrom (s.heap.objs.size + 1) scope.names []).lookup y.1).isSome = true) := fun ⟨n, v⟩ hy => by
  rcases S.par n (List.of_mem_zip hy).1 with q | q
  ·exact .inl q
  ·exact .inr ⟨q, PySem.W.cellsFrom_some _ _ _ (.inl q)⟩
 refine codeAny_call_function hr.depth (KX _ _ lk) rfl S.co S.gen rfl (PySem.W.codeRec_of KX hcd) (hb _ _ _ _ ?_)
 refine wpAny_newFunctionEnv_cells S.kind hkind fun env he s1 x => ?_
 subst he
 refine ⟨lim.keeps x.toInCall.keep, codeAny_func ?_⟩
 obtain ⟨t, ht, hq⟩ := hbody A outer s H vs Q E (hr.deeper _) hsp
 have I : Inv (cxOf CX P w K mg base N qual scope f cdv A outer s H E) [] (start N vs) H s1 := inv_start S hr.hd e0 hl r x
 refine wpAny_mono (ht [] s1 (start N vs) H _ I hq) (fun fl s' hs => ?_) fun e s' hs => hs
 have fin : ∀ {σ' : St} {H' : Hp} {v : V} {u : Value}, Inv (cxOf CX P w K mg base N qual scope f cdv A outer s H E) [] σ' H' s' -> RelV v u -> Q v H' -> CE outer P w H s Q u s' :=
  fun {σ' H' v u} J rv q => ⟨v, H', J.os, J.bare, J.base, J.hok, rv, q⟩
 cases fl with
 | ret u =>
  obtain ⟨v, σ', H', J, rv, q⟩ := hs
  exact fin J rv q
 | next =>
  obtain ⟨σ', H', J, q⟩ := hs
  exact fin (v := V.non) (u := Value.none) J rfl q
 | brk =>
  obtain ⟨_, _, _, q⟩ := hs
  exact False.elim q
 | cont =>
  obtain ⟨_, _, _, q⟩ := hs
  exact False.elim q
end L2
namespace L2
open PySem PySem.Spec PyProof.Rows
section
variable {X : Cx} {x : Str} {p pos : Pos} {e : Expr} {es : List Expr} {t : TA} {id T : String} {r : List V -> Hp -> VK -> Prop}
def tCB (r : List V -> Hp -> VK -> Prop) (t : TA) : TE := fun σ H Q => t σ H fun vs H1 => r vs H1 Q
theorem pe_callB (hc : CallR X (.builtin id) r) (hg : Gl X x) (hm : X.mg x = none) (hv : bootBuiltins x = some (.builtin id)) (ha : PA X (e :: es) t) (hn : x ≠ "__name__" := by decide) (hdb : (x == ("__debug__" : Str)) = false := by decide)
  (he : starEach (e :: es) X.env = (false, eval e X.env) :: starEach es X.env := by rfl) (hpl : (backTo pos (starEach es X.env)).any (·.1) = false := by rfl) : PE X (.Call (.Name x p) (e :: es) [] pos) (tCB r t) := by
 intro pins s σ H Q I h
 refine wpAny_Call_Name_kw (ld_blt I hg hm hv ?_ hn hdb)
 exact PyProof.Rows.callWith_builtin1 (thn (ha pos pins s σ H _ I h) fun us s1 ⟨vs, H1, I1, r1, q1⟩ => hc pins s1 σ H1 vs us Q I1 r1 q1) he hpl
theorem pe_callTy (hc : CallR X (.type T) r) (hg : Gl X x) (hm : X.mg x = none) (hv : bootBuiltins x = some (.type T)) (ha : PA X (e :: es) t) (hn : x ≠ "__name__" := by decide) (hdb : (x == ("__debug__" : Str)) = false := by decide)
  (he : starEach (e :: es) X.env = (false, eval e X.env) :: starEach es X.env := by rfl) (hpl : (backTo pos (starEach es X.env)).any (·.1) = false := by rfl) : PE X (.Call (.Name x p) (e :: es) [] pos) (tCB r t) := by
 intro pins s σ H Q I h
 refine wpAny_Call_Name_kw (ld_blt I hg hm hv ?_ hn hdb)
 exact PyProof.Rows.callWith_type1 (thn (ha pos pins s σ H _ I h) fun us s1 ⟨vs, H1, I1, r1, q1⟩ => hc pins s1 σ H1 vs us Q I1 r1 q1) he hpl
end
end L2
namespace HT
open PySem PyProof.Rows
section
open PySem.SeqAt
open PySem.AutoSeq1 (wpAny_loadPart')
open PySem.MeetsSeq PySem.MeetsSeq2 PySem.MeetsSeq3
end
section
variable {prog : Program} {w : World} {A : Around} {E : Value -> Shared -> Prop} {s : Shared}
theorem cat_tup {t b : Addr} {vs ws : List Value} {Q : Value -> Shared -> Prop} (ht : IsTup s.heap t vs.toArray) (hb : IsTup s.heap b ws.toArray) (hv : vs ≠ [])
  (h1 : ws = [] -> Q (.ref t) s) (h2 : ws ≠ [] -> Q (.ref s.heap.objs.size) { s with heap := s.heap.push { cls := .type "tuple", data := .seq (vs ++ ws).toArray } })
  (hsz : vs.length + ws.length <= sizeLine) : wpAny (model prog w) A (binaryOp .Add (.ref t) (.ref b)) Q E s := by
 obtain ⟨⟨cls, dd, data, sl⟩, ho, hc, n, hd⟩ := id ht
 obtain ⟨⟨cls2, dd2, data2, sl2⟩, ho2, hc2, n2, hd2⟩ := id hb
 simp only at hc hd hc2 hd2
 subst hc hd hc2 hd2
 have e : vs.toArray ++ ws.toArray = (vs ++ ws).toArray := by simp
 by_cases hw : ws = []
 ·exact concat_meets ⟨_, ho, rfl⟩ ⟨_, ho2, rfl⟩ noFill_tuple_add seq_tuple_add PySem.F.slot_tuple_add PySem.F.entry_tuple_add (PySem.F.args_tuple_add_2 _ _)
   (tuple_addW1 t b vs.toArray ws.toArray n n2 dd dd2 sl sl2 (by simpa using hv) (by simp [hw])) ⟨ho, ho2, h1 hw⟩
 ·refine concat_meets ⟨_, ho, rfl⟩ ⟨_, ho2, rfl⟩ noFill_tuple_add seq_tuple_add PySem.F.slot_tuple_add PySem.F.entry_tuple_add (PySem.F.args_tuple_add_2 _ _)
   (tuple_addW2 t b vs.toArray ws.toArray n n2 dd dd2 sl sl2 (by simpa using hv) (by simpa using hw) (by rw [List.size_toArray, List.size_toArray]; exact hsz)) ⟨ho, ho2, ?_⟩
  rw [e]
  exact h2 hw
def sIx (n d : Nat) : Option Int -> Nat
 | none => d
 | some v => if v < 0 then (v + (n : Int)).toNat else min v.toNat n
theorem sIx_none (n d : Nat) : sIx n d none = d := rfl
theorem sIx_nat (n d k : Nat) : sIx n d (some (k : Int)) = min k n := by
 show (if (k : Int) < 0 then ((k : Int) + (n : Int)).toNat else min (k : Int).toNat n) = min k n
 rw [if_neg (by omega), Int.toNat_natCast]
theorem sIx_le (n d : Nat) (hd : d <= n) (o : Option Int) : sIx n d o <= n := by
 cases o with
 | none => exact hd
 | some v =>
  show (if v < 0 then (v + (n : Int)).toNat else min v.toNat n) <= n
  by_cases hv : v < 0
  ·rw [if_pos hv]; omega
  ·rw [if_neg hv]; exact Nat.min_le_right _ _
theorem clip_eq (v : Int) (n d : Nat) : (if v < 0 then max (v + (n : Int)) 0 else min v (n : Int)) = ((sIx n d (some v) : Nat) : Int) := by
 show (if v < 0 then max (v + (n : Int)) 0 else min v (n : Int)) = (((if v < 0 then (v + (n : Int)).toNat else min v.toNat n) : Nat) : Int)
 by_cases hv : v < 0
 ·simp only [if_pos hv]; omega
 ·simp only [if_neg hv]; omega
theorem adjust_gen (lo hi : Option Int) (n : Nat) : Builtin.Slice.sliceAdjust lo hi 1 (n : Int) = (((sIx n 0 lo : Nat) : Int), ((sIx n n hi : Nat) : Int)) := by
 have h1 : ¬ ((1 : Int) < 0) := by omega
 unfold Builtin.Slice.sliceAdjust
 simp only [h1, if_false]
 refine Prod.ext ?_ ?_
 ·cases lo with
  | none => rfl
  | some v => exact clip_eq v n 0
 ·cases hi with
  | none => rfl
  | some v => exact clip_eq v n n
theorem places_gen (i j : Nat) : Builtin.Slice.slicePlaces (i : Int) (j : Int) 1 = j - i := by
 unfold Builtin.Slice.slicePlaces
 have h1 : (1 : Int) > 0 := by omega
 simp only [h1, if_true, Int.ediv_one]
 split <;> omega
theorem slicePart_ {v : Value} {o : Option Int} {Q : Option Int -> Shared -> Prop} (p : IsPart v o) (h : Q o s) : wpAny (model prog w) A (Builtin.Slice.slicePartIndex v) Q E s := by
 cases p with
 | none => exact slicePart_none h
 | int i t => exact slicePart_int h
theorem sliceApplied_gen {sl : Addr} {vl vu : Value} {lo hi : Option Int} {n : Nat} {Q : Int × Int × Nat -> Shared -> Prop} (hs : s.heap.IsSliceOf sl vl vu .none) (pl : IsPart vl lo) (pu : IsPart vu hi)
  (h : Q (((sIx n 0 lo : Nat) : Int), 1, sIx n n hi - sIx n 0 lo) s) : wpAny (model prog w) A (Builtin.Slice.sliceApplied (.ref sl) (pure (n : Int))) Q E s := by
 obtain ⟨os, hos, hcs, hds⟩ := id hs
 unfold Builtin.Slice.sliceApplied Builtin.Slice.sliceFields
 refine wpAny_bind (wpAny_bind (wpAny_field hos hds (x := vl) rfl (wpAny_bind (wpAny_field hos hds (x := vu) rfl (wpAny_bind (wpAny_field hos hds (x := .none) rfl (wpAny_pure ?_)))))))
 refine wpAny_bind (slicePart_none ?_)
 show wpAny _ _ (if ((1 : Int) == 0) = true then _ else _) _ _ s
 rw [if_neg (by decide)]
 refine wpAny_bind (slicePart_ pl (wpAny_bind (slicePart_ pu (wpAny_bind (wpAny_pure ?_)))))
 show wpAny _ _ (match Builtin.Slice.sliceAdjust lo hi 1 (n : Int) with | (lo, hi) => pure (lo, (1 : Int), Builtin.Slice.slicePlaces lo hi 1)) _ _ s
 rw [adjust_gen lo hi n]
 show wpAny _ _ (pure (((sIx n 0 lo : Nat) : Int), (1 : Int), Builtin.Slice.slicePlaces ((sIx n 0 lo : Nat) : Int) ((sIx n n hi : Nat) : Int) 1)) _ _ s
 rw [places_gen]
 exact wpAny_pure h
theorem pick_gen (xs : Array Value) (i k : Nat) : ((List.range k).filterMap fun (m : Nat) => xs[((i : Int) + (m : Int) * 1).toNat]?).toArray = ((xs.toList.drop i).take k).toArray := by
 have e : (fun (m : Nat) => xs[((i : Int) + (m : Int) * 1).toNat]?) = fun m => xs[i + m]? := by
  funext m
  have : ((i : Int) + (m : Int) * 1).toNat = i + m := by omega
  rw [this]
 rw [e]
 have := pick_run xs i k
 rw [List.filterMap_map] at this
 have e2 : ((fun x => xs[x]?) ∘ fun x => i + x) = fun m => xs[i + m]? := rfl
 rw [e2] at this
 rw [this]
theorem getItem_tuple_cut {t sl : Addr} {items : Array Value} {vl vu : Value} {lo hi : Option Int} {Q : Value -> Shared -> Prop} (ht : IsTup s.heap t items) (hs : s.heap.IsSliceOf sl vl vu .none) (pl : IsPart vl lo) (pu : IsPart vu hi)
  (hw : ¬ (sIx items.size 0 lo = 0 /\ sIx items.size items.size hi = items.size))
  (h : Q (.ref s.heap.objs.size) { s with heap := s.heap.push { cls := .type "tuple", data := .seq ((items.toList.drop (sIx items.size 0 lo)).take (sIx items.size items.size hi - sIx items.size 0 lo)).toArray } })
  (hsz : items.size <= sizeLine) : wpAny (model prog w) A (getItem (.ref t) (.ref sl)) Q E s := by
 have htake : sizeOk (.seq ((items.toList.drop (sIx items.size 0 lo)).take (sIx items.size items.size hi - sIx items.size 0 lo)).toArray) := by
  show ((items.toList.drop (sIx items.size 0 lo)).take (sIx items.size items.size hi - sIx items.size 0 lo)).toArray.size <= sizeLine
  rw [List.size_toArray, List.length_take, List.length_drop, Array.length_toList]
  omega
 have hj : sIx items.size items.size hi <= items.size := sIx_le _ _ (Nat.le_refl _) hi
 obtain ⟨os, hos, hcs, hds⟩ := id hs
 have hTs : s.TypeIs (.ref sl) "slice" := ⟨os, hos, hcs⟩
 unfold getItem
 try with_reducible refine wpAny_holding ?_
 first | refine wpAny_bind (wpAny_pure ?_) | skip
 refine wpAny_bind (wpAny_sequenceKey ht.typeIs (by decide) ?_)
 refine wpAny_bind (wpAny_callSpecial?_slot (name := Str.ofString "__getitem__") ht.typeIs PyProof.Rows.slot_tuple_getitem
  (wpAny_call_entry PyProof.Rows.slot_tuple_getitem ht.typeIs entry_tuple_getitem ?_ (args_tuple_getitem _ _)))
 show wpAny _ _ (Builtin.Tuple.tupleItemsOf (.ref t) >>= _) _ _ s
 refine wpAny_bind (tupleItemsOf_ ht ?_)
 refine wpAny_bind (wpAny_typeOf hTs ?_)
 rw [if_pos (by decide)]
 refine wpAny_bind (sliceApplied_gen hs pl pu ?_)
 have hno : ¬ ((((sIx items.size 0 lo : Nat) : Int) == 0 && (1 : Int) == 1 && (sIx items.size items.size hi - sIx items.size 0 lo) == items.size) = true) := by
  intro q
  rw [Bool.and_eq_true, Bool.and_eq_true] at q
  have q1 : ((sIx items.size 0 lo : Nat) : Int) = 0 := eq_of_beq q.1.1
  have q2 : sIx items.size items.size hi - sIx items.size 0 lo = items.size := eq_of_beq q.2
  exact hw ⟨by omega, by omega⟩
 show wpAny _ _ (if (((sIx items.size 0 lo : Nat) : Int) == 0 && (1 : Int) == 1 && (sIx items.size items.size hi - sIx items.size 0 lo) == items.size) = true then _ else _) _ _ s
 rw [if_neg hno, pick_gen]
 first
  | exact wpAny_bind (m := Builtin.Tuple.tupleExact _) (wpAny_newObj_type (wpAny_pure ⟨_, rfl, wpAny_pure h⟩) htake)
  | exact wpAny_bind (m := Builtin.Tuple.tupleExact _) (wpAny_newObj_type (wpAny_bind (wpAny_pure (wpAny_pure ⟨_, rfl, wpAny_pure h⟩))) htake)
  | exact wpAny_bind (wpAny_bind (m := Builtin.Tuple.tupleExact _) (wpAny_newObj_type (wpAny_pure (wpAny_pure ⟨_, rfl, wpAny_pure h⟩)) htake))
  | exact wpAny_bind (wpAny_bind (m := Builtin.Tuple.tupleExact _) (wpAny_newObj_type (wpAny_pure ⟨_, rfl, wpAny_pure h⟩) htake))
end
end HT
namespace L2
open PySem PySem.Spec PyProof.Rows
abbrev TO := St -> Hp -> (Option Int -> Hp -> Prop) -> Prop
def PO (X : Cx) (e : Option Expr) (t : TO) : Prop :=
 ∀ (pins : List (Addr × Obj)) (s : Shared) (σ : St) (H : Hp) (Q : Option Int -> Hp -> Prop), Inv X pins σ H s -> t σ H Q ->
  wpAny (model X.prog X.w) X.A (evalPart e X.env) (fun u s' => ∃ o H', Inv X pins σ H' s' /\ IsPart u o /\ Q o H') X.xe s
def tNoPart : TO := fun _ H Q => Q none H
def tPart (t : TE) : TO := fun σ H Q => t σ H fun x H1 => ∃ i, x = .int i /\ Q (some i) H1
section
variable {X : Cx} {e : Expr} {te : TE} {lo hi : Option Expr} {tl th : TO} {pos p2 : Pos}
theorem po_none : PO X none tNoPart := by
 intro pins s σ H Q I h
 rw [evalPart_none]
 exact wpAny_pure ⟨none, H, I, .none, h⟩
theorem po_some (h : PE X e te) : PO X (some e) (tPart te) := by
 intro pins s σ H Q I hw
 rw [evalPart_some]
 refine thn (h pins s σ H _ I hw) fun u s1 ⟨x, H1, I1, r1, q1⟩ => ?_
 obtain ⟨i, rfl, q⟩ := q1
 obtain ⟨t, rfl⟩ := r1
 exact ⟨some i, H1, I1, .int i t, q⟩
def SlR (X : Cx) (r : V -> Option Int -> Option Int -> Hp -> VK -> Prop) : Prop :=
 ∀ (pins : List (Addr × Obj)) (s : Shared) (σ : St) (H : Hp) (x : V) (v vl vu : Value) (lo hi : Option Int) (sl : Addr) (Q : VK), Inv X pins σ H s -> RelV x v -> s.heap.IsSliceOf sl vl vu .none -> IsPart vl lo -> IsPart vu hi -> r x lo hi H Q ->
  ∃ T id, typeLookup (.type T) "__getitem__" = pure (some (.builtin id)) /\ s.TypeIs v T /\ wpAny (model X.prog X.w) X.A (getItem v (.ref sl)) (EP X pins σ Q) X.xe s
def tSl (r : V -> Option Int -> Option Int -> Hp -> VK -> Prop) (te : TE) (tl th : TO) : TE := fun σ H Q => te σ H fun x H1 => tl σ H1 fun l H2 => th σ H2 fun u H3 => r x l u H3 Q
theorem pe_slice {r : V -> Option Int -> Option Int -> Hp -> VK -> Prop} (hr : SlR X r) (he : PE X e te) (hl : PO X lo tl) (hu : PO X hi th) : PE X (.Subscript e (.Slice lo hi none p2) pos) (tSl r te tl th) := by
 intro pins s σ H Q I h
 refine Subscript_ (thn (he pins s σ H _ I h) fun v s1 ⟨x, H1, I1, r1, q1⟩ => ?_)
 refine wpAny_Slice (thn (hl pins s1 σ H1 _ I1 q1) fun vl s2 ⟨l, H2, I2, pl, q2⟩ => thn (hu pins s2 σ H2 _ I2 q2) fun vu s3 ⟨u, H3, I3, pu, q3⟩ => ?_)
 rw [evalPart_none]
 refine wpAny_pure ?_
 have I4 : Inv X pins σ H3 { s3 with heap := s3.heap.push { cls := .type "slice", data := .fields #[vl, vu, .none] } } := I3.kept (t' := s3.toks) fun b ob q => Heap.get?_push_of_some _ q
 obtain ⟨T, id, hT, ht, hg⟩ := hr pins { s3 with heap := s3.heap.push { cls := .type "slice", data := .fields #[vl, vu, .none] } } σ H3 x v vl vu l u s3.heap.objs.size Q I4 r1 (Heap.IsSliceOf.new ..) pl pu q3
 show wpAny (model X.prog X.w) X.A (subscriptTail e (.Slice lo hi none p2) v (.ref s3.heap.objs.size)) (EP X pins σ Q) X.xe { s3 with heap := s3.heap.push { cls := .type "slice", data := .fields #[vl, vu, .none] } }
 exact tail_any (ops := [.ref s3.heap.objs.size, v]) ht hT hg (by with_unfolding_all rfl)
def cutV (xs : List V) (lo hi : Option Int) : List V := (xs.drop (HT.sIx xs.length 0 lo)).take (HT.sIx xs.length xs.length hi - HT.sIx xs.length 0 lo)
theorem cutV_length (xs : List V) (lo hi : Option Int) : (cutV xs lo hi).length <= xs.length := by
 unfold cutV
 rw [List.length_take, List.length_drop]
 omega
def rSlT (K : PySem.W.Frag) : V -> Option Int -> Option Int -> Hp -> VK -> Prop := fun x lo hi H Q => ∃ a xs, x = .ref a /\ SqT K H a xs /\
 ¬ (HT.sIx xs.length 0 lo = 0 /\ HT.sIx xs.length xs.length hi = xs.length) /\ ∀ p, H p = none -> Q (.ref p) (upd H p (.tup (cutV xs lo hi)))
theorem sl_tup : SlR X (rSlT X.K) := by
 intro pins s σ H x v vl vu lo hi sl Q I rx hs pl pu h
 obtain ⟨a, xs, rfl, hx, hw, q⟩ := h
 cases rx
 obtain ⟨its, r, ht, hz⟩ := I.tuple hx
 have hlen : its.toArray.size = xs.length := by rw [List.size_toArray]; exact r.length.symm
 refine ⟨"tuple", _, PyProof.Rows.slot_tuple_getitem.lookup, ht.typeIs, ?_⟩
 refine HT.getItem_tuple_cut ht hs pl pu (by rw [hlen]; exact hw) ?_ (by rw [hlen]; exact hz)
 rw [hlen]
 refine ⟨.ref s.heap.objs.size, _, I.laid (t' := s.toks) (o := .tup (cutV xs lo hi)) (fun b ob q => Heap.get?_push_of_some _ q) (Nat.le_refl _) ?_, rfl, q _ (I.hok.fresh (Nat.le_refl _))⟩
 exact ⟨Nat.le_trans (cutV_length xs lo hi) hz, _, (r.drop (HT.sIx xs.length 0 lo)).take (HT.sIx xs.length xs.length hi - HT.sIx xs.length 0 lo), TupN.new _ _⟩
def rCatT (K : PySem.W.Frag) : R2 := fun x y H Q => ∃ a b xs ys, x = .ref a /\ y = .ref b /\ SqT K H a xs /\ SqT K H b ys /\ xs ≠ [] /\ xs.length + ys.length <= sizeLine /\
 (ys = [] -> Q (.ref a) H) /\ (ys ≠ [] -> ∀ p, H p = none -> Q (.ref p) (upd H p (.tup (xs ++ ys))))
theorem Vals.nil_iff {xs : List V} {us : List Value} (r : Vals xs us) : us = [] ↔ xs = [] := by
 cases r with
 | nil => simp
 | cons _ _ => simp
theorem op_catT : OpR X (binaryOp .Add) (rCatT X.K) := by
 intro pins s σ H x y v u Q I rx ry h
 obtain ⟨a, b, xs, ys, rfl, rfl, ha, hb, hx, hz, q1, q2⟩ := h
 cases rx
 cases ry
 obtain ⟨its, r1, p1, _⟩ := I.tuple ha
 obtain ⟨its2, r2, p2, _⟩ := I.tuple hb
 refine HT.cat_tup p1 p2 (fun z => hx (r1.nil_iff.mp z)) (fun z => ⟨.ref a, H, I, rfl, q1 (r2.nil_iff.mp z)⟩) (fun z => ?_) (by rw [<- r1.length, <- r2.length]; exact hz)
 refine ⟨.ref s.heap.objs.size, _, I.laid (t' := s.toks) (o := .tup (xs ++ ys)) (fun b ob q => Heap.get?_push_of_some _ q) (Nat.le_refl _) ?_, rfl, q2 (fun w => z (r2.nil_iff.mpr w)) _ (I.hok.fresh (Nat.le_refl _))⟩
 exact ⟨by rw [List.length_append]; exact hz, _, r1.append r2, TupN.new _ _⟩
end
end L2
namespace L2
open PySem PySem.Spec PyProof.Rows
def ixN (n : Nat) (i : Int) : Option Nat := if 0 <= i then (if i < n then some i.toNat else none) else if -(n : Int) <= i then some (i + n).toNat else none
def atI {α : Type} (xs : List α) (i : Int) : Option α := (ixN xs.length i).bind fun j => xs[j]?
theorem ixN_seq {n : Nat} {i : Int} {j : Nat} (h : ixN n i = some j) : seqIndex? i n = some j /\ j < n /\ -(n : Int) <= i /\ i < n := by
 unfold ixN at h
 by_cases h0 : 0 <= i
 ·rw [if_pos h0] at h
  by_cases h1 : i < n
  ·rw [if_pos h1] at h
   have e : i.toNat = j := Option.some.inj h
   exact ⟨by rw [seqIndex_of h0 h1, e], by omega, by omega, h1⟩
  ·rw [if_neg h1] at h; cases h
 ·rw [if_neg h0] at h
  by_cases h1 : -(n : Int) <= i
  ·rw [if_pos h1] at h
   have e : (i + n).toNat = j := Option.some.inj h
   exact ⟨by rw [seqIndex_neg (by omega) h1, e], by omega, h1, by omega⟩
  ·rw [if_neg h1] at h; cases h
theorem atI_get {α : Type} {xs : List α} {i : Int} {v : α} (h : atI xs i = some v) : ∃ j, seqIndex? i xs.length = some j /\ xs[j]? = some v /\ j < xs.length /\ -(xs.length : Int) <= i /\ i < xs.length := by
 unfold atI at h
 cases e : ixN xs.length i with
 | none => rw [e] at h; cases h
 | some j =>
  rw [e] at h
  obtain ⟨h1, h2, h3, h4⟩ := ixN_seq e
  exact ⟨j, h1, h, h2, h3, h4⟩
theorem atI_nat {α : Type} {xs : List α} {j : Nat} {v : α} (h : xs[j]? = some v) : atI xs (j : Int) = some v := by
 have hj : j < xs.length := (List.getElem?_eq_some_iff.mp h).1
 have e : ixN xs.length (j : Int) = some j := by
  unfold ixN
  rw [if_pos (by omega), if_pos (by omega)]; simp
 unfold atI; rw [e]; exact h
def PlainIx (b : Expr) : Prop := ∀ o i, subscripted b false o i = operate [o, i] (getItem o i)
def IxR (X : Cx) (r : R2) : Prop :=
 ∀ (value slice : Expr) (pins : List (Addr × Obj)) (s : Shared) (σ : St) (H : Hp) (x y : V) (v u : Value) (Q : VK), Inv X pins σ H s -> RelV x v -> RelV y u -> r x y H Q ->
  subscripted slice false v u = operate [v, u] (getItem v u) -> wpAny (model X.prog X.w) X.A (subscriptTail value slice v u) (EP X pins σ Q) X.xe s
def MtR (X : Cx) (id : String) (r : V -> List V -> Hp -> VK -> Prop) : Prop :=
 ∀ (pins : List (Addr × Obj)) (s : Shared) (σ : St) (H : Hp) (x : V) (xs : List V) (v : Value) (us : List Value) (Q : VK), Inv X pins σ H s -> RelV x v -> Vals xs us -> r x xs H Q ->
  wpAny (model X.prog X.w) X.A (call (.builtin id) (v :: us)) (EP X pins σ Q) X.xe s
section
variable {X : Cx} {a b : Expr} {ta tb : TE} {pos : Pos}
theorem pe_ix {r : R2} (hr : IxR X r) (ha : PE X a ta) (hb : PE X b tb) (hs : PlainIx b) : PE X (.Subscript a b pos) (tOp r ta tb) := by
 intro pins s σ H Q I h
 exact Subscript_ (binT ha hb I h fun v u s2 x y H2 I2 rx ry q => hr a b pins s2 σ H2 x y v u Q I2 rx ry q (hs _ _))
def rIxL (K : PySem.W.Frag) : R2 := fun x y H Q => ∃ p xs i v, x = .ref p /\ y = .int i /\ SqL K H p xs /\ atI xs i = some v /\ Q v H
def rIxT (K : PySem.W.Frag) : R2 := fun x y H Q => ∃ p xs i v, x = .ref p /\ y = .int i /\ SqT K H p xs /\ atI xs i = some v /\ Q v H
def rIxS : R2 := fun x y H Q => ∃ z i c, x = .str z /\ y = .int i /\ z.length <= sizeLine /\ atI z.cps.toList i = some c /\ Q (.str ⟨#[c]⟩) H
theorem ix_list : IxR X (rIxL X.K) := by
 intro value slice pins s σ H x y v u Q I rx ry h hs
 obtain ⟨p, xs, i, z, rfl, rfl, hq, he, q⟩ := h
 cases rx
 obtain ⟨t, rfl⟩ := ry
 obtain ⟨its, r, pl, hz⟩ := I.list hq
 obtain ⟨j, h1, h2, h3, h4, h5⟩ := atI_get he
 obtain ⟨w, ew, rw'⟩ := r.get h2
 have hl := r.length
 have hn := line63
 have fin : EP X pins σ Q w s := ⟨z, H, I, rw', q⟩
 by_cases h0 : 0 <= i
 ·have hj : i.toNat = j := by
   rw [seqIndex_of h0 h5] at h1
   exact Option.some.inj h1
  exact item_listR pl.isList h0 (by omega) (by rw [hj]; simpa using ew) fin hs
 ·have hj : (i + (its.toArray.size : Int)).toNat = j := by
   rw [seqIndex_neg (by omega) h4] at h1
   rw [List.size_toArray, <- hl]
   exact Option.some.inj h1
  exact subscriptTail_builtinR (x := w) pl.isList.typeIs slot_list_getitem.lookup
   (wpAny_getItem_list_neg (Q := fun r s' => r = w /\ EP X pins σ Q r s') pl.isList (by omega) (by rw [List.size_toArray] <;> omega) (by omega) (by rw [hj]; simpa using ew) ⟨rfl, fin⟩) hs
theorem ix_tup : IxR X (rIxT X.K) := by
 intro value slice pins s σ H x y v u Q I rx ry h hs
 obtain ⟨p, xs, i, z, rfl, rfl, hq, he, q⟩ := h
 cases rx
 obtain ⟨t, rfl⟩ := ry
 obtain ⟨its, r, pl, hz⟩ := I.tuple hq
 obtain ⟨j, h1, h2, h3, h4, h5⟩ := atI_get he
 obtain ⟨w, ew, rw'⟩ := r.get h2
 have hl := r.length
 have hn := line63
 have fin : EP X pins σ Q w s := ⟨z, H, I, rw', q⟩
 exact subscriptTail_builtinR (x := w) pl.typeIs slot_tuple_getitem.lookup
  (getItem_tuple (j := j) (Q := fun r s' => r = w /\ EP X pins σ Q r s') pl (by omega) (by omega) (by rw [List.size_toArray, <- hl]; exact h1) (by simpa using ew) ⟨rfl, fin⟩) hs
theorem ix_str : IxR X rIxS := by
 intro value slice pins s σ H x y v u Q I rx ry h hs
 obtain ⟨z, i, c, rfl, rfl, hz, he, q⟩ := h
 obtain ⟨t, rfl⟩ := rx
 obtain ⟨t', rfl⟩ := ry
 obtain ⟨j, h1, h2, h3, h4, h5⟩ := atI_get he
 have hl : z.cps.toList.length = z.length := by simp [Str.length]
 rw [hl] at h1 h4 h5
 have hn := line63
 exact tail_any (typeIs_str s z t) slot_str_getitem.lookup (getItem_str (c := c) (by
  have e1 : decide (i < -(2 ^ 63 : Int)) = false := decide_eq_false (by omega)
  have e2 : decide (i ≥ 2 ^ 63) = false := decide_eq_false (by omega)
  rw [e1, e2, Bool.or_false]) (by rw [h1]; simpa using h2) ⟨.str ⟨#[c]⟩, H, I.tok _, ⟨_, rfl⟩, q⟩) hs
theorem mapSeq_set (its : List Value) (n j : Nat) (u : Value) : Obj.mapSeq (·.setIfInBounds j u) { cls := .type "list", data := .seq its.toArray n } = { cls := .type "list", data := .seq (its.set j u).toArray n } := by
 simp [Obj.mapSeq]
theorem Inv.lst {pins : List (Addr × Obj)} {σ : St} {H : Hp} {s : Shared} {p : Addr} {xs : List V} (I : Inv X pins σ H s) (h : H p = some (.lst xs)) :
  ∃ (its : List Value) (n : Nat), Vals xs its /\ s.heap.get? p = some { cls := .type "list", data := .seq its.toArray n } /\ xs.length <= sizeLine := by
 obtain ⟨z, its, n, r, e⟩ := I.hok p _ h
 exact ⟨its, n, r, e, z⟩
theorem Inv.lstUpd {pins : List (Addr × Obj)} {σ : St} {H : Hp} {s : Shared} {p : Addr} {xs ys : List V} {its its' : List Value} {n n' : Nat} {f : Obj -> Obj} (I : Inv X pins σ H s) (h : H p = some (.lst xs))
  (ho : s.heap.get? p = some { cls := .type "list", data := .seq its.toArray n }) (hf : f { cls := .type "list", data := .seq its.toArray n } = { cls := .type "list", data := .seq its'.toArray n' }) (r : Vals ys its') (hz : ys.length <= sizeLine) (t : Nat) :
  Inv X pins σ (upd H p (.lst ys)) { s with heap := s.heap.update p f, toks := t } := by
 have e : (s.heap.update p f).get? p = some { cls := .type "list", data := .seq its'.toArray n' } := by
  rw [Heap.get?_update_self f ho (by rw [hf] <;> rfl), hf]
 refine I.write (x := p) (e := p) (by rw [h]; trivial) (.inl rfl) (fun b u hb q => (Heap.get?_update_other _ _ (Ne.symm hb)).trans q) ⟨_, e⟩ ?_
 exact ⟨hz, its', n', r, e⟩
def rSetL : V -> V -> V -> Hp -> (Hp -> Prop) -> Prop := fun o i v H Q => ∃ p xs k j, o = .ref p /\ i = .int k /\ H p = some (.lst xs) /\ ixN xs.length k = some j /\ Q (upd H p (.lst (xs.set j v)))
theorem set_list : PSet X rSetL := by
 intro pins s σ H o i v ov iv u Q I ro ri rv h
 obtain ⟨p, xs, k, j, rfl, rfl, hp, hj, q⟩ := h
 cases ro
 obtain ⟨t, rfl⟩ := ri
 obtain ⟨its, n, r, ho, hz⟩ := I.lst hp
 obtain ⟨h1, h2, h3, h4⟩ := ixN_seq hj
 have hl := r.length
 have hn := line63
 have I' : Inv X pins σ (upd H p (.lst (xs.set j v))) { s with heap := s.heap.update p (Obj.mapSeq (·.setIfInBounds j u)) } :=
  I.lstUpd hp ho (mapSeq_set its n j u) (r.set rv j) (by rw [List.length_set]; exact hz) s.toks
 by_cases h0 : 0 <= k
 ·have hk : k.toNat = j := by
   rw [seqIndex_of h0 h4] at h1
   exact Option.some.inj h1
  exact PySem.W.ki_setAt ho h0 (by omega) (by rw [List.size_toArray, <- hl]; exact h4) (by rw [hk]; exact ⟨_, I', q⟩)
 ·have hk : (k + (its.toArray.size : Int)).toNat = j := by
   rw [seqIndex_neg (by omega) h3] at h1
   rw [List.size_toArray, <- hl]
   exact Option.some.inj h1
  exact PySem.W.ki_setBack ho (by omega) (by rw [List.size_toArray, <- hl]; exact h3) (by omega) (by rw [hk]; exact ⟨_, I', q⟩)
theorem slice_bounds (lo hi : Option Int) (n : Nat) : (sliceBounds lo hi none n).1 = ((HT.sIx n 0 lo : Nat) : Int) /\ (sliceBounds lo hi none n).2.1 = ((HT.sIx n n hi : Nat) : Int) /\ (sliceBounds lo hi none n).2.2 = 1 := by
 refine ⟨?_, ?_, rfl⟩
 ·cases lo with
  | none => simp [sliceBounds, HT.sIx]
  | some i =>
   simp only [sliceBounds, HT.sIx, Option.getD_none, show (1 : Int) > 0 by decide, if_true]
   by_cases h : i < 0
   ·simp only [h, if_true] <;> omega
   ·simp only [h, if_false] <;> omega
 ·cases hi with
  | none => simp [sliceBounds, HT.sIx]
  | some i =>
   simp only [sliceBounds, HT.sIx, Option.getD_none, show (1 : Int) > 0 by decide, if_true]
   by_cases h : i < 0
   ·simp only [h, if_true] <;> omega
   ·simp only [h, if_false] <;> omega
theorem slicePick_cut (its : List Value) (lo hi : Option Int) : slicePick its.toArray lo hi none = ((its.drop (HT.sIx its.length 0 lo)).take (HT.sIx its.length its.length hi - HT.sIx its.length 0 lo)).toArray := by
 obtain ⟨h1, h2, h3⟩ := slice_bounds lo hi its.toArray.size
 unfold slicePick
 rw [h1, h2, h3]
 simp only [sliceRange_one, pick_run, List.size_toArray] <;> rfl
def rSlL (K : PySem.W.Frag) : V -> Option Int -> Option Int -> Hp -> VK -> Prop := fun x lo hi H Q => ∃ a xs, x = .ref a /\ SqL K H a xs /\ ∀ p, H p = none -> Q (.ref p) (upd H p (.lst (cutV xs lo hi)))
theorem sl_list : SlR X (rSlL X.K) := by
 intro pins s σ H x v vl vu lo hi sl Q I rx hs pl pu h
 obtain ⟨a, xs, rfl, hx, q⟩ := h
 cases rx
 obtain ⟨its, r, ht, hz⟩ := I.list hx
 have hlen := r.length
 refine ⟨"list", _, slot_list_getitem.lookup, ht.isList.typeIs, ?_⟩
 refine wpAny_getItem_list_slice ht.isList hs pl pu .none (by simp) ?_ (by rw [List.size_toArray] <;> omega)
 rw [slicePick_cut, <- hlen]
 refine ⟨.ref s.heap.objs.size, _, I.laid (t' := s.toks) (o := .lst (cutV xs lo hi)) (fun b ob q => Heap.get?_push_of_some _ q) (Nat.le_refl _) ?_, rfl, q _ (I.hok.fresh (Nat.le_refl _))⟩
 exact ⟨Nat.le_trans (cutV_length xs lo hi) hz, _, 0, (r.drop (HT.sIx xs.length 0 lo)).take (HT.sIx xs.length xs.length hi - HT.sIx xs.length 0 lo), Heap.get?_push_size _ rfl⟩
def flatV : V -> Bool
 | .non => true
 | .bl _ => true
 | .int _ => true
 | .str _ => true
 | _ => false
def eqV : V -> V -> Bool
 | .non, .non => true
 | .bl a, .bl b => a == b
 | .bl a, .int b => (if a then 1 else 0) == b
 | .int a, .bl b => a == (if b then 1 else 0)
 | .int a, .int b => a == b
 | .str a, .str b => a == b
 | _, _ => false
theorem eqAt_V {A : Around} {s : Shared} {y x : V} {u v : Value} (ry : RelV y u) (rx : RelV x v) (fy : flatV y = true) (fx : flatV x = true) : SeqAt.EqAt A s u v (eqV y x) := by
 cases y with
 | non =>
  cases ry
  cases x with
  | non => cases rx; exact SeqAt.EqAt.same _
  | bl b => cases rx; exact SeqAt.EqAt.none_bool b
  | int b => obtain ⟨t, rfl⟩ := rx; exact SeqAt.EqAt.none_int b t
  | str b => obtain ⟨t, rfl⟩ := rx; exact SeqAt.EqAt.none_str b t
  | _ => exact absurd (show false = true from fx) Bool.false_ne_true
 | bl a =>
  cases ry
  cases x with
  | non => cases rx; exact SeqAt.EqAt.bool_none a
  | bl b => cases rx; exact SeqAt.EqAt.bool_bool a b
  | int b => obtain ⟨t, rfl⟩ := rx; exact SeqAt.EqAt.bool_int a b t
  | str b => obtain ⟨t, rfl⟩ := rx; exact SeqAt.EqAt.bool_str a b t
  | _ => exact absurd (show false = true from fx) Bool.false_ne_true
 | int a =>
  obtain ⟨t', rfl⟩ := ry
  cases x with
  | non => cases rx; exact SeqAt.EqAt.int_none a t'
  | bl b => cases rx; exact SeqAt.EqAt.int_bool a t' b
  | int b => obtain ⟨t, rfl⟩ := rx; exact SeqAt.EqAt.int_int a t' b t
  | str b => obtain ⟨t, rfl⟩ := rx; exact SeqAt.EqAt.int_str a t' b t
  | _ => exact absurd (show false = true from fx) Bool.false_ne_true
 | str a =>
  obtain ⟨t', rfl⟩ := ry
  cases x with
  | non => cases rx; exact SeqAt.EqAt.str_none a t'
  | bl b => cases rx; exact SeqAt.EqAt.str_bool a t' b
  | int b => obtain ⟨t, rfl⟩ := rx; exact SeqAt.EqAt.str_int a t' b t
  | str b => obtain ⟨t, rfl⟩ := rx; exact SeqAt.EqAt.str_str a t' b t
  | _ => exact absurd (show false = true from fx) Bool.false_ne_true
 | _ => exact absurd (show false = true from fy) Bool.false_ne_true
def eqU (x : V) (u : Value) : Bool := match u with
 | .none => eqV .non x
 | .bool b => eqV (.bl b) x
 | .int i _ => eqV (.int i) x
 | .str z _ => eqV (.str z) x
 | _ => false
theorem eqU_of {x y : V} {u : Value} (r : RelV y u) (f : flatV y = true) : eqU x u = eqV y x := by
 cases y with
 | non => cases r; rfl
 | bl b => cases r; rfl
 | int i => obtain ⟨t, rfl⟩ := r; rfl
 | str z => obtain ⟨t, rfl⟩ := r; rfl
 | _ => exact absurd (show false = true from f) Bool.false_ne_true
theorem any_eqU {x : V} : ∀ {xs : List V} {us : List Value}, Vals xs us -> xs.all flatV = true -> us.any (eqU x) = xs.any fun y => eqV y x
 | _, _, .nil, _ => rfl
 | y :: xs, u :: us, .cons r t, f => by
  rw [List.all_cons, Bool.and_eq_true] at f
  rw [List.any_cons, List.any_cons, eqU_of r f.1, any_eqU t f.2]
theorem mem_eqAt {A : Around} {s : Shared} {x : V} {v : Value} (rx : RelV x v) (fx : flatV x = true) : ∀ {xs : List V} {us : List Value}, Vals xs us -> xs.all flatV = true -> ∀ u ∈ us, SeqAt.EqAt A s u v (eqU x u)
 | _, _, .nil, _ => fun u hu => by cases hu
 | y :: xs, u :: us, .cons r t, f => fun u' hu => by
  rw [List.all_cons, Bool.and_eq_true] at f
  rcases List.mem_cons.mp hu with rfl | hu
  ·rw [eqU_of r f.1]; exact eqAt_V r rx f.1 fx
  ·exact mem_eqAt rx fx t f.2 u' hu
def inV (x : V) (xs : List V) : Bool := xs.any fun y => eqV y x
def rIn (K : PySem.W.Frag) (neg : Bool) : R2 := fun x y H Q => ∃ p xs, y = .ref p /\ (SqL K H p xs \/ SqT K H p xs) /\ flatV x = true /\ xs.all flatV = true /\ Q (.bl (if neg then !inV x xs else inV x xs)) H
theorem op_in_seq : OpR X (compareOp .In) (rIn X.K false) := by
 intro pins s σ H x y v u Q I rx ry h
 obtain ⟨p, xs, rfl, hq, fx, fs, q⟩ := h
 cases ry
 rcases hq with hq | hq
 ·obtain ⟨its, r, pl, hz⟩ := I.list hq
  refine SeqAt.in_listAt (eqU x) pl.isList (fun w hw => mem_eqAt rx fx r fs w (by simpa using hw)) ⟨.bl _, H, I, rfl, ?_⟩
  rw [show its.toArray.any (eqU x) = its.any (eqU x) by simp, any_eqU r fs]
  exact q
 ·obtain ⟨its, r, pl, hz⟩ := I.tuple hq
  refine SeqAt.in_tupleAt (eqU x) pl (fun w hw => mem_eqAt rx fx r fs w (by simpa using hw)) ⟨.bl _, H, I, rfl, ?_⟩
  rw [show its.toArray.any (eqU x) = its.any (eqU x) by simp, any_eqU r fs]
  exact q
theorem op_notIn_seq : OpR X (compareOp .NotIn) (rIn X.K true) := by
 intro pins s σ H x y v u Q I rx ry h
 obtain ⟨p, xs, rfl, hq, fx, fs, q⟩ := h
 cases ry
 rcases hq with hq | hq
 ·obtain ⟨its, r, pl, hz⟩ := I.list hq
  refine SeqAt.notIn_listAt (eqU x) pl.isList (fun w hw => mem_eqAt rx fx r fs w (by simpa using hw)) ⟨.bl _, H, I, rfl, ?_⟩
  rw [show its.toArray.any (eqU x) = its.any (eqU x) by simp, any_eqU r fs]
  exact q
 ·obtain ⟨its, r, pl, hz⟩ := I.tuple hq
  refine SeqAt.notIn_tupleAt (eqU x) pl (fun w hw => mem_eqAt rx fx r fs w (by simpa using hw)) ⟨.bl _, H, I, rfl, ?_⟩
  rw [show its.toArray.any (eqU x) = its.any (eqU x) by simp, any_eqU r fs]
  exact q
theorem call_len_seq : CallR X (.builtin "len") (fun xs H Q => ∃ p ys, xs = [.ref p] /\ (SqL X.K H p ys \/ SqT X.K H p ys) /\ Q (.int ys.length) H) := by
 intro pins s σ H xs us Q I r h
 obtain ⟨p, ys, rfl, hq, q⟩ := h
 obtain ⟨u, rfl, rx⟩ := vals1 r
 cases rx
 have hn := line63
 rcases hq with hq | hq
 ·obtain ⟨its, r', pl, hz⟩ := I.list hq
  have hlen := r'.length
  exact Calls.call_len_list pl.isList (by simp only [List.size_toArray] <;> omega) ⟨.int ys.length, H, I.tok _, ⟨s.toks + 1, by rw [List.size_toArray, hlen]⟩, q⟩
 ·obtain ⟨its, r', pl, hz⟩ := I.tuple hq
  have hlen := r'.length
  exact len_tuple pl (by simp only [List.size_toArray] <;> omega) ⟨.int ys.length, H, I.tok _, ⟨s.toks + 1, by rw [List.size_toArray, hlen]⟩, q⟩
theorem call_len_str : CallR X (.builtin "len") (fun xs H Q => ∃ z, xs = [.str z] /\ z.length <= sizeLine /\ Q (.int z.length) H) := by
 intro pins s σ H xs us Q I r h
 obtain ⟨z, rfl, hz, q⟩ := h
 obtain ⟨u, rfl, t, rfl⟩ := vals1 r
 have hn := line63
 exact len_str (by omega) ⟨.int z.length, H, I.tok _, ⟨_, rfl⟩, q⟩
theorem call_list_of : CallR X (.type "list") (fun xs H Q => ∃ p ys, xs = [.ref p] /\ (SqL X.K H p ys \/ SqT X.K H p ys) /\ ∀ l, H l = none -> Q (.ref l) (upd H l (.lst ys))) := by
 intro pins s σ H xs us Q I r h
 obtain ⟨p, ys, rfl, hq, q⟩ := h
 obtain ⟨u, rfl, rx⟩ := vals1 r
 cases rx
 have fin : ∀ (its : List Value), Vals ys its -> ys.length <= sizeLine -> ∀ (h' : Heap) (c' : Nat), (∀ b o', s.heap.get? b = some o' -> h'.get? b = some o') ->
   h'.get? s.heap.objs.size = some { cls := .type "list", dict := none, data := .seq its.toArray c', slots := #[] } -> EP X pins σ Q (.ref s.heap.objs.size) { s with heap := h' } := fun its r' hz h' c' kp e =>
  ⟨.ref s.heap.objs.size, _, I.laid (t' := s.toks) kp (Nat.le_refl _) (show ObjOk X.prog X.w _ h' _ (.lst ys) from ⟨hz, its, c', r', e⟩), rfl, q _ (I.hok.fresh (Nat.le_refl _))⟩
 rcases hq with hq | hq
 ·obtain ⟨its, r', pl, hz⟩ := I.list hq
  have hlen := r'.length
  obtain ⟨o, ho, hc, n, hd⟩ := pl.isList
  exact call_list_seq p (.inl rfl) ho hc hd (fun h' c' kp e => fin its r' hz h' c' kp e) (by simp only [List.size_toArray] <;> omega)
 ·obtain ⟨its, r', pl, hz⟩ := I.tuple hq
  have hlen := r'.length
  obtain ⟨o, ho, hc, n, hd⟩ := pl
  exact call_list_seq p (.inr rfl) ho hc hd (fun h' c' kp e => fin its r' hz h' c' kp e) (by simp only [List.size_toArray] <;> omega)
theorem call_tuple_of : CallR X (.type "tuple") (fun xs H Q => ∃ p ys, xs = [.ref p] /\ ((SqL X.K H p ys /\ ∀ l, H l = none -> Q (.ref l) (upd H l (.tup ys))) \/ (SqT X.K H p ys /\ Q (.ref p) H))) := by
 intro pins s σ H xs us Q I r h
 obtain ⟨p, ys, rfl, h⟩ := h
 obtain ⟨u, rfl, rx⟩ := vals1 r
 cases rx
 rcases h with ⟨hq, q⟩ | ⟨hq, q⟩
 ·obtain ⟨its, r', pl, hz⟩ := I.list hq
  have hlen := r'.length
  refine call_tuple_list pl.isList (fun h' kp => ?_) (by simp only [List.size_toArray] <;> omega)
  have I1 : Inv X pins σ H { s with heap := h' } := I.kept (t' := s.toks) kp
  have I2 : Inv X pins σ (upd H h'.objs.size (.tup ys)) { s with heap := h'.push { cls := .type "tuple", data := .seq its.toArray } } :=
   I1.laid (t' := s.toks) (fun b o e => Heap.get?_push_of_some _ e) (Nat.le_refl _) (show ObjOk X.prog X.w _ _ _ (.tup ys) from ⟨hz, its, r', TupN.new _ _⟩)
  exact ⟨.ref h'.objs.size, _, I2, rfl, q _ (I1.hok.fresh (Nat.le_refl _))⟩
 ·obtain ⟨its, r', pl, hz⟩ := I.tuple hq
  exact call_tuple_same pl ⟨.ref p, H, I, rfl, q⟩
def tyV (K : PySem.W.Frag) (T : String) (x : V) (H : Hp) : Prop := match x with
 | .str _ => T = "str"
 | .int _ => T = "int"
 | .ref p => (T = "list" /\ ∃ xs, SqL K H p xs) \/ (T = "tuple" /\ ∃ o, K.lookup p = some o /\ o.cls = .type "tuple" /\ o.dict = none) \/
   (T = "dict" /\ ((∃ kvs, H p = some (.dK kvs)) \/ ∃ kvs, H p = some (.dT kvs))) \/ (T = "set" /\ ∃ S n, H p = some (.set S n)) \/ (T = "tuple" /\ ∃ xs, Rd H p (.tup xs))
 | _ => False
theorem tyV_is {pins : List (Addr × Obj)} {σ : St} {H : Hp} {s : Shared} {T : String} {x : V} {v : Value} (I : Inv X pins σ H s) (r : RelV x v) (ty : tyV X.K T x H) :
  s.TypeIs v T /\ ∀ a, v = .ref a -> ∃ ob, s.heap.get? a = some ob /\ ob.dict = none := by
 cases x with
 | str z =>
  obtain ⟨t, rfl⟩ := r
  cases (show T = "str" from ty)
  exact ⟨typeIs_str s z t, fun _ e => nomatch e⟩
 | int i =>
  obtain ⟨t, rfl⟩ := r
  cases (show T = "int" from ty)
  exact ⟨typeIs_int s i t, fun _ e => nomatch e⟩
 | ref p =>
  cases r
  rcases ty with ⟨rfl, xs, hq⟩ | ⟨rfl, o, hk, hc, hd⟩ | ⟨rfl, hk⟩ | ⟨rfl, S, n, hk⟩ | ⟨rfl, xs, hq⟩
  ·obtain ⟨its, _, pl, _⟩ := I.list hq
   refine ⟨pl.isList.typeIs, fun a e => ?_⟩
   cases e
   obtain ⟨o, n, e, c, hd, _⟩ := pl
   exact ⟨o, e, hd⟩
  ·refine ⟨⟨o, I.kIn p o hk, hc⟩, fun a e => ?_⟩
   cases e
   exact ⟨o, I.kIn _ o hk, hd⟩
  ·have z : ∃ o, s.heap.get? p = some o /\ o.ExactDict := by
    rcases hk with ⟨kvs, hk⟩ | ⟨kvs, hk⟩
    ·obtain ⟨_, _, _, _, o, _, _, e, ex, _⟩ := I.hok p _ hk
     exact ⟨o, e, ex⟩
    ·obtain ⟨_, _, _, _, o, _, _, e, ex, _⟩ := I.hok p _ hk
     exact ⟨o, e, ex⟩
   obtain ⟨o, e, ex⟩ := z
   refine ⟨⟨o, e, ex.1⟩, fun a e2 => ?_⟩
   cases e2
   exact ⟨o, e, ex.2.1⟩
  ·obtain ⟨o, _, _, _, e, ex, _⟩ := I.hok p _ hk
   refine ⟨⟨o, e, ex.1⟩, fun a e2 => ?_⟩
   cases e2
   exact ⟨o, e, ex.2.1⟩
  ·obtain ⟨_, _, _, o, e, c, _, _, hd⟩ := hq.ok I.hok
   refine ⟨⟨o, e, c⟩, fun a e2 => ?_⟩
   cases e2
   exact ⟨o, e, hd⟩
 | _ => exact False.elim ty
def tBM (K : PySem.W.Frag) (T : String) (r : V -> List V -> Hp -> VK -> Prop) (to : TE) (t : TA) : TE := fun σ H Q => to σ H fun x H1 => tyV K T x H1 /\ t σ H1 fun xs H2 => r x xs H2 Q
variable {o e : Expr} {es : List Expr} {to : TE} {t : TA} {name : Str} {apos cpos : Pos} {T id : String} {r : V -> List V -> Hp -> VK -> Prop}
theorem pe_bm (pa : PlainAttrs T) (slot : Slot T name id) (hty : typeOf (.builtin id) = pure (.type "method_descriptor")) (hm : MtR X id r) (ho : PE X o to) (ha : PA X (e :: es) t)
  (hbase : attributeBase o name X.env (eval o X.env) = eval o X.env := by rfl)
  (hfew : ((backTo cpos (starEach (e :: es) X.env)).all (fun x => !x.1) && (backToKw cpos (keywordEach [] X.env)).all (fun x => x.1.isSome)
   && decide ((e :: es).length + ([] : List Keyword).length + (if ([] : List Keyword).isEmpty then 0 else 1) < 30)) = true := by rfl)
  (hline : (apos.endLine == cpos.line) = true := by rfl) (hs : starEach (e :: es) X.env = (false, eval e X.env) :: starEach es X.env := by rfl) (hplain : (backTo cpos (starEach es X.env)).any (·.1) = false := by rfl) :
  PE X (.Call (.Attribute o name apos) (e :: es) [] cpos) (tBM X.K T r to t) := by
 intro pins s σ H Q I h
 refine wpAny_Call_method_late hbase hfew hline rfl (thn (ho pins s σ H _ I h) fun v s1 ⟨x, H1, I1, r1, ty, q1⟩ => ?_)
 obtain ⟨h1, h2⟩ := tyV_is I1 r1 ty
 refine ⟨T, id, pa, slot, hty, h1, h2, ?_⟩
 have hA := ha cpos pins s1 σ H1 _ I1 q1
 rw [hs] at hA ⊢
 refine Calls.callWith_builtin (by show (false || (backTo cpos (starEach es X.env)).any (·.1)) = false; rw [hplain] <;> rfl) (Calls.evalArgs_plain ?_)
 exact thn hA fun us s2 ⟨vs, H2, I2, r2, q2⟩ => hm pins s2 σ H2 x vs v us Q I2 r1 r2 q2
end
end L2
namespace L2
open PySem PySem.Spec PyProof.Rows
def MtM (X : Cx) (id : String) (r : V -> List V -> Hp -> VK -> Prop) : Prop :=
 ∀ (pins : List (Addr × Obj)) (s : Shared) (σ : St) (H : Hp) (x : V) (xs : List V) (v : Value) (us : List Value) (Q : VK), Inv X pins σ H s -> RelV x v -> Vals xs us -> r x xs H Q ->
  wpAny (model X.prog X.w) X.A (call (.builtin id) (v :: us)) (EP X pins σ Q) X.xe s
theorem Vals.one : ∀ {x : V} {us : List Value}, Vals [x] us -> ∃ u, us = [u] /\ RelV x u
 | _, _, .cons r .nil => ⟨_, rfl, r⟩
theorem Vals.two : ∀ {x y : V} {us : List Value}, Vals [x, y] us -> ∃ u v, us = [u, v] /\ RelV x u /\ RelV y v
 | _, _, _, .cons r (.cons q .nil) => ⟨_, _, rfl, r, q⟩
theorem Vals.eraseIdx : ∀ {xs : List V} {us : List Value} (i : Nat), Vals xs us -> Vals (xs.eraseIdx i) (us.eraseIdx i)
 | _, _, _, .nil => .nil
 | _, _, 0, .cons _ t => t
 | _, _, i + 1, .cons r t => .cons r (Vals.eraseIdx i t)
theorem Vals.reverse {xs : List V} {us : List Value} (h : Vals xs us) : Vals xs.reverse us.reverse := by
 induction h with
 | nil => exact .nil
 | cons r t ih => rw [List.reverse_cons, List.reverse_cons]; exact Vals.append ih (.cons r .nil)
theorem Vals.rep {xs : List V} {us : List Value} (h : Vals xs us) : ∀ k : Nat, Vals (List.replicate k xs).flatten (List.replicate k us).flatten
 | 0 => .nil
 | k + 1 => by
  rw [List.replicate_succ, List.replicate_succ, List.flatten_cons, List.flatten_cons]
  exact Vals.append h (Vals.rep h k)
theorem len_erase {α : Type} : ∀ (l : List α) (i : Nat), (l.eraseIdx i).length <= l.length
 | [], _ => Nat.le_refl _
 | _ :: _, 0 => Nat.le_succ _
 | _ :: r, i + 1 => Nat.succ_le_succ (len_erase r i)
theorem foldl_rep (its : List Value) : ∀ (k : Nat) (acc : List Value),
  List.foldl (fun x1 x2 => x1 ++ x2) acc.toArray (List.replicate k its.toArray) = (acc ++ (List.replicate k its).flatten).toArray
 | 0, acc => by simp
 | k + 1, acc => by
  have e : acc.toArray ++ its.toArray = (acc ++ its).toArray := by simp
  have e2 : (acc ++ its) ++ (List.replicate k its).flatten = acc ++ (List.replicate (k + 1) its).flatten := by
   rw [List.replicate_succ, List.flatten_cons, List.append_assoc]
  rw [<- e2, <- foldl_rep its k (acc ++ its), <- e, List.replicate_succ, List.foldl_cons]
section
variable {X : Cx} {pins : List (Addr × Obj)} {σ : St} {H : Hp} {s : Shared} {l b : Addr} {xs ys zs : List V}
theorem Inv.lset {its its' : List Value} {n : Nat} {f : Array Value -> Array Value} {t' : Nat} (I : Inv X pins σ H s) (hH : H l = some (.lst xs))
  (e : s.heap.get? l = some { cls := .type "list", data := .seq its.toArray n }) (hf : f its.toArray = its'.toArray) (hv : Vals ys its') (hz : ys.length <= sizeLine) :
  Inv X pins σ (upd H l (.lst ys)) { s with heap := s.heap.update l (Obj.mapSeq f), toks := t' } := by
 have q := PySem.IsL.update e f
 rw [hf] at q
 refine I.write (x := l) (e := l) (by rw [hH]; exact trivial) (.inl rfl) (fun b' u hb hu => (Heap.get?_update_other s.heap (Obj.mapSeq f) (Ne.symm hb)).trans hu) ⟨_, q⟩ ?_
 exact ⟨hz, its', _, hv, q⟩
theorem Inv.lnew {its : List Value} {t' : Nat} (I : Inv X pins σ H s) (hv : Vals ys its) (hz : ys.length <= sizeLine) :
  Inv X pins σ (upd H s.heap.objs.size (.lst ys)) { s with heap := s.heap.push { cls := .type "list", data := .seq its.toArray }, toks := t' } :=
 I.laid (fun _ _ q => Heap.get?_push_of_some _ q) (Nat.le_refl _) ⟨hz, its, 0, hv, Heap.get?_push_size _ rfl⟩
theorem Inv.fresh (I : Inv X pins σ H s) : H s.heap.objs.size = none := I.hok.fresh (Nat.le_refl _)
theorem Inv.lstM (I : Inv X pins σ H s) (hH : H l = some (.lst xs)) : xs.length <= sizeLine /\ ∃ (its : List Value) (n : Nat), Vals xs its /\ xs.length = its.length /\ s.heap.get? l = some { cls := .type "list", data := .seq its.toArray n } := by
 obtain ⟨z, its, n, r, e⟩ := I.hok l _ hH
 exact ⟨z, its, n, r, r.length, e⟩
theorem notLongL {n : Nat} (h : n <= sizeLine) : Builtin.List.listTooLong n = false := by
 unfold Builtin.List.listTooLong
 exact decide_eq_false (by omega)
end
section
variable {X : Cx}
def rAppend : V -> List V -> Hp -> VK -> Prop := fun x vs H Q => ∃ l xs y, x = .ref l /\ vs = [y] /\ H l = some (.lst xs) /\ xs.length < sizeLine /\ Q .non (upd H l (.lst (xs ++ [y])))
theorem mt_append : MtM X "list.append" rAppend := by
 intro pins s σ H x vs v us Q I rx rv h
 obtain ⟨l, xs, y, rfl, rfl, hH, hz, q⟩ := h
 cases rx
 obtain ⟨u, rfl, ru⟩ := rv.one
 obtain ⟨z, its, n, r, hl, e⟩ := I.lstM hH
 refine call_meets F.slot_list_append ⟨_, e, rfl⟩ F.entry_list_append (F.args_list_append_2 _ _) (PySem.list_append l its.toArray n u (by rw [List.size_toArray]; omega)) ⟨e, ?_⟩
 refine ⟨.non, _, I.lset (its' := its ++ [u]) hH e (by simp) (r.append (.cons ru .nil)) ?_, rfl, q⟩
 rw [List.length_append, List.length_singleton]
 omega
def rPopAt : V -> List V -> Hp -> VK -> Prop := fun x vs H Q => ∃ l xs i k y, x = .ref l /\ vs = [.int i] /\ H l = some (.lst xs) /\ -(2 ^ 63) <= i /\ i < 2 ^ 63 /\ seqIndex? i xs.length = some k /\ xs[k]? = some y /\ Q y (upd H l (.lst (xs.eraseIdx k)))
theorem mt_popAt : MtM X "list.pop" rPopAt := by
 intro pins s σ H x vs v us Q I rx rv h
 obtain ⟨l, xs, i, k, y, rfl, rfl, hH, h1, h2, hk, hy, q⟩ := h
 cases rx
 obtain ⟨u, rfl, ru⟩ := rv.one
 obtain ⟨t, rfl⟩ := ru
 obtain ⟨z, its, n, r, hl, e⟩ := I.lstM hH
 obtain ⟨w, hw, rw'⟩ := r.get hy
 refine call_meets F.slot_list_pop ⟨_, e, rfl⟩ F.entry_list_pop (F.args_list_pop_2 _ _)
  (MeetsSeq.list_pop_at l its.toArray n i t k w (fitsIndex_both h1 h2) (by rw [List.size_toArray, <- hl]; exact hk) (by rw [<- Array.getElem?_toList]; exact hw) (by rw [List.size_toArray]; omega)) ⟨e, ?_⟩
 refine ⟨y, _, I.lset (its' := its.eraseIdx k) hH e ?_ (r.eraseIdx k) ?_, rw', q⟩
 ·show its.toArray.eraseIdxIfInBounds k = (its.eraseIdx k).toArray
  rw [List.eraseIdxIfInBounds_toArray]
 ·have := len_erase xs k
  omega
def rCat : R2 := fun x y H Q => ∃ l b xs zs, x = .ref l /\ y = .ref b /\ H l = some (.lst xs) /\ H b = some (.lst zs) /\ xs.length + zs.length <= sizeLine /\ ∀ p, H p = none -> Q (.ref p) (upd H p (.lst (xs ++ zs)))
theorem op_cat : OpR X (binaryOp .Add) rCat := by
 intro pins s σ H x y v u Q I rx ry h
 obtain ⟨l, b, xs, zs, rfl, rfl, hH, hB, hz, q⟩ := h
 cases rx
 cases ry
 obtain ⟨z, its, n, r, hl, e⟩ := I.lstM hH
 obtain ⟨z2, its2, n2, r2, hl2, e2⟩ := I.lstM hB
 refine PySem.P.add_list e e2 ?_ (by rw [List.size_toArray, List.size_toArray]; omega)
 have ea : its.toArray ++ its2.toArray = (its ++ its2).toArray := by simp
 rw [ea]
 exact ⟨.ref _, _, I.lnew (t' := s.toks) (r.append r2) (by rw [List.length_append]; omega), rfl, q _ I.fresh⟩
def rRep : R2 := fun x y H Q => ∃ l k xs, x = .ref l /\ y = .int k /\ H l = some (.lst xs) /\ -(2 ^ 63) <= k /\ k < 2 ^ 63 /\ xs.length * k.toNat <= sizeLine /\
 ∀ p, H p = none -> Q (.ref p) (upd H p (.lst (List.replicate k.toNat xs).flatten))
theorem len_rep {α : Type} (xs : List α) (k : Nat) : (List.replicate k xs).flatten.length = k * xs.length := by
 induction k with
 | zero => simp
 | succ k ih => rw [List.replicate_succ, List.flatten_cons, List.length_append, ih, Nat.succ_mul, Nat.add_comm]
theorem op_rep : OpR X (binaryOp .Mult) rRep := by
 intro pins s σ H x y v u Q I rx ry h
 obtain ⟨l, k, xs, rfl, rfl, hH, h1, h2, hz, q⟩ := h
 cases rx
 obtain ⟨t, rfl⟩ := ry
 obtain ⟨z, its, n, r, hl, e⟩ := I.lstM hH
 have hlen : its.toArray.size * k.toNat <= sizeLine := by rw [List.size_toArray, <- hl]; exact hz
 have hcap : ¬ its.toArray.size * k.toNat > (2 ^ 63 - 1) / 8 := by
  have : (sizeLine : Nat) <= (2 ^ 63 - 1) / 8 := by decide
  omega
 have hfit : ¬ (!Builtin.List.listFitsIndex k) = true := by
  rw [fitsIndex_both h1 h2]
  exact Bool.false_ne_true
 have hlong : ¬ Builtin.List.listTooLong (its.toArray.size * k.toNat) = true := by
  rw [notLongL hlen]
  exact Bool.false_ne_true
 have hnew : List.foldl (fun x1 x2 => x1 ++ x2) #[] (List.replicate (if its.toArray.isEmpty = true then 0 else k.toNat) its.toArray) = (List.replicate k.toNat its).flatten.toArray := by
  have f0 : ∀ m : Nat, List.foldl (fun x1 x2 => x1 ++ x2) #[] (List.replicate m its.toArray) = (List.replicate m its).flatten.toArray := fun m => by
   have := foldl_rep its m []
   rw [List.nil_append] at this
   exact this
  rw [f0]
  cases its with
  | nil => simp
  | cons a r' => rw [if_neg (by simp)]
 refine wpAny_binaryOp_repeat_ref (T := "list") (U := "int") (by decide) ⟨_, e, rfl⟩ (fun s' => typeIs_int s' k t) noFill_list_mul F.fills_int_mul F.slot_int_rmul repeat_list F.slot_int_index.lookup
  (call_meets F.slot_int_rmul (typeIs_int s k t) F.entry_int_rmul (F.args_int_rmul_2 _ _) (int___rmul___int_list k t l its.toArray n)
   ⟨e, rfl, ⟨_, e, rfl⟩, call_meets F.slot_list_mul ⟨_, e, rfl⟩ F.entry_list_mul (F.args_list_mul_2 _ _) (AutoListH.list___mul___list_int_3 l its.toArray n k t hfit hcap hlong) ⟨e, ?_⟩⟩)
 rw [hnew]
 exact ⟨.ref _, _, I.lnew (t' := s.toks) (r.rep k.toNat) (by rw [len_rep, Nat.mul_comm]; exact hz), rfl, q _ I.fresh⟩
end
section
variable {prog : Program} {w : World} {A : Around} {E : Value -> Shared -> Prop} {s : Shared}
set_option maxRecDepth 100000 in
end
end L2
namespace Att
open PySem PySem.W PySem.Calls PyProof.Rows
theorem ints_of_wellAll {P : Params} {h : Heap} : ∀ (ns : List Int) (vs : List Value), WellAll P h vs (ns.map WData.int) -> IntsAre vs ns := by
 intro ns
 induction ns with
 | nil =>
  intro vs w
  rw [List.map_nil] at w
  cases w
  exact .nil
 | cons n ns ih =>
  intro vs w
  rw [List.map_cons] at w
  cases w with
  | cons a b =>
   cases a
   exact .cons _ _ (ih _ b)
theorem script_of {l : OpenLaw} {n : Nat} (hn : l.most = some n) {P : Params} {h : Heap} {args : List WData} {vals : List Value}
  (hpre : l.row.toRowW.claim.pre args = true) (hwl : WellAll P h vals args) :
  ∃ a vs ns, vals = [Value.ref a] /\ args = [WData.list (ns.map WData.int)] /\ h.get? a = some { cls := .type "list", data := .seq vs.toArray } /\ IntsAre vs ns /\ ns.length <= n := by
 have hsh : WShape.hasAll [] args [.list .int] = true := (pre_splitW hpre).1
 have hc : l.pre.holds [] { args := args } = true := (pre_splitW hpre).2
 obtain ⟨d, r, rfl, h1, h2⟩ := hasAllW_cons hsh
 obtain rfl := hasAllW_nil h2
 obtain ⟨xs, rfl, h3⟩ := hasW_list h1
 obtain ⟨ns, rfl⟩ := items_int h3
 have hlen : ns.length <= n := by
  unfold OpenLaw.pre at hc
  have h4 : (WTm.not (.lt (.lit (.int (n : Int))) (.len (.arg 0)))).holds [] { args := [.list (ns.map .int)] } = true := by
   have h4 := (holds_andW hc).1
   rw [hn] at h4
   exact h4
  have h5 := condW_of h4 (w_not (w_lt w_lit (w_len_list (w_arg rfl))))
  rw [List.length_map] at h5
  refine Nat.le_of_not_lt fun q => ?_
  have q' : (n : Int) < ((ns.length : Nat) : Int) := by omega
  first
   | (rw [decide_eq_true q'] at h5; exact absurd h5 (by decide))
   | (simp at h5; omega)
 cases hwl with
 | cons w1 w2 =>
  cases w2
  cases w1 with
  | list ho hall => exact ⟨_, _, ns, rfl, rfl, ho, ints_of_wellAll ns _ hall, hlen⟩
theorem post_true (l : OpenLaw) (args : List WData) : l.row.toRowW.claim.post args (.bool true) args = true :=
 postW_of (r := l.row.toRowW) (X := (true == true))
  (show WShape.has [] (.bool true) .bool = true by first | rfl | decide | simp [WShape.has, WShape.arms, WShape.armsAll])
  (show (WTm.eq .res (.lit (.bool true))).value [] { args := args, res := some (.bool true), after := args } = some (.bool (true == true)) from w_eq_bool (w_res rfl) w_lit) rfl
theorem attach_call {l : OpenLaw} {n : Nat} {q : Program} {loose : List Str} {XP : (Str -> Option Value) -> Heap -> Prop} {YP : World -> Heap -> Prop} {d : DefRec}
  (hn : l.most = some n) (hdf : d.params.defaults = [])
  (call : ∀ (w : World) (s₀ s₁ : Shared) (mg mb : Str -> Option Value) (fa : Addr) (o : Obj) (pm cd doc : Value) (a : Addr) (vs : List Value) (ns : List Int),
   Ground q loose [] XP w s₀ mg mb s₁.heap -> YP w s₁.heap ->
   s₁.heap.get? fa = some o -> o.data = .func (docDef d.name d.params d.body d.scope pm cd doc) -> s₁.heap.CodeRec cd d.name -> mg d.name = some (.ref fa) ->
   s₁.heap.get? a = some { cls := .type "list", data := .seq vs.toArray } -> IntsAre vs ns -> ns.length <= n -> s₁.gens = #[] ->
   codeAny (model l.prog w) callerA (.call (.ref fa) ⟨[.ref a], []⟩) (fun r s' => r = .ok (.ret (.bool true)) /\ OldK s₁.heap s'.heap /\ s'.os = s₁.os /\ AllBare s'.gens) s₁) :
  WalkO q loose XP YP l.row.toRowW d [] (fun f vs => PySem.call f vs) := by
 intro w s₀ s₁ mg mb G Y fa o pm cd doc dV kV ho hd hcd hD hmg hg args vals as hpre hlay hrd hwl hlo
 obtain rfl : dV = .none := Dflts.none hD hdf
 obtain rfl : kV = .none := Dflts.noKw hD
 obtain ⟨a, vs, ns, rfl, rfl, hobj, hints, hlen⟩ := script_of hn hpre hwl
 refine enter_call (codeAny_mono (call w s₀ s₁ mg mb fa o pm cd doc a vs ns G Y ho (fd_plain hd) hcd hmg hobj hints hlen hg) fun r s' hq => ?_)
 obtain ⟨rfl, h2, h3, h4⟩ := hq
 exact ⟨.inl ⟨.bool true, .bool true, [], rfl, fun _ => rfl, .bool true, post_true l _, fun _ => ⟨List.Pairwise.nil, fun _ hm => (nomatch hm)⟩⟩, h2, h3, h4⟩
end Att
namespace L2
open PySem PySem.Spec PyProof.Rows
theorem vals_ints : ∀ {vs : List Value} {ns : List Int}, IntsAre vs ns -> Vals (ns.map V.int) vs
 | _, _, .nil => .nil
 | _, _, .cons n t h => .cons ⟨t, rfl⟩ (vals_ints h)
def Only (H : Hp) : Prop := ∀ b, H b = none \/ ∃ o xs, H b = some (.frz o (.lst xs))
theorem law_call {P : Program} {w : World} {K : PySem.W.Frag} {mg mb : Str -> Option Value} {CX : CXT} {k : Nat} {fa a : Addr} {fd : FuncData} {x : Str} {sp : Sp} {s₁ : Shared} {vs : List Value} {ns : List Int}
  (KX : K.In s₁.heap) (hns : s₁.heap.Ns mainGlobals mg) (hb : s₁.heap.Ns builtinsNs mb) (hbb : ∀ x : Str, x ≠ "__name__" -> mb x = bootBuiltins x) (hlim : s₁.heap.NoLimit) (hg : s₁.gens = #[])
  (ha : s₁.heap.get? a = some { cls := .type "list", data := .seq vs.toArray }) (hi : IntsAre vs ns) (hl : ns.length <= sizeLine) (hr : Room k callerA)
  (F : ∀ base : Heap, K.In base -> base.Ns mainGlobals mg -> FnOk P w K mg base CX k fa fd [x] sp) (hbind : ∀ (s : Shared) (u : Value), BindsTo s fd ⟨[u], []⟩ [(x, u)])
  (hsp : ∀ H : Hp, Only H -> SqL K H a (ns.map V.int) -> sp [.ref a] H (fun v _ => v = .bl true) fun _ _ _ => False)
  (hCX : ∀ H e s', CX [] H s₁ (fun _ _ _ => False) e s' -> False) :
  codeAny (model P w) callerA (.call (.ref fa) ⟨[.ref a], []⟩) (fun r s' => r = .ok (.ret (.bool true)) /\ OldK s₁.heap s'.heap /\ s'.os = s₁.os /\ AllBare s'.gens) s₁ := by
 have rv := vals_ints hi
 have lenV := hi.length
 have core : ∀ H : Hp, Only H -> SqL K H a (ns.map V.int) -> HOk P w H s₁.heap -> (∀ b, H b ≠ none -> b = a) -> (H a ≠ none -> K.lookup a = none) ->
   codeAny (model P w) callerA (.call (.ref fa) ⟨[.ref a], []⟩) (fun r s' => r = .ok (.ret (.bool true)) /\ OldK s₁.heap s'.heap /\ s'.os = s₁.os /\ AllBare s'.gens) s₁ := by
  intro H hO hS hok hA hK
  have base_of : ∀ {b : Addr} {o : Obj}, s₁.heap.get? b = some o -> H b = none -> (hidT s₁.heap H).get? b = some o := fun e n => hidT_get e n
  have noA : ∀ {b : Addr} {o : Obj} {es : Array DictEntry} {ep : Nat}, s₁.heap.get? b = some o -> o.data = .dict es ep -> H b = none := fun {b o es ep} e d => by
   cases q : H b with
   | none => rfl
   | some u =>
    have e' : b = a := hA b (by rw [q]; simp)
    subst e'
    rw [ha] at e; cases e
    have d' : Data.seq vs.toArray _ = Data.dict es ep := d
    cases d'
  have nsK : ∀ {b : Addr} {m : Str -> Option Value}, s₁.heap.Ns b m -> (hidT s₁.heap H).Ns b m := fun {b m} ⟨o, es, ep, e, d, r⟩ => ⟨o, es, ep, base_of e (noA e d), d, r⟩
  have hKb : K.In (hidT s₁.heap H) := fun b o e => base_of (KX b o e) (by
   cases q : H b with
   | none => rfl
   | some u =>
    have e' : b = a := hA b (by rw [q]; simp)
    subst e'
    rw [hK (by rw [q]; simp)] at e; cases e)
  have hM : Mod K mg (hidT s₁.heap H) := ⟨hKb, nsK hns, ⟨mb, nsK hb, hbb⟩, let ⟨mc, h1, h2⟩ := hlim; ⟨mc, nsK h1, h2⟩⟩
  have e0 : Env0 P w K mg (hidT s₁.heap H) callerA [] s₁ H := ⟨rfl, hM, fun b o e => of_hidT e, Nat.le_of_eq (hidT_size _ _), trivial, fun b hb => absurd (show b ∈ ([] : List Addr) from hb) (by simp), hok, .of_eq hg⟩
  refine codeAny_mono ((F _ hKb (nsK hns)).run callerA [] s₁ H ⟨[.ref a], []⟩ [.ref a] [.ref a] _ _ hr e0 (hbind s₁ (.ref a)) (.cons rfl .nil) (hsp H hO hS)) fun r s' h => ?_
  cases r with
  | error e => exact (hCX H e s' h).elim
  | ok fl =>
   cases fl with
   | next => exact False.elim h
   | brk => exact False.elim h
   | cont => exact False.elim h
   | ret u =>
    obtain ⟨v, H', os, bare, un, hok', r', q⟩ := h
    have q' : v = .bl true := q
    subst q'
    obtain rfl : u = Value.bool true := r'
    refine ⟨rfl, OldK.of_keep fun b o e => ?_, os, bare⟩
    cases q : H b with
    | none => exact un.keep b o e q (by intro z; exact absurd (show b ∈ ([] : List Addr) from z) (by simp)) (by simp)
    | some u =>
     rcases hO b with z | ⟨ob, xs, z⟩
     ·rw [q] at z; cases z
     ·have z2 := un.frzs b ob _ z
      obtain ⟨e1, _⟩ := hok b _ z
      obtain ⟨e2, _⟩ := hok' b _ z2
      rw [e] at e1; cases e1
      exact e2
 cases hk : K.lookup a with
 | some o =>
  have e := KX a o hk
  rw [ha] at e
  cases e
  refine core (fun _ => none) (fun _ => .inl rfl) (.inr ⟨_, vs.toArray, _, hk, rfl, rfl, rfl, by rw [List.size_toArray, lenV]; exact hl, by simpa using rv⟩) (fun b u z => by have z' : (none : Option HO) = some u := z; cases z') (fun b z => absurd rfl z) fun z => absurd rfl z
 | none =>
  refine core (fun b => if b = a then some (.frz { cls := .type "list", data := .seq vs.toArray } (.lst (ns.map V.int))) else none) (fun b => ?_) (.inl (.inr ⟨{ cls := .type "list", data := .seq vs.toArray }, if_pos rfl⟩)) (fun b u z => ?_) (fun b z => ?_) fun _ => hk
  ·by_cases hb : b = a
   ·exact .inr ⟨_, _, if_pos hb⟩
   ·exact .inl (if_neg hb)
  ·by_cases hb : b = a
   ·have z' := (if_pos hb).symm.trans z
    cases z'
    subst hb
    exact ⟨ha, by rw [List.length_map]; exact hl, vs, _, rv, ha⟩
   ·have z' := (if_neg hb).symm.trans z
    cases z'
  ·by_cases hb : b = a
   ·exact hb
   ·exact absurd (if_neg hb) z
end L2
namespace L2
open PySem PySem.Spec PyProof.Rows
theorem walk_of {l : PySem.W.OpenLaw} {n k : Nat} {q : Program} {loose : List Str} {XP : (Str -> Option Value) -> Heap -> Prop} {YP : World -> Heap -> Prop} {d : DefRec} {K : Params -> PySem.W.Frag} {CX : World -> CXT} {sp : World -> Sp} {x : Str}
  (hn : l.most = some n) (hn2 : n <= sizeLine) (hdf : d.params.defaults = []) (hr : Room k callerA)
  (hY : ∀ (w : World) (h : Heap), YP w h -> (K w.params).In h)
  (F : ∀ (w : World) (mg : Str -> Option Value) (fa : Addr) (h : Heap), (K w.params).In h -> h.Ns mainGlobals mg -> mg d.name = some (.ref fa) ->
   ∃ fd : FuncData, (∀ (s : Shared) (u : Value), BindsTo s fd ⟨[u], []⟩ [(x, u)]) /\
    ∀ base : Heap, (K w.params).In base -> base.Ns mainGlobals mg -> FnOk l.prog w (K w.params) mg base (CX w) k fa fd [x] (sp w))
  (hsp : ∀ (w : World) (H : Hp) (a : Addr) (ns : List Int), ns.length <= n -> Only H -> SqL (K w.params) H a (ns.map V.int) -> sp w [.ref a] H (fun v _ => v = .bl true) fun _ _ _ => False)
  (hCX : ∀ (w : World) (H : Hp) (s : Shared) (e : Value) (s' : Shared), CX w [] H s (fun _ _ _ => False) e s' -> False) :
  PySem.W.WalkO q loose XP YP l.row.toRowW d [] (fun f vs => PySem.call f vs) := by
 refine Att.attach_call hn hdf fun w s₀ s₁ mg mb fa o pm cd doc a vs ns G Y ho hd hcd hmg hobj hints hlen hg => ?_
 have KX := hY w _ Y
 obtain ⟨fd, hb, hF⟩ := F w mg fa _ KX G.T.g hmg
 exact law_call KX G.T.g G.T.b G.T.builtins G.T.nolimit hg hobj hints (Nat.le_trans hlen hn2) hr hF hb (fun H hO hS => hsp w H a ns hlen hO hS) fun H e s' => hCX w H s₁ e s'
end L2
namespace L2
open PySem PySem.Spec PyProof.Rows
def inClass (s : Stmt) (j : Nat) : Stmt := match s with
 | .ClassDef _ _ _ body _ _ _ _ _ _ _ => body.getD j (.Pass ⟨0, 0, 0, 0⟩)
 | _ => .Pass ⟨0, 0, 0, 0⟩
def defArgs (s : Stmt) : Arguments := match s with
 | .FunctionDef _ a _ _ _ _ _ _ _ _ => a
 | _ => { posonlyargs := [], args := [], vararg := none, kwonlyargs := [], kw_defaults := [], kwarg := none, defaults := [] }
def defBody (s : Stmt) : List Stmt := match s with
 | .FunctionDef _ _ b _ _ _ _ _ _ _ => b
 | _ => []
def defScope (s : Stmt) : Scope := match s with
 | .FunctionDef _ _ _ _ _ _ sc _ _ _ => sc
 | _ => { kind := .function, names := [], isGenerator := false, isCoroutine := false }
abbrev CX0 : CXT := fun _ _ _ _ _ _ => False
abbrev E0 : XK := fun _ _ _ => False
theorem pass0 {X : Cx} : Passes CX0 X E0 := fun _ _ _ _ _ _ _ h => h.elim
structure Fun (K : PySem.W.Frag) (x qual : Str) (st : Stmt) (f : Addr) (fd : FuncData) : Prop where
 ex : ∃ (oc : Value) (od : Option Addr) (kV doc pm : Value) (an : Option Addr) (cdv ct : Value) (osl : Array (Option Value)),
  fd = PySem.W.fnOf x qual (defArgs st) (defBody st) (defScope st) .none kV doc pm an cdv ct /\ K.lookup f = some ⟨oc, od, .func fd, osl⟩ /\ PySem.W.codeIn K cdv qual = true
 kp : PySem.W.keepIn K (.ref f) = true
section
variable {P : Program} {w : World} {K : PySem.W.Frag} {mg : Str -> Option Value} {base : Heap}
theorem Fun.ok {x qual : Str} {st : Stmt} {f : Addr} {fd : FuncData} {N ps : List Str} {k : Nat} {sp : Sp} (F : Fun K x qual st f fd) (S : FnScope N ps (defScope st)) (len : ∀ vs H Q E, sp vs H Q E -> vs.length = ps.length)
  (hbody : ∀ (cdv : Value) (A : Around) (outer : List Env) (s : Shared) (H : Hp) (vs : List V) (Q : VK) (E : XK), Room k (A.deeper (envOfC qual (defScope st) s.heap.objs.size f cdv)) -> sp vs H Q E ->
   ∃ t, PSs (cxOf CX0 P w K mg base N qual (defScope st) f cdv A outer s H E).nox (defBody st) t /\ t { nx := fun _ H' => Q .non H', rt := Q } (start N vs) H) : FnOk P w K mg base CX0 (k + 1) f fd ps sp := by
 obtain ⟨oc, od, kV, doc, pm, an, cdv, ct, osl, rfl, lk, hcd⟩ := F.ex
 refine fn_of lk hcd S len fun A outer s H vs Q E hr hsp => ?_
 obtain ⟨t, h, q⟩ := hbody cdv A outer s H vs Q E hr hsp
 exact ⟨t, h.nox, q⟩
theorem Fun.binds {x qual : Str} {st : Stmt} {f : Addr} {fd : FuncData} {ps : List Str} (F : Fun K x qual st f fd)
  (h : ∀ (kV doc pm : Value) (an : Option Addr) (cdv ct : Value) (us : List Value), us.length = ps.length -> bindArgs (PySem.W.fnOf x qual (defArgs st) (defBody st) (defScope st) .none kV doc pm an cdv ct) ⟨us, []⟩ = pure (ps.zip us)) : Binds K fd ps [] := by
 obtain ⟨oc, od, kV, doc, pm, an, cdv, ct, osl, rfl, lk, hcd⟩ := F.ex
 exact .all (h kV doc pm an cdv ct)
theorem fun_mk {x qual : Str} {st : Stmt} {f : Addr} {oc : Value} {od an : Option Addr} {osl : Array (Option Value)} {kV doc pm cdv ct : Value} (l : K.lookup f = some ⟨oc, od, .func (PySem.W.fnOf x qual (defArgs st) (defBody st) (defScope st) .none kV doc pm an cdv ct), osl⟩)
  (c : PySem.W.codeIn K cdv qual = true) (k : PySem.W.keepIn K (.ref f) = true) : Fun K x qual st f (PySem.W.fnOf x qual (defArgs st) (defBody st) (defScope st) .none kV doc pm an cdv ct) := ⟨⟨oc, od, kV, doc, pm, an, cdv, ct, osl, rfl, l, c⟩, k⟩
end
section
variable {X : Cx}
theorem pv (i : Nat) {x : Str} {pos : Pos} (hN : X.N[i]? = some x := by rfl) (hv : Vis X.env.scope x := by first | exact Or.inl rfl | exact Or.inr (Or.inl rfl) | exact Or.inr (Or.inr rfl)) (hd : (x == ("__debug__" : Str)) = false := by decide)
  (hcd : (x == ("__classdict__" : Str)) = false := by decide) : PE X (.Name x pos) (tVar i) := pe_var hN hv hd hcd
end
theorem ite2 {c A B : Prop} [Decidable c] (h1 : c -> A) (h2 : ¬ c -> B) : if c then A else B := by
 by_cases h : c
 ·rw [if_pos h]
  exact h1 h
 ·rw [if_neg h]
  exact h2 h
def Same (H H' : Hp) : Prop := ∀ b o, H b = some o -> H' b = some o
theorem Same.refl (H : Hp) : Same H H := fun _ _ h => h
theorem Same.trans {H H1 H2 : Hp} (a : Same H H1) (b : Same H1 H2) : Same H H2 := fun c o h => b c o (a c o h)
theorem Same.free {H H' : Hp} (e : Same H H') {l : Addr} (h : H' l = Option.none) : H l = Option.none := by
 cases q : H l with
 | none => rfl
 | some o =>
  rw [e l o q] at h
  cases h
end L2
namespace L2
open PySem PySem.Spec PyProof.Rows
def closL (cells : List (Str × Addr)) : List (Str × NameKind) -> List (Str × Addr) -> List (Str × Addr)
 | [], acc => acc
 | (n, k) :: r, acc => if k == .free then closL cells r ((n, (cells.lookup n).getD 0) :: acc) else closL cells r acc
theorem closureFor_eq {env : Env} {scope : Scope} (h : ∀ n, (n, NameKind.free) ∈ scope.names -> ∃ c, env.cells.lookup n = some c) :
  closureFor scope env = pure (closL env.cells scope.names []) := by
 have key : ∀ (names : List (Str × NameKind)) (acc : List (Str × Addr)), (∀ n, (n, NameKind.free) ∈ names -> ∃ c, env.cells.lookup n = some c) ->
   (forIn (m := Sem) names acc fun x r => match x with | (name, kind) => if (kind == NameKind.free) = true then (do let a <- cellOf env name; pure (ForInStep.yield ((name, a) :: r))) else pure (ForInStep.yield r)) = pure (closL env.cells names acc) := by
  intro names
  induction names with
  | nil => intro acc _; rfl
  | cons x r ih =>
   intro acc hx
   obtain ⟨n, k⟩ := x
   rw [List.forIn_cons]
   unfold closL
   by_cases hk : k = .free
   ·subst hk
    obtain ⟨c, hc⟩ := hx n List.mem_cons_self
    simp only [beq_self_eq_true, if_true]
    have e : cellOf env n = pure c := by unfold cellOf; rw [hc]
    rw [e, hc]
    exact ih _ fun m hm => hx m (List.mem_cons_of_mem _ hm)
   ·have hb : (k == NameKind.free) = false := by simpa using hk
    simp only [hb, Bool.false_eq_true, if_false]
    exact ih _ fun m hm => hx m (List.mem_cons_of_mem _ hm)
 unfold closureFor
 have := key scope.names [] h
 show ((forIn (m := Sem) scope.names [] fun x r => match x with | (name, kind) => if (kind == NameKind.free) = true then (do let a <- cellOf env name; pure (ForInStep.yield ((name, a) :: r))) else pure (ForInStep.yield r)) >>= fun cs => pure cs) = _
 rw [this]
 rfl
theorem cellsFrom_app : ∀ (names : List (Str × NameKind)) (n : Nat) (acc : List (Str × Addr)), cellsFrom n names acc = cellsFrom n names [] ++ acc
 | [], _, _ => rfl
 | (name, kind) :: r, n, acc => by
  unfold cellsFrom
  split
  ·rw [cellsFrom_app r (n + 1) ((name, n) :: acc), cellsFrom_app r (n + 1) [(name, n)], List.append_assoc]; rfl
  ·exact cellsFrom_app r n acc
theorem closL_lookup {cells : List (Str × Addr)} : ∀ (names : List (Str × NameKind)) (acc : List (Str × Addr)) (x : Str) (c : Addr), (closL cells names acc).lookup x = some c ->
  (acc.lookup x = some c) \/ ((x, NameKind.free) ∈ names /\ c = (cells.lookup x).getD 0)
 | [], acc, x, c, h => .inl h
 | (n, k) :: r, acc, x, c, h => by
  unfold closL at h
  split at h
  ·rename_i hk
   have hk' : k = .free := by simpa using hk
   subst hk'
   rcases closL_lookup r _ x c h with z | ⟨z, e⟩
   ·rw [List.lookup_cons] at z
    cases hb : x == n with
    | true => rw [hb] at z; cases z; rw [beq_iff_eq.mp hb]; exact .inr ⟨List.mem_cons_self, rfl⟩
    | false => rw [hb] at z; exact .inl z
   ·exact .inr ⟨List.mem_cons_of_mem _ z, e⟩
  ·rcases closL_lookup r _ x c h with z | ⟨z, e⟩
   ·exact .inl z
   ·exact .inr ⟨List.mem_cons_of_mem _ z, e⟩
theorem closL_acc {cells : List (Str × Addr)} : ∀ (names : List (Str × NameKind)) (acc : List (Str × Addr)) (x : Str), (∃ c, acc.lookup x = some c) -> ∃ c, (closL cells names acc).lookup x = some c
 | [], acc, x, h => h
 | (n, k) :: r, acc, x, h => by
  unfold closL
  split
  ·refine closL_acc r _ x ?_
   obtain ⟨c, h⟩ := h
   rw [List.lookup_cons]
   cases hb : x == n with
   | true => exact ⟨_, rfl⟩
   | false => exact ⟨c, h⟩
  ·exact closL_acc r _ x h
theorem closL_has {cells : List (Str × Addr)} : ∀ (names : List (Str × NameKind)) (acc : List (Str × Addr)) (x : Str), (x, NameKind.free) ∈ names -> ∃ c, (closL cells names acc).lookup x = some c
 | [], acc, x, h => by simp at h
 | (n, k) :: r, acc, x, h => by
  unfold closL
  rcases List.mem_cons.mp h with e | h
  ·cases e
   simp only [beq_self_eq_true, if_true]
   exact closL_acc r _ _ ⟨(cells.lookup n).getD 0, by rw [List.lookup_cons]; simp⟩
  ·split
   ·exact closL_has r _ x h
   ·exact closL_has r _ x h
theorem cellsFrom_mem : ∀ (names : List (Str × NameKind)) (n : Nat) (acc : List (Str × Addr)) (x : Str) (c : Addr), (x, c) ∈ cellsFrom n names acc -> (x, c) ∈ acc \/ (x, NameKind.cell) ∈ names
 | [], _, _, _, _, h => .inl h
 | (name, kind) :: r, n, acc, x, c, h => by
  unfold cellsFrom at h
  split at h
  ·rename_i hk
   have hk' : kind = .cell := by simpa using hk
   subst hk'
   rcases cellsFrom_mem r _ _ x c h with z | z
   ·rcases List.mem_cons.mp z with e | z
    ·cases e; exact .inr List.mem_cons_self
    ·exact .inl z
   ·exact .inr (List.mem_cons_of_mem _ z)
  ·rcases cellsFrom_mem r _ _ x c h with z | z
   ·exact .inl z
   ·exact .inr (List.mem_cons_of_mem _ z)
structure CompScope (N : List Str) (sc0 : Scope) (N' : List Str) (ixs : List (Option Nat)) (sc : Scope) : Prop where
 kind : sc.kind = .function
 keys : (sc.names.map (·.1)).Nodup
 nd : N'.Nodup
 len : ixs.length = N'.length
 fv : ∀ (j i : Nat), ixs[j]? = some (some i) -> ∃ x, N[i]? = some x /\ N'[j]? = some x /\ sc.names.lookup x = some .free
 free : ∀ p ∈ sc.names, p.2 = .free -> sc0.names.lookup p.1 = some .cell \/ sc0.names.lookup p.1 = some .free
theorem lookup_of_mem {α : Type} : ∀ {l : List (Str × α)}, (l.map (·.1)).Nodup -> ∀ {x : Str} {k : α}, (x, k) ∈ l -> l.lookup x = some k
 | (n, v) :: r, hn, x, k, h => by
  obtain ⟨h1, h2⟩ := List.nodup_cons.mp hn
  rw [List.lookup_cons]
  rcases List.mem_cons.mp h with e | hm
  ·cases e; simp
  ·have : (x == n) = false := by
    rw [beq_eq_false_iff_ne]
    intro e
    exact h1 (List.mem_map.mpr ⟨_, hm, e⟩)
   rw [this]
   exact lookup_of_mem h2 hm
def compEnv2 (scope : Scope) (L : Addr) (env : Env) : Env :=
 { scope := relabel scope env, locals := L, globals := env.globals, cells := cellsFrom (L + 1) scope.names (closL env.cells scope.names []), qual := env.qual, func := none, code := env.code, frame := env.frame, builtins := env.builtins }
theorem newEnv_comp {M : Model} {A : Around} {E : Value -> Shared -> Prop} {s : Shared} {scope : Scope} {globals : Addr} {cl : List (Str × Addr)} {qual : Str} {env : Env} {Q : Env -> Shared -> Prop}
  (hQ : ∀ h', h'.Ns s.heap.objs.size (fun _ => none) -> (∀ b o, s.heap.get? b = some o -> h'.get? b = some o) -> (∀ x c, (x, c) ∈ cellsFrom (s.heap.objs.size + 1) scope.names [] -> h'.IsCell c none /\ s.heap.objs.size < c) ->
   ((cellsFrom (s.heap.objs.size + 1) scope.names []).Pairwise fun x y => x.2 ≠ y.2) ->
   Q { scope := scope, locals := s.heap.objs.size, globals := globals, cells := cellsFrom (s.heap.objs.size + 1) scope.names cl, qual := qual, func := none, code := env.code, frame := env.frame, builtins := env.builtins } { s with heap := h' }) :
  wpAny M A (newFunctionEnv scope globals cl [] qual none .none (some env)) Q E s := by
 simp only [newFunctionEnv, Option.isSome_some, if_true]
 refine wpAny_bind (wpAny_alloc ?_)
 refine wpAny_bind (wpAny_layCells _ (fun name kind cells => by cases hkc : kind == NameKind.cell <;> simp [hkc]) _ _ _ _ ?_)
 have ok := cellsFrom_ok scope.names (s.heap.push { cls := .type "dict", data := .dict #[] }) (s.heap.objs.size + 1) [] ⟨fun _ _ hm => (nomatch hm), List.Pairwise.nil⟩ (by rw [Heap.size_push]; exact Nat.le_refl _)
 rw [Heap.size_push] at ok
 rw [show ({ s with heap := s.heap.push { cls := .type "dict", data := .dict #[] } } : Shared).heap.objs.size = s.heap.objs.size + 1 from Heap.size_push ..]
 rw [List.forIn_nil]
 refine wpAny_bind (wpAny_pure (wpAny_pure ?_))
 exact hQ _ ((Heap.Ns.new s.heap (.type "dict")).keeps (pushCells_keeps _ _)) (fun b o e => pushCells_keeps _ _ b o (Heap.get?_push_of_some _ e)) (fun x c hm => ⟨(ok.empty x c hm).1, (ok.empty x c hm).2⟩) ok.apart
def cxComp (X : Cx) (N' : List Str) (scope : Scope) (s2 : Shared) (H2 : Hp) (fp : List Addr) : Cx :=
 { X with N := N', s₀ := s2, H₀ := H2, env := compEnv2 scope s2.heap.objs.size X.env, outer := X.stack, stack := X.stack, ex := fp, fn := fun x => scope.names.lookup x == some .cell, pn := [], xe := fun _ _ => False }
theorem lookup_relabel {env : Env} : ∀ {names : List (Str × NameKind)} {x : Str} {k : NameKind},
  (names.map fun (n, k) => if (k == NameKind.free && env.scope.kind == .function && env.kindOf n == some .cell) then (n, NameKind.cell) else (n, k)).lookup x = some k ->
  ∃ k0, names.lookup x = some k0 /\ (k = k0 \/ (k0 = .free /\ k = .cell))
 | [], _, _, h => by simp at h
 | (n, k0) :: r, x, k, h => by
  have ih := @lookup_relabel env r x k
  have h' : List.lookup x ((if (k0 == NameKind.free && env.scope.kind == .function && env.kindOf n == some .cell) = true then (n, NameKind.cell) else (n, k0)) :: _) = some k := h
  rw [List.lookup_cons]
  by_cases hc : (k0 == NameKind.free && env.scope.kind == .function && env.kindOf n == some .cell) = true
  ·rw [if_pos hc, List.lookup_cons] at h'
   cases hx : x == n with
   | true =>
    rw [hx] at h'; cases h'
    have : k0 = .free := by
     have z := hc
     rw [Bool.and_eq_true, Bool.and_eq_true] at z
     simpa using z.1.1
    exact ⟨k0, rfl, .inr ⟨this, rfl⟩⟩
   | false => rw [hx] at h'; exact ih h'
  ·rw [if_neg hc, List.lookup_cons] at h'
   cases hx : x == n with
   | true => rw [hx] at h'; cases h'; exact ⟨k0, rfl, .inl rfl⟩
   | false => rw [hx] at h'; exact ih h'
theorem lookup_relabel_of {env : Env} : ∀ {names : List (Str × NameKind)} {x : Str}, names.lookup x = some .free ->
  (names.map fun (n, k) => if (k == NameKind.free && env.scope.kind == .function && env.kindOf n == some .cell) then (n, NameKind.cell) else (n, k)).lookup x = some .cell \/
  (names.map fun (n, k) => if (k == NameKind.free && env.scope.kind == .function && env.kindOf n == some .cell) then (n, NameKind.cell) else (n, k)).lookup x = some .free
 | [], _, h => by simp at h
 | (n, k0) :: r, x, h => by
  have ih := @lookup_relabel_of env r x
  show List.lookup x ((if (k0 == NameKind.free && env.scope.kind == .function && env.kindOf n == some .cell) = true then (n, NameKind.cell) else (n, k0)) :: _) = _ \/ List.lookup x ((if (k0 == NameKind.free && env.scope.kind == .function && env.kindOf n == some .cell) = true then (n, NameKind.cell) else (n, k0)) :: _) = _
  rw [List.lookup_cons] at h
  cases hx : x == n with
  | true =>
   rw [hx] at h; cases h
   by_cases hc : (NameKind.free == NameKind.free && env.scope.kind == .function && env.kindOf n == some .cell) = true
   ·rw [if_pos hc, List.lookup_cons, hx]; exact .inl rfl
   ·rw [if_neg hc, List.lookup_cons, hx]; exact .inr rfl
  | false =>
   rw [hx] at h
   by_cases hc : (k0 == NameKind.free && env.scope.kind == .function && env.kindOf n == some .cell) = true
   ·rw [if_pos hc, List.lookup_cons, hx]; exact ih h
   ·rw [if_neg hc, List.lookup_cons, hx]; exact ih h
def pick (ixs : List (Option Nat)) (σ : St) : St := ixs.map fun o => o.bind fun i => (σ[i]?).join
section
variable {X : Cx} {pins : List (Addr × Obj)} {σ : St} {H : Hp} {s2 : Shared} {N' : List Str} {ixs : List (Option Nat)} {scope : Scope} {fp : List Addr} {h' : Heap}
theorem comp_free (I : Inv X pins σ H s2) (S : CompScope X.N X.env.scope N' ixs scope) {x : Str} (hx : (x, NameKind.free) ∈ scope.names) : ∃ c, X.env.cells.lookup x = some c :=
 I.ok.has x (S.free _ hx rfl)
theorem comp_cells (I : Inv X pins σ H s2) (S : CompScope X.N X.env.scope N' ixs scope) {n : Nat} {x : Str} {c : Addr} (h : (cellsFrom n scope.names (closL X.env.cells scope.names [])).lookup x = some c) :
  ((x, c) ∈ cellsFrom n scope.names [] /\ (x, NameKind.cell) ∈ scope.names) \/ ((x, NameKind.free) ∈ scope.names /\ X.env.cells.lookup x = some c) := by
 rw [cellsFrom_app, List.lookup_append] at h
 cases e : (cellsFrom n scope.names []).lookup x with
 | some d =>
  rw [e] at h
  have z : d = c := by simpa using h
  subst z
  have m := PySem.mem_of_lookup e
  rcases cellsFrom_mem _ _ _ _ _ m with z | z
  ·simp at z
  ·exact .inl ⟨m, z⟩
 | none =>
  rw [e] at h
  have h' : (closL X.env.cells scope.names []).lookup x = some c := by simpa using h
  rcases closL_lookup _ _ _ _ h' with z | ⟨z, e2⟩
  ·simp at z
  ·obtain ⟨c0, h0⟩ := comp_free I S z
   rw [h0] at e2
   exact .inr ⟨z, by rw [h0, e2]; rfl⟩
theorem inv_comp (I : Inv X pins σ H s2) (S : CompScope X.N X.env.scope N' ixs scope) (hfp : ∀ b ∈ fp, FpOk X pins H b) (hfo : ∀ b ∈ fp, ∃ o, s2.heap.get? b = some o)
  (hn : h'.Ns s2.heap.objs.size (fun _ => none)) (hk : ∀ b o, s2.heap.get? b = some o -> h'.get? b = some o)
  (hc : ∀ x c, (x, c) ∈ cellsFrom (s2.heap.objs.size + 1) scope.names [] -> h'.IsCell c none /\ s2.heap.objs.size < c) (hp : (cellsFrom (s2.heap.objs.size + 1) scope.names []).Pairwise fun x y => x.2 ≠ y.2) :
  Inv (cxComp X N' scope s2 H fp) [] (pick ixs σ) H { s2 with heap := h' } := by
 have old : ∀ {x : Str} {c : Addr}, X.env.cells.lookup x = some c -> c < s2.heap.objs.size := fun {x c} e => let ⟨_, q⟩ := I.cell x c e; q.lt
 have cc : ∀ {x : Str} {c : Addr}, (cxComp X N' scope s2 H fp).env.cells.lookup x = some c -> ((x, c) ∈ cellsFrom (s2.heap.objs.size + 1) scope.names [] /\ (x, NameKind.cell) ∈ scope.names) \/ ((x, NameKind.free) ∈ scope.names /\ X.env.cells.lookup x = some c) :=
  fun {x c} e => comp_cells I S e
 have isc : ∀ {x : Str} {c : Addr}, (cxComp X N' scope s2 H fp).env.cells.lookup x = some c -> ∃ v, h'.IsCell c v := fun {x c} e => by
  rcases cc e with ⟨m, _⟩ | ⟨_, e0⟩
  ·exact ⟨_, (hc x c m).1⟩
  ·obtain ⟨v, q⟩ := I.cell x c e0
   exact ⟨v, q.keeps hk⟩
 have flt : ∀ b ∈ fp, b < s2.heap.objs.size := fun b hb => let ⟨_, e⟩ := hfo b hb; Heap.lt_size e
 refine ⟨⟨I.ok.mod, S.kind, I.ok.glob, I.ok.blt, Nat.le_refl _, fun x y c e1 e2 => ?_, fun x hx => ?_, fun x c hx e => ?_, I.ok.hd, I.ok.frames, .inl rfl, fun b hb => ⟨Nat.ne_of_lt (flt b hb), fun x c e z => ?_⟩, I.bs, ?_, fun b o e hb => ?_, fun b hb hb2 => ?_, I.stack, I.stkFree⟩,
  rfl, I.bare, Un.kept hk, ⟨_, hn, fun j x v e1 e2 e3 => ?_⟩, fun x c e => isc e, I.hok.fresh (Nat.le_refl _), fun x c e => ?_, fun p hp => absurd (show p ∈ ([] : List (Addr × Obj)) from hp) (by simp), I.hok.kept hk, ?_⟩
 ·rcases cc e1 with ⟨m1, _⟩ | ⟨_, o1⟩ <;> rcases cc e2 with ⟨m2, _⟩ | ⟨_, o2⟩
  ·exact name_of_addr hp m1 m2
  ·exact absurd (Nat.lt_trans (hc _ _ m1).2 (old o2)) (Nat.lt_irrefl _)
  ·exact absurd (Nat.lt_trans (hc _ _ m2).2 (old o1)) (Nat.lt_irrefl _)
  ·exact I.ok.inj x y c o1 o2
 ·have hk0 : ∃ k0, scope.names.lookup x = some k0 /\ (k0 = .cell \/ k0 = .free) := by
   rcases hx with hx | hx
   ·obtain ⟨k0, e, z⟩ := lookup_relabel (env := X.env) hx
    refine ⟨k0, e, ?_⟩
    rcases z with z | z
    ·exact .inl z.symm
    ·exact .inr z.1
   ·obtain ⟨k0, e, z⟩ := lookup_relabel (env := X.env) hx
    refine ⟨k0, e, ?_⟩
    rcases z with z | z
    ·exact .inr z.symm
    ·exact .inr z.1
  obtain ⟨k0, e, z⟩ := hk0
  show ∃ c, (cellsFrom (s2.heap.objs.size + 1) scope.names (closL X.env.cells scope.names [])).lookup x = some c
  rw [cellsFrom_app, List.lookup_append]
  rcases z with rfl | rfl
  ·obtain ⟨c, hc'⟩ := cell_has (n := s2.heap.objs.size + 1) e
   exact ⟨c, by rw [hc']; rfl⟩
  ·cases q : (cellsFrom (s2.heap.objs.size + 1) scope.names []).lookup x with
   | some d => exact ⟨d, rfl⟩
   | none =>
    obtain ⟨c, hc'⟩ := closL_has (cells := X.env.cells) scope.names [] x (PySem.mem_of_lookup e)
    exact ⟨c, by rw [hc']; rfl⟩
 ·have hx' : scope.names.lookup x = some .cell := by simpa [cxComp] using hx
  rcases cc e with ⟨m, _⟩ | ⟨m, _⟩
  ·exact Nat.le_of_lt (hc _ _ m).2
  ·rw [lookup_of_mem S.keys m] at hx'; cases hx'
 ·rcases cc e with ⟨m, _⟩ | ⟨_, o1⟩
  ·have := flt b hb
   rw [<- z] at this
   exact absurd (Nat.lt_trans (hc _ _ m).2 this) (Nat.lt_irrefl _)
  ·exact (hfp b hb).2.2.2.2.1 x c o1 z
 ·exact Nat.le_trans I.ok.bsz I.sz
 ·rcases (hfp b hb).2.2.2.1 with z | z
  ·exact I.ok.noex b o e z
  ·exact absurd (Nat.lt_of_lt_of_le (Heap.lt_size (I.ok.bs b o e).1) z) (Nat.lt_irrefl _)
 ·have := I.stkSub b hb2
  rcases List.mem_cons.mp this with z | z
  ·exact (hfp b hb).2.1 z
  ·exact (hfp b hb).2.2.1 z
 ·-- the names around
  have e2' : (ixs[j]?).bind (fun o => some (o.bind fun i => (σ[i]?).join)) = some (some v) := by
   have e2a : (ixs.map fun o => o.bind fun i => (σ[i]?).join)[j]? = some (some v) := e2
   rw [List.getElem?_map] at e2a
   cases q : ixs[j]? with
   | none => rw [q] at e2a; cases e2a
   | some o => rw [q] at e2a; exact e2a
  cases q : ixs[j]? with
  | none => rw [q] at e2'; cases e2'
  | some o =>
   rw [q] at e2'
   cases o with
   | none => simp at e2'
   | some i =>
    have e3' : (σ[i]?).join = some v := by simpa using e2'
    have e4 : σ[i]? = some (some v) := by
     cases q2 : σ[i]? with
     | none => rw [q2] at e3'; cases e3'
     | some z => rw [q2] at e3'; rw [show z = some v from e3']
    obtain ⟨y, hy1, hy2, hy3⟩ := S.fv j i q
    have exy : x = y := by
     have e1' : N'[j]? = some x := e1
     rw [hy2] at e1'; exact (Option.some.inj e1').symm
    subst exy
    obtain ⟨m, hm, hl⟩ := I.loc
    have hf := S.free _ (PySem.mem_of_lookup hy3) rfl
    obtain ⟨u, r, lk⟩ := hl i x v hy1 e4 (by rcases hf with z | z; exact .inr (.inl z); exact .inr (.inr z))
    refine ⟨u, r, .inr ⟨lookup_relabel_of hy3, ?_⟩⟩
    rcases lk with ⟨k, _⟩ | ⟨_, c, ec, ic⟩
    ·have k' : X.env.scope.names.lookup x = some .local := k
     rcases hf with z | z <;> (rw [z] at k'; cases k')
    ·refine ⟨c, ?_, ic.keeps hk⟩
     show (cellsFrom (s2.heap.objs.size + 1) scope.names (closL X.env.cells scope.names [])).lookup x = some c
     rw [cellsFrom_app, List.lookup_append]
     cases q3 : (cellsFrom (s2.heap.objs.size + 1) scope.names []).lookup x with
     | some d =>
      rcases cellsFrom_mem _ _ _ _ _ (PySem.mem_of_lookup q3) with z | z
      ·simp at z
      ·rw [lookup_of_mem S.keys z] at hy3; cases hy3
     | none =>
      obtain ⟨c', hc'⟩ := closL_has (cells := X.env.cells) scope.names [] x (PySem.mem_of_lookup hy3)
      rcases closL_lookup _ _ _ _ hc' with z | ⟨_, e5⟩
      ·simp at z
      ·rw [ec] at e5
       rw [hc', e5]; rfl
 ·rcases cc e with ⟨m, _⟩ | ⟨_, o1⟩
  ·exact I.hok.fresh (Nat.le_of_lt (hc _ _ m).2)
  ·exact I.freeC x c o1
 ·show (ixs.map _).length = N'.length
  rw [List.length_map, S.len]
end
end L2
namespace L2
open PySem PySem.Spec PyProof.Rows
def PIfs (X : Cx) (ifs : List Expr) (t : TT) : Prop :=
 ∀ (pins : List (Addr × Obj)) (s : Shared) (σ : St) (H : Hp) (Q : Bool -> Hp -> Prop), Inv X pins σ H s -> t σ H Q ->
  wpAny (model X.prog X.w) X.A (forIn ifs true fun c r => if r = true then do let ok <- isTrue c X.env (eval c X.env); pure (ForInStep.yield ok) else pure (ForInStep.yield r)) (TP X pins σ Q) X.xe s
def tTrue : TT := fun _ H Q => Q true H
section
variable {X : Cx}
theorem pifs_nil : PIfs X [] tTrue := fun _ _ _ H _ I h => wpAny_tests_nil ⟨H, I, h⟩
theorem pifs_one {c : Expr} {t : TT} (h : PT X c t) : PIfs X [c] t := fun pins s σ H Q I hw => wpAny_tests_one (h pins s σ H Q I hw)
end
theorem codeAny_compLoop2 {prog : Program} {w : World} {A : Around} {R : Result -> Shared -> Prop} {s : Shared} {elt target iter : Expr} {ifs : List Expr} {scope : Scope} {pos : Pos} {it acc : Value} {env : Env} (I : Nat -> Shared -> Prop)
  (turn : ∀ n s, I n s -> wpAny (model prog w) A (pyNext it) (fun r s1 => match r with
   | none => R (.ok .next) s1
   | some v => wpAny (model prog w) A (letOwnedTupleGo target it v) (fun _ s2 => wpAny (model prog w) A (assign target env v) (fun _ s3 =>
     wpAny (model prog w) A (forIn ifs true fun c r => if r = true then do let ok <- isTrue c env (eval c env); pure (ForInStep.yield ok) else pure (ForInStep.yield r)) (fun ok s4 =>
      if ok = true then wpAny (model prog w) A (eval elt env) (fun x s5 =>
       wpAny (model prog w) A (call (.builtin "list.append") [acc, x]) (fun _ s6 => ∃ m, m < n /\ I m s6) (fun _ _ => False) s5) (fun _ _ => False) s4
      else ∃ m, m < n /\ I m s4) (fun _ _ => False) s3) (fun _ _ => False) s2) (fun _ _ => False) s1) (fun _ _ => False) s)
  (n : Nat) (h : I n s) :
  codeAny (model prog w) A (.compLoop (.ListComp elt [⟨target, iter, ifs, 0⟩] scope pos) 0 it acc env) R s := by
 refine codeAny_loop rfl I (fun n s hI => ?_) n h
 show wpAny _ A ((compTurn (.ListComp elt [⟨target, iter, ifs, 0⟩] scope pos) 0 it acc env).onRaise (fun x => do noteFrame x env; theTreesLotGoes x)) _ _ s
 refine wpAny_noted (wpAny_noRaise ?_)
 rw [compTurn_list]
 refine wpAny_bind (wpAny_standAt (wpAny_bind (thn (turn n s hI) fun r s1 h1 => ?_)))
 cases r with
 | none => exact wpAny_pure h1
 | some v =>
  refine wpAny_bind (thn h1 fun _ s2 h2 => wpAny_bind (thn h2 fun _ s3 h3 => wpAny_bind (thn h3 fun ok s4 h4 => ?_)))
  cases ok with
  | false => exact wpAny_pure ⟨rfl, h4⟩
  | true => exact wpAny_bind (wpAny_bind (thn h4 fun x s5 h5 => wpAny_bind (thn h5 fun _ s6 h6 => wpAny_pure (wpAny_pure ⟨rfl, h6⟩))))
def CompW (J : It) (g : TG) (ti : TT) (te : TE) (τ0 : St) (Q : VK) (p : Addr) (H1 : Hp) : Prop :=
 ∃ W : Nat -> Nat -> List V -> St -> Hp -> Prop, (∃ m, W 0 m [] τ0 (upd H1 p (.lst []))) /\ ∀ i m ys τ H2, W i m ys τ H2 -> H2 p = some (.lst ys) /\
  ((J.stop i H2 /\ Q (.ref p) H2) \/ (J.go i H2 /\ ∀ x H3, J.yld i H2 x H3 -> g x τ H3 fun τ4 H4 => ti τ4 H4 fun b H5 =>
   if b = true then te τ4 H5 fun y H6 => H6 p = some (.lst ys) /\ ys.length < sizeLine /\ ∃ m', m' < m /\ W (i + 1) m' (ys ++ [y]) τ4 (upd H6 p (.lst (ys ++ [y])))
   else ∃ m', m' < m /\ W (i + 1) m' ys τ4 H5))
def tComp (wi : TI) (ixs : List (Option Nat)) (g : TG) (ti : TT) (te : TE) : TE := fun σ H Q => wi σ H fun J H1 => ∀ p, H1 p = none -> CompW J g ti te (pick ixs σ) Q p H1
section
variable {X : Cx} {pins : List (Addr × Obj)} {σ : St} {H2 : Hp} {s2 : Shared} {N' : List Str} {ixs : List (Option Nat)} {scope : Scope} {tg elt iter : Expr} {ifs : List Expr} {pos : Pos}
def CompEnd (X : Cx) (pins : List (Addr × Obj)) (σ : St) (Q : VK) (acc : Value) (C : Addr) (s' : Shared) : Prop :=
 ∃ (p : Addr) (H' : Hp), acc = .ref p /\ Inv X pins σ H' s' /\ FpOk X pins H' C /\ (∃ m, s'.heap.Ns C m) /\ Q (.ref p) H'
theorem comp_core {J : It} {fp : List Addr} {it : Addr} {tn : Nat -> Heap -> Prop} {g : TG} {ti : TT} {te : TE} {Q : VK} {E : Value -> Shared -> Prop} {RR : Value -> Addr -> Result -> Shared -> Prop} (hc : X.calm = true) (S : CompScope X.N X.env.scope N' ixs scope)
  (I2 : Inv X pins σ H2 s2) (T : Turn X.prog X.w X.K tg J fp it tn) (st : tn 0 s2.heap) (hf : ∀ b ∈ fp, FpOk X pins H2 b)
  (hb : ∀ s H fp, PG (cxComp X N' scope s H fp) tg g /\ PIfs (cxComp X N' scope s H fp) ifs ti /\ PE (cxComp X N' scope s H fp) elt te)
  (hw : ∀ p, H2 p = none -> CompW J g ti te (pick ixs σ) Q p H2) (hR : ∀ acc C s', CompEnd X pins σ Q acc C s' -> RR acc C (.ok .next) s') :
  wpAny (model X.prog X.w) X.A (newList []) (fun acc s3 => wpAny (model X.prog X.w) X.A (newFunctionEnv scope X.env.globals (closL X.env.cells scope.names []) [] X.env.qual none .none (some X.env)) (fun cenv s4 =>
   codeAny (model X.prog X.w) X.A (.compStart (.ListComp elt [⟨tg, iter, ifs, 0⟩] scope pos) 0 (.ref it) acc { cenv with scope := relabel scope X.env }) (RR acc cenv.locals) s4) E s3) E s2 := by
 refine wpAny_newObj_type ?_
 have I3 : Inv X pins σ (upd H2 s2.heap.objs.size (.lst [])) { s2 with heap := s2.heap.push { cls := .type "list", data := .seq ([] : List Value).toArray } } :=
  I2.lnew (its := []) (t' := s2.toks) .nil (Nat.zero_le _)
 have hp := hw s2.heap.objs.size I2.fresh
 generalize e3 : ({ s2 with heap := s2.heap.push { cls := .type "list", data := .seq ([] : List Value).toArray } } : Shared) = s3 at I3 ⊢
 generalize eH : upd H2 s2.heap.objs.size (.lst []) = H3 at I3 hp
 have flt : ∀ b ∈ fp, b < s2.heap.objs.size := fun b hb => let ⟨_, e, _⟩ := T.obj _ _ st b hb; Heap.lt_size e
 have get3 : ∀ b o, s2.heap.get? b = some o -> s3.heap.get? b = some o := fun b o e => by rw [<- e3]; exact Heap.get?_push_of_some _ e
 have st3 : tn 0 s3.heap := T.keep _ _ _ st fun b _ o e => get3 b o e
 have hf3 : ∀ b ∈ fp, FpOk X pins H3 b := fun b hb => ⟨by rw [<- eH, upd_ne (Nat.ne_of_lt (flt b hb))]; exact (hf b hb).1, (hf b hb).2⟩
 have ho3 : ∀ b ∈ fp, ∃ o, s3.heap.get? b = some o := fun b hb => let ⟨o, e, _⟩ := T.obj _ _ st3 b hb; ⟨o, e⟩
 refine newEnv_comp fun h4 hn hk hcl hpw => ?_
 have I4 : Inv (cxComp X N' scope s3 H3 fp) [] (pick ixs σ) H3 { s3 with heap := h4 } := inv_comp I3 S hf3 ho3 hn hk hcl hpw
 have st4 : tn 0 ({ s3 with heap := h4 } : Shared).heap := T.keep _ _ _ st3 fun b _ o e => hk b o e
 obtain ⟨hG, hI, hE⟩ := hb s3 H3 fp
 obtain ⟨W, ⟨m0, w0⟩, turn⟩ := hp
 rw [eH] at w0
 have stat : ∀ {H' : Hp}, (∀ b ∈ fp, H' b = none) -> ∀ b ∈ fp, FpOk (cxComp X N' scope s3 H3 fp) [] H' b := fun hn b hb =>
  ⟨hn b hb, (I4.ok.exf b hb).1, I4.ok.exfs b hb, .inl hb, fun x c e => (I4.ok.exf b hb).2 x c e, fun p hp => absurd (show p ∈ ([] : List (Addr × Obj)) from hp) (by simp)⟩
 have loop : codeAny (model X.prog X.w) X.A (.compLoop (.ListComp elt [⟨tg, iter, ifs, 0⟩] scope pos) 0 (.ref it) (.ref s2.heap.objs.size) (compEnv2 scope s3.heap.objs.size X.env))
   (RR (.ref s2.heap.objs.size) s3.heap.objs.size) { s3 with heap := h4 } := by
  refine codeAny_compLoop2 (fun n s' => ∃ i ys τ H', Inv (cxComp X N' scope s3 H3 fp) [] τ H' s' /\ tn i s'.heap /\ (∀ b ∈ fp, H' b = none) /\ W i n ys τ H') ?_ m0 ⟨0, [], _, H3, I4, st4, fun b hb => (hf3 b hb).1, w0⟩
  rintro n s5 ⟨i, ys, τ, H5, I5, st5, fr5, w5⟩
  obtain ⟨hp5, w5⟩ := turn i n ys τ H5 w5
  rcases w5 with ⟨stop, qn⟩ | ⟨go, step⟩
  ·refine thn (T.done (cxComp X N' scope s3 H3 fp) rfl rfl rfl hc i [] s5 τ H5 _ I5 (stat fr5) st5 stop) fun r s6 ⟨hr, I6⟩ => ?_
   subst hr
   refine hR _ _ _ ⟨_, H5, rfl, ?_, ?_, ?_, qn⟩
   ·exact I3.call' (s' := s6) (ch := fp) I6.os I6.base I6.hok I6.bare fun b hb => ⟨(hf3 b hb).2.2.2.1, (hf3 b hb).2.1, (hf3 b hb).2.2.2.2.1, (hf3 b hb).2.2.2.2.2⟩
   ·exact I3.fpOk (Nat.le_refl _) I6.free
   ·obtain ⟨m, hm, _⟩ := I6.loc
    exact ⟨m, hm⟩
  ·refine thn (T.item (cxComp X N' scope s3 H3 fp) rfl rfl rfl hc i [] s5 τ H5 _ I5 (stat fr5) st5 go) fun r s6 ⟨u, hr, h6⟩ => ?_
   subst hr
   refine thn h6 fun _ s7 ⟨x, H7, I7, r7, y7, st7, fr7⟩ => ?_
   have I7' := I7.pinned (stat fr7) (T.obj _ _ st7)
   refine thn (hG _ s7 τ H7 x u _ I7' r7 (step x H7 y7)) fun _ s8 ⟨τ8, H8, I8, q8⟩ => ?_
   refine thn (hI _ s8 τ8 H8 _ I8 q8) fun b s9 ⟨H9, I9, q9⟩ => ?_
   have again : ∀ {τ' : St} {H' : Hp} {s' : Shared} {ys' : List V} {m' : Nat}, Inv (cxComp X N' scope s3 H3 fp) ([] ++ pinsAt fp s7.heap) τ' H' s' -> m' < n -> W (i + 1) m' ys' τ' H' ->
     ∃ m, m < n /\ ∃ i ys τ H', Inv (cxComp X N' scope s3 H3 fp) [] τ H' s' /\ tn i s'.heap /\ (∀ b ∈ fp, H' b = none) /\ W i m ys τ H' := fun {τ' H' s' ys' m'} I' hm w' => by
    refine ⟨m', hm, i + 1, ys', τ', H', I'.unpinned, T.keep _ _ _ st7 fun b hb o e => (I'.pin (b, o) (List.mem_append_right _ (List.mem_append_right _ (mem_pinsAt hb e)))).1, fun b hb => ?_, w'⟩
    obtain ⟨o, e, d⟩ := T.obj _ _ st7 b hb
    exact (I'.pin (b, o) (List.mem_append_right _ (List.mem_append_right _ (mem_pinsAt hb e)))).2.1
   cases b with
   | false =>
    obtain ⟨m', hm, w'⟩ := q9
    exact again I9 hm w'
   | true =>
    refine thn (hE _ s9 τ8 H9 _ I9 q9) fun y s10 ⟨z, H10, I10, r10, hp10, hz10, m', hm, w'⟩ => ?_
    refine thn (mt_append _ s10 τ8 H10 (.ref s2.heap.objs.size) [z] (.ref s2.heap.objs.size) [y] (fun _ H' => H' = upd H10 s2.heap.objs.size (.lst (ys ++ [z]))) I10 rfl (.cons r10 .nil) ⟨_, _, _, rfl, rfl, hp10, hz10, rfl⟩) fun _ s11 ⟨_, H11, I11, _, e11⟩ => ?_
    subst e11
    exact again I11 hm w'
 exact codeAny_compStart_list loop (T.self X.A 0 _ _ _ st4 loop)
theorem pe_comp {wi : TI} {g : TG} {ti : TT} {te : TE} (hc : X.calm = true) (S : CompScope X.N X.env.scope N' ixs scope) (hi : PI X tg iter wi)
  (hb : ∀ s H fp, PG (cxComp X N' scope s H fp) tg g /\ PIfs (cxComp X N' scope s H fp) ifs ti /\ PE (cxComp X N' scope s H fp) elt te)
  (hs : ∀ x, foldedSetIterable iter X.env x = pure x := by intro _; rfl) : PE X (.ListComp elt [⟨tg, iter, ifs, 0⟩] scope pos) (tComp wi ixs g ti te) := by
 intro pins s σ H Q I h
 rw [eval_ListComp]
 refine wpAny_comprehension_free (use := none) rfl hs (closureFor_eq fun n hn => comp_free I S hn) S.kind (fun x hx hl => lookup_of_mem S.keys (by rw [<- hl]; exact hx)) ?_
 refine thn (hi pins s σ H _ I h) fun v s1 h1 => thn h1 fun itv s2 h2 => ?_
 obtain ⟨it, fp, tn, J, H2, e, I2, T, st2, f2, hw⟩ := h2
 subst e
 refine comp_core (RR := fun acc C => compPost (model X.prog X.w) X.A X.xe none (EP X pins σ Q) acc C) hc S I2 T st2 f2 hb hw ?_
 rintro acc C s' ⟨p, H', rfl, I', fC, ⟨m, hm⟩, q⟩
 refine ⟨m, hm, fun h' hs' => ⟨.ref p, H', ?_, rfl, q⟩⟩
 exact I'.turned (it := C) (t' := s'.toks) (fun b o hb e => (hs'.2 b hb).trans e) fC.1 fC.2.1 fC.2.2.2.1 fC.2.2.2.2.1 fC.2.2.2.2.2
theorem ps_setComp {wi : TI} {g : TG} {ti : TT} {te : TE} {i : Nat} {x : Str} {pos' spos : Pos} (hc : X.calm = true) (S : CompScope X.N X.env.scope N' ixs scope) (hN : X.N.Nodup) (hx : X.N[i]? = some x) (hl : X.env.scope.names.lookup x = some .local) (hi : PI X tg iter wi)
  (hb : ∀ s H fp, PG (cxComp X N' scope s H fp) tg g /\ PIfs (cxComp X N' scope s H fp) ifs ti /\ PE (cxComp X N' scope s H fp) elt te)
  (hsw : swapsWith (.ListComp elt [⟨tg, iter, ifs, 0⟩] scope pos) (some (.Name x pos')) spos.line X.env = pure true := by rfl)
  (hs : ∀ x, foldedSetIterable iter X.env x = pure x := by intro _; rfl) : PS X (.Assign [.Name x pos'] (.ListComp elt [⟨tg, iter, ifs, 0⟩] scope pos) spos) (tAsg (tComp wi ixs g ti te) (gName i)) := by
 intro pins s σ H D I h
 rw [exec_Assign_Name_used _ _ _ _ hsw]
 refine wpAny_bind (wpAny_standAt (wpAny_bind ?_))
 show wpAny _ X.A (do let _ <- comprehension (.ListComp elt [⟨tg, iter, ifs, 0⟩] scope pos) scope X.env _ (newList []) false (eval iter X.env) (some (assign (.Name x pos') X.env))) _ _ s
 refine wpAny_bind (thn (wpAny_comprehension_free (use := some (assign (.Name x pos') X.env)) (Q := fun _ s' => SP X pins D .next s') rfl hs (closureFor_eq fun n hn => comp_free I S hn) S.kind (fun x hx hl => lookup_of_mem S.keys (by rw [<- hl]; exact hx)) ?_) fun _ s' hq => wpAny_pure (wpAny_pure hq))
 refine thn (hi pins s σ H _ I h) fun v s1 h1 => thn h1 fun itv s2 h2 => ?_
 obtain ⟨it, fp, tn, J, H2, e, I2, T, st2, f2, hw⟩ := h2
 subst e
 refine comp_core (Q := fun v H' => D.nx (σ.set i (some v)) H') (RR := fun acc C => compPost (model X.prog X.w) X.A X.xe (some (assign (.Name x pos') X.env)) (fun _ s' => SP X pins D .next s') acc C) hc S I2 T st2 f2 hb hw ?_
 rintro acc C s' ⟨p, H', rfl, I', fC, ⟨m, hm⟩, q⟩
 show wpAny (model X.prog X.w) X.A (assign (.Name x pos') X.env (.ref p)) _ _ s'
 refine wpAny_assign_Name (store_ok2 (v := .ref p) I' hN hx (.inl hl) rfl (fun s'' I'' ⟨a, hsb, ha⟩ => ?_) (.inr hl))
 have hCa : C ≠ a := by
  rcases ha with ha | ha
  ·rw [ha]; exact fC.2.1
  ·exact fun z => fC.2.2.2.2.1 _ _ ha z.symm
 refine ⟨m, hm.sameBut hsb hCa, fun h' hs' => ⟨_, H', ?_, q⟩⟩
 exact I''.turned (it := C) (t' := s''.toks) (fun b o hb e => (hs'.2 b hb).trans e) fC.1 fC.2.1 fC.2.2.2.1 fC.2.2.2.2.1 fC.2.2.2.2.2
end
end L2
namespace L2
open PySem PySem.Spec PyProof.Rows PySem.W PySem.Builtin.ObjectAttr
abbrev bmV : List Value := [.type "ValueError", .type "Exception", .type "BaseException", .type "object"]
def excInI (K : Frag) (C : Addr) (i : Option Value) : Bool :=
  match K.lookup C with
  | some ⟨.type "type", _, .cls cls, slots⟩ =>
    (match cls.mro, slots.toList with
     | .ref C' :: up, [_, _, _, _, some (.builtin n), _] => C' == C && (n == "ValueError.__new__" && (!cls.hasDel && (tailIn K bmV up && (nsOkIn K cls.ns && nsIn K cls.ns "__init__" == some i))))
     | _, _ => false)
  | _ => false
def overE : List Value -> Bool
 | .ref _ :: r => overE r
 | l => l == bmV
structure XCls (K : Frag) (C : Addr) : Prop where
 ga : findIn K (.ref C) "__getattribute__" = some (some (.builtin "BaseException.__getattribute__"))
 gh : findIn K (.ref C) "__getattr__" = some none
 sa : findIn K (.ref C) "__setattr__" = some (some (.builtin "object.__setattr__"))
 hd : hasDictIn K C = true
 ov : ((clsIn K C).any fun cd => overE cd.mro) = true
 be : mroIn K C (.type "BaseException") = some true
 ve : mroIn K C (.type "ValueError") = some true
 ob : mroIn K C (.type "object") = some true
 ka : findIn K (.ref C) "__class__" = some (some (.builtin "object.__class__"))
 kn : specialIn K (.builtin "object.__class__") "__get__" = some (some (.builtin "getset_descriptor.__get__"))
 kt : takesIn K (.builtin "object.__class__") = some true
section
variable {prog : Program} {w : World} {A : Around} {E : Value -> Shared -> Prop} {s : Shared} {K : Frag} {x C : Addr} {ox : Obj} {od : Option Obj} {name : Str}
theorem exc_getBy {tk : Tok} {fill expr : Bool} {Q : Value -> Shared -> Prop} (X : K.In s.heap) (I : InstAt s.heap x ox C od) (c : XCls K C)
  (h : wpAny (model prog w) A.in1 (Builtin.«object.__getattribute__» ⟨[.ref x, .str name tk], []⟩) (fun fin s' => match fin with | .done (.ret v) => wpAny (model prog w) A (handedOut v) Q E s' | _ => False) (fun _ _ => False) s) :
  wpAny (model prog w) A (getAttrBy (.ref x) (.str name tk) fill expr) Q E s := by
 have L0 := I.type (M := model prog w)
 have L1 := looks_findIn (M := model prog w) X c.ga
 have L2 := looks_findIn (M := model prog w) X c.gh
 have sub : Looks (model prog w) s.heap (isInstance (.ref x) (.type "BaseException")) true := I.type.andThen (looks_mroIn X c.be)
 have hx2 : (Value.builtin "BaseException.__getattribute__" == Value.builtin "object.__getattribute__") = false := by decide +kernel
 have hx1 : (onTheHeap (Value.ref C) && Value.builtin "BaseException.__getattribute__" == Value.builtin "object.__getattribute__") = false := by rw [hx2]; rfl
 have hk : builtinKind "BaseException.__getattribute__" = some .slot := by decide +kernel
 have hsplit : splitId "BaseException.__getattribute__" = some ("BaseException", "__getattribute__") := by decide +kernel
 unfold getAttrBy
 refine wpAny_holding (wpAny_bind (L0.here (wpAny_bind (L1.here ?_))))
 dsimp only
 rw [hx1]
 show wpAny _ _ (getAttrByItsOwn _ _ _ _ _ _) _ _ _
 unfold getAttrByItsOwn hookBefore
 refine wpAny_bind ?_
 rw [if_pos (show onTheHeap (Value.ref C) = true from rfl)]
 refine L2.here (wpAny_bind (wpAny_attempt (wpAny_holding ?_)))
 unfold callGetattribute
 rw [if_neg (show ¬ (expr && onTheHeap (Value.builtin "BaseException.__getattribute__")) = true by cases expr <;> decide)]
 unfold boundAndCalled
 rw [PySem.F.attrBase_ValueError.ga.bind]
 refine wpAny_bind (wpAny_pure (wpAny_call (codeAny_call_builtin PySem.F.attrBase_ValueError.ga.plain PySem.F.entry_bexc_ga (@check_slot (model prog w) _ _ s "BaseException.__getattribute__" "BaseException" "__getattribute__" (.ref x) [.str name tk] [] _ hk hsplit sub (PySem.F.args_bexc_ga _ _) ?_))))
 refine wpAny_mono h (fun fin s' z => ?_) fun _ _ z => z.elim
 rcases fin with (_ | _ | _ | _) | _ <;> first | exact z | exact z.elim
theorem exc_class {Q : Option Value -> Shared -> Prop} (X : K.In s.heap) (I : InstAt s.heap x ox C od) (c : XCls K C) (h : Q (some (.ref C)) { s with toks := s.toks + 1 }) : wpAny (model prog w) A (getAttr? (.ref x) "__class__") Q E s := by
 have hf : findObj K C od "__class__" = some (.bind (.builtin "getset_descriptor.__get__") (.builtin "object.__class__")) := by
  obtain ⟨cd, hc, _⟩ := any_some c.hd
  unfold findObj
  rw [hc, Option.bind_some, c.ka, Option.bind_some]
  dsimp only
  rw [c.kn, Option.bind_some]
  dsimp only
  rw [c.kt, Option.bind_some]
 unfold getAttr? getAttrBy?
 refine wpAny_bind (wpAny_mkText (wpAny_bind (wpAny_attempt ?_)))
 have L0 := I.type (M := model prog w)
 have L1 := looks_find (M := model prog w) X I hf
 refine exc_getBy (s := { s with toks := s.toks + 1 }) X I c ?_
 refine wpAny_bind (wpAny_pure (wpAny_bind (wpAny_pure (wpAny_bind (Looks.here (s := { s with toks := s.toks + 1 }) L0 (wpAny_bind (Looks.here (s := { s with toks := s.toks + 1 }) L1 ?_)))))))
 show wpAny _ _ (holding [.builtin "object.__class__"] (call (.builtin "getset_descriptor.__get__") [.builtin "object.__class__", .ref x, .ref C]) >>= ret) _ _ _
 refine wpAny_bind (wpAny_holding (wpAny_call (class_get (s := { s with toks := s.toks + 1 }) (ox := ox) (od := od) X I c.ob ?_)))
 exact wpAny_pure (handed_on rfl (wpAny_pure h))
theorem cls_isType {M : Model} {h : Heap} (X : K.In h) (c : XCls K C) : Looks M h (isType (.ref C)) true := by
 obtain ⟨cls, ic, _⟩ := any_some c.hd
 unfold clsIn at ic
 split at ic
 next at_ =>
  intro A' Q' E' s' k q
  exact wpAny_bind (wpAny_loadPart (part := some headPart) (k _ _ (X _ _ at_)) (wpAny_pure q))
 next => cases ic
theorem kitx_exc (c : XCls K C) : KitX K (.ref x) (.ref C) (fun h => InstAt h x ox C od) where
 ty := fun _ _ _ I => I.type
 it := fun _ _ X _ => cls_isType X c
 ne := fun h tp _ _ _ _ X tup => by
  obtain ⟨cls, ic, _⟩ := any_some c.hd
  cases q : (Value.ref C == .ref tp) with
  | false => rfl
  | true =>
   have e : C = tp := Value.ref.inj (beq_iff_eq.mp q)
   unfold clsIn at ic
   split at ic
   next at_ =>
    have two := (X _ _ at_).symm
    rw [e, tup] at two
    cases two
   next => cases ic
 ca := fun X I k => exc_class X I c k
end
end L2
namespace L2
open PySem PySem.Spec PyProof.Rows PySem.W PySem.Builtin.ObjectAttr
def ExcO (C : Addr) (dx : Option Addr) (a : Addr) : HO := .ext fun h => ∃ t, h.get? a = some { cls := .ref C, dict := dx, data := .fields #[.ref t, .none, .none, .none, .bool false, .none] }
def ExcD (d : Addr) (fs : List (Str × V)) : HO := .ext fun h => fs.length <= 100 /\ ∃ mA, h.Ns1 d mA /\ (∀ f, RelO (fs.lookup f) (mA f)) /\ PySem.Within mA (fs.map (·.1))
section
variable {X : Cx} {pins : List (Addr × Obj)} {σ : St} {H : Hp} {s : Shared} {A : Around} {E : Value -> Shared -> Prop} {a d C : Addr} {dx : Option Addr} {fs : List (Str × V)} {f : Str}
theorem Inv.excAt (I : Inv X pins σ H s) (e : H a = some (ExcO C dx a)) : ∃ t, s.heap.get? a = some { cls := .ref C, dict := dx, data := .fields #[.ref t, .none, .none, .none, .bool false, .none] } := (I.hok a _ e).1
theorem Inv.excDict (I : Inv X pins σ H s) (e : H d = some (ExcD d fs)) : fs.length <= 100 /\ ∃ mA, s.heap.Ns1 d mA /\ (∀ f, RelO (fs.lookup f) (mA f)) /\ PySem.Within mA (fs.map (·.1)) := (I.hok d _ e).1
end
end L2
namespace L2
open PySem PySem.Spec PyProof.Rows PySem.W
mutual
inductive Rep (H : Hp) : V -> PyData -> Prop where
 | non : Rep H .non .none
 | bl (b : Bool) : Rep H (.bl b) (.bool b)
 | int (i : Int) : Rep H (.int i) (.int i)
 | str (x : Str) : Rep H (.str x) (.str x)
 | lst {a : Addr} {xs : List V} {ds : List PyData} : H a = some (.lst xs) -> RepAll H xs ds -> Rep H (.ref a) (.list ds)
 | tup {a : Addr} {xs : List V} {ds : List PyData} : H a = some (.tup xs) -> RepAll H xs ds -> Rep H (.ref a) (.tuple ds)
inductive RepAll (H : Hp) : List V -> List PyData -> Prop where
 | nil : RepAll H [] []
 | cons {x : V} {d : PyData} {xs : List V} {ds : List PyData} : Rep H x d -> RepAll H xs ds -> RepAll H (x :: xs) (d :: ds)
end
section
variable {X : Cx} {pins : List (Addr × Obj)} {σ : St} {H H' : Hp} {s : Shared}
mutual
theorem Rep.reads (I : Inv X pins σ H s) : ∀ {v : V} {d : PyData} {u : Value}, Rep H v d -> RelV v u -> ∃ as, Reads s.heap u d as
 | _, _, _, .non, r => by cases r; exact ⟨_, .none⟩
 | _, _, _, .bl b, r => by cases r; exact ⟨_, .bool b⟩
 | _, _, _, .int i, r => by obtain ⟨t, rfl⟩ := r; exact ⟨_, .int i t⟩
 | _, _, _, .str x, r => by obtain ⟨t, rfl⟩ := r; exact ⟨_, .str x t⟩
 | _, _, _, .lst (a := a) (xs := xs) e rs, r => by
  cases r
  obtain ⟨_, its, n, rv, at_⟩ := (show ObjOk X.prog X.w H s.heap a (.lst xs) from I.hok a _ e)
  obtain ⟨as, ra⟩ := RepAll.reads I rs rv
  exact ⟨_, .list at_ rfl rfl ra⟩
 | _, _, _, .tup (a := a) (xs := xs) e rs, r => by
  cases r
  obtain ⟨_, its, rv, ob, at_, hc, n, hd, _⟩ := (show ObjOk X.prog X.w H s.heap a (.tup xs) from I.hok a _ e)
  obtain ⟨as, ra⟩ := RepAll.reads I rs rv
  exact ⟨_, .tuple at_ hc hd ra⟩
theorem RepAll.reads (I : Inv X pins σ H s) : ∀ {vs : List V} {ds : List PyData} {us : List Value}, RepAll H vs ds -> Vals vs us -> ∃ as, ReadsAll s.heap us ds as
 | _, _, _, .nil, r => by cases r; exact ⟨_, .nil⟩
 | _, _, _, .cons r rs, rv => by
  cases rv with
  | cons q qs =>
   obtain ⟨as, h1⟩ := Rep.reads I r q
   obtain ⟨bs, h2⟩ := RepAll.reads I rs qs
   exact ⟨_, .cons h1 h2⟩
end
mutual
theorem Rep.same : ∀ {v : V} {d : PyData}, Rep H v d -> Same H H' -> Rep H' v d
 | _, _, .non, _ => .non
 | _, _, .bl b, _ => .bl b
 | _, _, .int i, _ => .int i
 | _, _, .str x, _ => .str x
 | _, _, .lst e rs, k => .lst (k _ _ e) (RepAll.same rs k)
 | _, _, .tup e rs, k => .tup (k _ _ e) (RepAll.same rs k)
theorem RepAll.same : ∀ {vs : List V} {ds : List PyData}, RepAll H vs ds -> Same H H' -> RepAll H' vs ds
 | _, _, .nil, _ => .nil
 | _, _, .cons r rs, k => .cons (Rep.same r k) (RepAll.same rs k)
end
end
section
variable {X : Cx}
def rEqD : R2 := fun x y H Q => ∃ da db, Rep H x da /\ Rep H y db /\ da.canLay0 = true /\ db.canLay0 = true /\ da.depth <= 60 /\ Q (.bl (PyData.eqv da db)) H
def rNeD : R2 := fun x y H Q => ∃ da db, Rep H x da /\ Rep H y db /\ da.canLay0 = true /\ db.canLay0 = true /\ da.depth <= 60 /\ Q (.bl (!PyData.eqv da db)) H
theorem op_eqD (hu : X.A.units + 64 < cLine) : OpR X (compareOp .Eq) rEqD := by
 intro pins s σ H x y v u Q I rx ry h
 obtain ⟨da, db, r1, r2, l1, l2, dp, q⟩ := h
 obtain ⟨as, h1⟩ := r1.reads I rx
 obtain ⟨bs, h2⟩ := r2.reads I ry
 exact SeqAt.compareEq_reads h1 h2 l1 l2 (by omega) ⟨.bl _, H, I, rfl, q⟩
theorem op_neD (hu : X.A.units + 64 < cLine) : OpR X (compareOp .NotEq) rNeD := by
 intro pins s σ H x y v u Q I rx ry h
 obtain ⟨da, db, r1, r2, l1, l2, dp, q⟩ := h
 obtain ⟨as, h1⟩ := r1.reads I rx
 obtain ⟨bs, h2⟩ := r2.reads I ry
 exact SeqAt.compareNe_reads h1 h2 l1 l2 (by omega) ⟨.bl _, H, I, rfl, q⟩
end
end L2
namespace L2
open PySem PySem.Spec PyProof.Rows PySem.W
section
variable {X : Cx} {o value e : Expr} {f : Str} {pos pos' : Pos} {ta tv : TE}
def rIsi (K : Frag) : List V -> Hp -> VK -> Prop := fun xs H Q => ∃ x c t cv b, xs = [x, c] /\ RelV c cv /\ (TyOf K H x t \/ ∃ a C dx, x = .ref a /\ t = .ref C /\ H a = some (ExcO C dx a) /\ XCls K C /\ (∀ d, dx = some d -> ∃ fs, H d = some (ExcD d fs))) /\ kitOne K t cv = some b /\ Q (.bl b) H
theorem call_isi : CallR X (.builtin "isinstance") (fun xs H Q => (∃ x, (∃ C, xs = [x, .ref C]) \/ (∃ T, xs = [x, .ty T])) /\ rIsi X.K xs H Q) := by
 intro pins s σ H xs us Q I r h
 obtain ⟨hx, x, c, t, cv, b, rfl, rc, ty, e, q⟩ := h
 obtain ⟨u, w', rfl, ru, rw'⟩ := r.two
 have ecv : w' = cv := by
  obtain ⟨x', ⟨C, z⟩ | ⟨T, z⟩⟩ := hx
  ·cases z; cases rc; cases rw'; rfl
  ·cases z; cases rc; cases rw'; rfl
 subst ecv
 rcases ty with ty | ⟨a, C, dx, rfl, rfl, ea, c, hd⟩
 ·exact isinst_ok I ru ty e fun tk => ⟨.bl b, H, I.tok _, rfl, q⟩
 ·cases ru
  obtain ⟨t, at_⟩ := I.excAt ea
  cases dx with
  | none =>
   have J : InstAt s.heap a _ C none := ⟨at_, rfl, rfl, True.intro⟩
   exact kia_one (kitx_exc c) I.kIn J e (fun z => nomatch z) fun tk => ⟨.bl b, H, I.tok _, rfl, q⟩
  | some d =>
   obtain ⟨fs, ed⟩ := hd d rfl
   obtain ⟨_, mA, n, _⟩ := I.excDict ed
   obtain ⟨od, hod, _⟩ := lookIn_ns n
   have J : InstAt s.heap a _ C (some od) := ⟨at_, rfl, rfl, hod⟩
   exact kia_one (kitx_exc c) I.kIn J e (fun z => nomatch z) fun tk => ⟨.bl b, H, I.tok _, rfl, q⟩
end
end L2
namespace L2
open PySem PySem.Spec PyProof.Rows PySem.W
def Ite (K : Frag) (l : Addr) : It :=
 ⟨fun i H => ∃ xs x, SqL K H l xs /\ xs[i]? = some x, fun i H x H' => ∃ t v, H t = none /\ x = .ref t /\ (∀ xs, SqL K H l xs -> xs[i]? = some v) /\ H' = upd H t (.tup [.int i, v]), fun i H => ∃ xs, SqL K H l xs /\ xs.length <= i⟩
theorem turn_enum {P : Program} {w : World} {K : Frag} {elts : List Expr} {n1 : Nat} {tp : Pos} (l e it : Addr) (hne : e ≠ it) :
  Turn P w K (.Tuple elts n1 tp) (Ite K l) [e, it] e (fun i h => (∃ old, IsEnum h e it i old) /\ h.IsListIter it l i) where
 mem := by simp
 obj := fun i h st b hb => by
  obtain ⟨⟨old, h1⟩, h2⟩ := st
  rcases List.mem_cons.mp hb with z | z
  ·subst z; exact ⟨_, h1, fun v q => by cases q⟩
  ·have z' : b = it := by simpa using z
   subst z'
   obtain ⟨o, q, _, d⟩ := h2
   exact ⟨o, q, fun v z => by rw [d] at z; cases z⟩
 keep := fun i h h' st k => by
  obtain ⟨⟨old, h1⟩, h2⟩ := st
  exact ⟨⟨old, k e (by simp) _ h1⟩, h2.at fun o q => k it (by simp) o q⟩
 item := by
  intro X hP hw hK hc i pins s σ H E I hf st hg
  subst hP hw hK
  obtain ⟨xs, x, hq, hx⟩ := hg
  obtain ⟨its, rv, p, hz⟩ := I.list hq
  obtain ⟨u, hu, ru⟩ := rv.get hx
  obtain ⟨⟨old, h1⟩, h2⟩ := st
  have fe := hf e (by simp)
  have fi := hf it (by simp)
  refine wpAny_pyNext_enum_item h1 h2 p.isList (x := u) (by simpa using hu) hne fun h' e1 i1 t1 z1 k1 => ⟨_, rfl, ?_⟩
  refine wpAny_letOwnedTupleGo_enum (s := { s with heap := h', toks := s.toks + 1 }) e1 fun h'' e2 sb => ?_
  have eS : e ≠ s.heap.objs.size := Nat.ne_of_lt (Heap.lt_size h1)
  have k2 : ∀ b o, b ≠ e -> b ≠ it -> s.heap.get? b = some o -> h''.get? b = some o := fun b o n1 n2 q => (sb.2 b n1).trans (k1 b o n1 n2 q)
  have t2 : h''.get? s.heap.objs.size = some { cls := .type "tuple", data := .seq #[.int i s.toks, u] } := (sb.2 _ (Ne.symm eS)).trans t1
  have hn : H s.heap.objs.size = none := I.hok.fresh (Nat.le_refl _)
  have lt : ∀ b o, s.heap.get? b = some o -> b ≠ s.heap.objs.size := fun b o q => Nat.ne_of_lt (Heap.lt_size q)
  have trk : ∀ b o, H b = some o -> b ≠ e /\ b ≠ it := fun b o q => ⟨(fun z => by rw [z, fe.1] at q; cases q), (fun z => by rw [z, fi.1] at q; cases q)⟩
  have nch : ∀ b, b ∉ [e, it] -> b ≠ e /\ b ≠ it := fun b hb => ⟨fun z => hb (by simp [z]), fun z => hb (by simp [z])⟩
  have J : Inv X pins σ (upd H s.heap.objs.size (.tup [.int i, x])) { s with heap := h'', toks := s.toks + 1 } := by
   refine I.step (g' := s.gens) (d' := s.drawn) (t' := s.toks + 1) (ch := [e, it]) (fun b hb => ?_) (fun b o _ _ hc q _ => k2 b o (nch b hc).1 (nch b hc).2 q) (fun b o _ _ hc q _ => ⟨o.slots, k2 b o (nch b hc).1 (nch b hc).2 q⟩)
    (fun b o _ q n => by rw [upd_ne (lt b o q)]; exact n) (fun b o hc q => ⟨o, k2 b o (nch b hc).1 (nch b hc).2 q⟩) (fun b ys q => by rw [upd_ne (ne_of_none q hn)]; exact q) (fun b o v q => by rw [upd_ne (ne_of_none q hn)]; exact q)
    (fun b ps q => ⟨#[], by rw [upd_ne (ne_of_none q hn), q]; simp⟩) (fun m hm => ?_) (fun b o q => ?_) I.bare
   ·rcases List.mem_cons.mp hb with z | z
    ·subst z; exact ⟨fe.2.2.2.1, fe.2.1, fe.2.2.2.2.1, fe.2.2.2.2.2⟩
    ·have z' : b = it := by simpa using z
     subst z'; exact ⟨fi.2.2.2.1, fi.2.1, fi.2.2.2.2.1, fi.2.2.2.2.2⟩
   ·obtain ⟨o, es, ep, ho, r⟩ := hm
    exact ⟨o, es, ep, k2 _ o (Ne.symm fe.2.1) (Ne.symm fi.2.1) ho, r⟩
   ·by_cases hb : b = s.heap.objs.size
    ·subst hb
     rw [upd_same] at q; cases q
     exact ⟨by rw [sizeLine_eq]; show 2 <= _; decide, [.int i s.toks, u], .cons ⟨_, rfl⟩ (.cons ru .nil), _, t2, rfl, _, rfl, rfl⟩
    ·rw [upd_ne hb] at q
     refine (I.hok b o q).stay (fun c v hc z => ?_) (fun c z => by rw [upd_ne (ne_of_none z hn)]; exact z) fun c ys z => by rw [upd_ne (ne_of_none z hn)]; exact z
     rcases hc with hc | hc
     ·subst hc; exact k2 _ v (trk _ _ q).1 (trk _ _ q).2 z
     ·exact k2 c v (trk _ _ hc).1 (trk _ _ hc).2 z
  refine ⟨.ref s.heap.objs.size, _, J, rfl, ⟨s.heap.objs.size, x, hn, rfl, fun ys hy => by rw [I.list_inj hy hq]; exact hx, rfl⟩, ⟨⟨u, e2⟩, ?_⟩, fun b hb => ?_⟩
  ·exact i1.extBut sb.extBut (Ne.symm hne)
  ·have : b ≠ s.heap.objs.size := by
    rcases List.mem_cons.mp hb with z | z
    ·rw [z]; exact eS
    ·have z' : b = it := by simpa using z
     obtain ⟨o, q, _⟩ := h2
     rw [z']; exact lt _ _ q
   rw [upd_ne this]; exact (hf b hb).1
 done := by
  intro X hP hw hK hc i pins s σ H E I hf st hg
  subst hP hw hK
  obtain ⟨xs, hq, hx⟩ := hg
  obtain ⟨its, rv, p, hz⟩ := I.list hq
  obtain ⟨⟨old, h1⟩, h2⟩ := st
  have fi := hf it (by simp)
  have hl := rv.length
  exact wpAny_pyNext_enum_end (I.ok.hd hc) h1 h2 p.isList (by simp; omega) fun h' eb => ⟨rfl, I.turned (t' := s.toks) (fun b o hb q => eb b o hb q) fi.1 fi.2.1 fi.2.2.2.1 fi.2.2.2.2.1 fi.2.2.2.2.2⟩
 self := fun _ _ _ _ _ st h => let ⟨⟨_, h1⟩, _⟩ := st; wpAny_pyIter_enum h1 h
section
variable {X : Cx}
def iEnum (K : Frag) (ta : TA) : TI := fun σ H R => ta σ H fun vs H1 => ∃ a, vs = [.ref a] /\ (∃ xs, SqL K H1 a xs) /\ R (Ite K a) H1
theorem pi_enum {a : Expr} {ta : TA} {p pos tp : Pos} {elts : List Expr} {n1 : Nat} (hg : Gl X "enumerate") (hm : X.mg "enumerate" = none) (ha : PA X [a] ta) (hs : starEach [a] X.env = [(false, eval a X.env)] := by rfl) :
  PI X (.Tuple elts n1 tp) (.Call (.Name "enumerate" p) [a] [] pos) (iEnum X.K ta) := by
 intro pins s σ H R I h
 refine Call_ (ld_blt I hg hm (show bootBuiltins "enumerate" = some (.type "enumerate") by decide +kernel) (PyProof.Rows.callWith_type1 (thn (ha pos pins s σ H _ I h) fun us s1 ⟨vs, H1, I1, r1, q1⟩ => ?_) hs rfl))
 obtain ⟨l, e, ⟨xs, hq⟩, q⟩ := q1
 subst e
 obtain ⟨u, rfl, ru⟩ := r1.one
 cases ru
 obtain ⟨its, rv, pl, hz⟩ := I1.list hq
 refine call_enumerate_list pl.isList fun h' e1 i1 z1 k1 => ?_
 have I2 : Inv X pins σ H1 { s1 with heap := h' } := I1.kept (t' := s1.toks) k1
 refine wpAny_pyIter_enum (s := { s1 with heap := h' }) e1 ?_
 refine ⟨s1.heap.objs.size + 1, [s1.heap.objs.size + 1, s1.heap.objs.size], _, _, H1, rfl, I2, turn_enum l (s1.heap.objs.size + 1) s1.heap.objs.size (Nat.succ_ne_self _), ⟨⟨.none, e1⟩, i1⟩, fun b hb => ?_, q⟩
 rcases List.mem_cons.mp hb with z | z
 ·subst z; exact I1.fpOk (Nat.le_succ _) (I1.hok.fresh (Nat.le_succ _))
 ·have z' : b = s1.heap.objs.size := by simpa using z
  subst z'; exact I1.fpOk (Nat.le_refl _) (I1.hok.fresh (Nat.le_refl _))
theorem strsAre_of : ∀ {ys : List Str} {us : List Value}, Vals (ys.map V.str) us -> StrsAre us ys := by
 intro ys
 induction ys with
 | nil => intro us r; cases r; exact .nil
 | cons y ys ih =>
  intro us r
  cases r with
  | cons q qs =>
   obtain ⟨t, rfl⟩ := q
   exact .cons _ _ (ih qs)
def rJoin (K : Frag) : V -> List V -> Hp -> VK -> Prop := fun x vs H Q => ∃ (z : Str) (p : Addr) (ys : List Str), x = .str z /\ vs = [.ref p] /\ (SqL K H p (ys.map V.str) \/ SqT K H p (ys.map V.str)) /\ (ys.map (·.length)).sum + ys.length * z.length <= 1000000 /\ Q (.str (Txt.join z ys)) H
theorem mt_join : MtR X "str.join" (rJoin X.K) := by
 intro pins s σ H x xs v us Q I rx rv h
 obtain ⟨z, p, ys, rfl, rfl, hp, hz, q⟩ := h
 obtain ⟨t, rfl⟩ := rx
 obtain ⟨u, rfl, ru⟩ := rv.one
 cases ru
 rcases hp with hp | hp
 ·obtain ⟨its, r, pl, _⟩ := I.list hp
  exact join_list pl.isList (by simpa using strsAre_of r) (by omega) fun t' k => ⟨.str _, H, I.tok _, ⟨_, rfl⟩, q⟩
 ·obtain ⟨its, r, pl, _⟩ := I.tuple hp
  exact join_tuple pl (by simpa using strsAre_of r) (by omega) fun t' k => ⟨.str _, H, I.tok _, ⟨_, rfl⟩, q⟩
def rSlS : V -> Option Int -> Option Int -> Hp -> VK -> Prop := fun x lo hi H Q => ∃ z : Str, x = .str z /\ z.length <= 1000000 /\ Q (.str (Txt.slice z lo hi)) H
theorem sl_str : SlR X rSlS := by
 intro pins s σ H x v vl vu lo hi sl Q I rx hs pl pu h
 obtain ⟨z, rfl, hz, q⟩ := h
 obtain ⟨t, rfl⟩ := rx
 have fz : (Txt.slice z lo hi).length <= sizeLine := Nat.le_trans (Txt.slice_le z _ _) (by rw [sizeLine_eq]; omega)
 refine ⟨"str", _, PySem.F.slot_str_getitem.lookup, typeIs_str _ _ _, ?_⟩
 cases pl with
 | none =>
  cases pu with
  | none => exact wpAny_getItem_str_slice (l := none) (u := none) (st := none) hs rfl (post_val_or_str ⟨fz, fun t' k => ⟨.str _, H, I.tok _, ⟨_, rfl⟩, q⟩⟩)
  | int j tj => exact wpAny_getItem_str_slice (l := none) (u := some (j, tj)) (st := none) hs rfl (post_val_or_str ⟨fz, fun t' k => ⟨.str _, H, I.tok _, ⟨_, rfl⟩, q⟩⟩)
 | int i ti =>
  cases pu with
  | none => exact wpAny_getItem_str_slice (l := some (i, ti)) (u := none) (st := none) hs rfl (post_val_or_str ⟨fz, fun t' k => ⟨.str _, H, I.tok _, ⟨_, rfl⟩, q⟩⟩)
  | int j tj => exact wpAny_getItem_str_slice (l := some (i, ti)) (u := some (j, tj)) (st := none) hs rfl (post_val_or_str ⟨fz, fun t' k => ⟨.str _, H, I.tok _, ⟨_, rfl⟩, q⟩⟩)
end
def CW (Pv : Nat -> List V -> St -> Hp -> Prop) (n i m : Nat) (ys : List V) (τ : St) (H : Hp) : Prop := m = n - i /\ i <= n /\ Pv i ys τ H
theorem cw_next {Pv : Nat -> List V -> St -> Hp -> Prop} {n i : Nat} {ys : List V} {τ : St} {H : Hp} (h : i < n) (p : Pv (i + 1) ys τ H) : ∃ m', m' < n - i /\ CW Pv n (i + 1) m' ys τ H := ⟨n - (i + 1), by omega, rfl, h, p⟩
theorem comp_range {lo : Int} {n : Nat} {g : TG} {ti : TT} {te : TE} {τ0 : St} {Q : VK} {p : Addr} {H1 : Hp} (Pv : Nat -> List V -> St -> Hp -> Prop) (h0 : Pv 0 [] τ0 (upd H1 p (.lst []))) (hl : ∀ i ys τ H, Pv i ys τ H -> H p = some (.lst ys))
  (hs : ∀ i ys τ H, i < n -> Pv i ys τ H -> g (.int (lo + i)) τ H fun τ4 H4 => ti τ4 H4 fun b H5 => if b = true then te τ4 H5 fun y H6 => H6 p = some (.lst ys) /\ ys.length < sizeLine /\ ∃ m', m' < n - i /\ CW Pv n (i + 1) m' (ys ++ [y]) τ4 (upd H6 p (.lst (ys ++ [y]))) else ∃ m', m' < n - i /\ CW Pv n (i + 1) m' ys τ4 H5)
  (hd : ∀ ys τ H, Pv n ys τ H -> Q (.ref p) H) : CompW (Itr lo n) g ti te τ0 Q p H1 := by
 refine ⟨CW Pv n, ⟨n, by simp, Nat.zero_le _, h0⟩, ?_⟩
 rintro i m ys τ H ⟨rfl, hi, pv⟩
 refine ⟨hl i ys τ H pv, ?_⟩
 by_cases hlt : i < n
 ·refine .inr ⟨hlt, fun x H3 y3 => ?_⟩
  obtain ⟨e3, ex⟩ := y3
  subst e3 ex
  exact hs i ys τ _ hlt pv
 ·have e : i = n := by omega
  subst e
  exact .inl ⟨Nat.le_refl _, hd ys τ H pv⟩
theorem comp_list {K : Frag} {a : Addr} {xs : List V} {g : TG} {ti : TT} {te : TE} {τ0 : St} {Q : VK} {p : Addr} {H1 : Hp} (Pv : Nat -> List V -> St -> Hp -> Prop) (h0 : Pv 0 [] τ0 (upd H1 p (.lst []))) (hl : ∀ i ys τ H, Pv i ys τ H -> H p = some (.lst ys) /\ SqL K H a xs)
  (hs : ∀ i x ys τ H, xs[i]? = some x -> Pv i ys τ H -> g x τ H fun τ4 H4 => ti τ4 H4 fun b H5 => if b = true then te τ4 H5 fun y H6 => H6 p = some (.lst ys) /\ ys.length < sizeLine /\ ∃ m', m' < xs.length - i /\ CW Pv xs.length (i + 1) m' (ys ++ [y]) τ4 (upd H6 p (.lst (ys ++ [y]))) else ∃ m', m' < xs.length - i /\ CW Pv xs.length (i + 1) m' ys τ4 H5)
  (hd : ∀ ys τ H, Pv xs.length ys τ H -> Q (.ref p) H) : CompW (Itl K a) g ti te τ0 Q p H1 := by
 refine ⟨CW Pv xs.length, ⟨xs.length, by simp, Nat.zero_le _, h0⟩, ?_⟩
 rintro i m ys τ H ⟨rfl, hi, pv⟩
 obtain ⟨hp, hq⟩ := hl i ys τ H pv
 refine ⟨hp, ?_⟩
 by_cases hlt : i < xs.length
 ·refine .inr ⟨⟨xs, xs[i], hq, by simp [hlt]⟩, fun x H3 y3 => ?_⟩
  obtain ⟨e3, ex⟩ := y3
  subst e3
  exact hs i x ys τ _ (ex xs hq) pv
 ·have e : i = xs.length := by omega
  subst e
  exact .inl ⟨⟨xs, hq, Nat.le_refl _⟩, hd ys τ H pv⟩
theorem comp_tup {K : Frag} {a : Addr} {xs : List V} {g : TG} {ti : TT} {te : TE} {τ0 : St} {Q : VK} {p : Addr} {H1 : Hp} (Pv : Nat -> List V -> St -> Hp -> Prop) (h0 : Pv 0 [] τ0 (upd H1 p (.lst []))) (hl : ∀ i ys τ H, Pv i ys τ H -> H p = some (.lst ys) /\ SqT K H a xs)
  (hs : ∀ i x ys τ H, xs[i]? = some x -> Pv i ys τ H -> g x τ H fun τ4 H4 => ti τ4 H4 fun b H5 => if b = true then te τ4 H5 fun y H6 => H6 p = some (.lst ys) /\ ys.length < sizeLine /\ ∃ m', m' < xs.length - i /\ CW Pv xs.length (i + 1) m' (ys ++ [y]) τ4 (upd H6 p (.lst (ys ++ [y]))) else ∃ m', m' < xs.length - i /\ CW Pv xs.length (i + 1) m' ys τ4 H5)
  (hd : ∀ ys τ H, Pv xs.length ys τ H -> Q (.ref p) H) : CompW (Itt K a) g ti te τ0 Q p H1 := by
 refine ⟨CW Pv xs.length, ⟨xs.length, by simp, Nat.zero_le _, h0⟩, ?_⟩
 rintro i m ys τ H ⟨rfl, hi, pv⟩
 obtain ⟨hp, hq⟩ := hl i ys τ H pv
 refine ⟨hp, ?_⟩
 by_cases hlt : i < xs.length
 ·refine .inr ⟨⟨xs, xs[i], hq, by simp [hlt]⟩, fun x H3 y3 => ?_⟩
  obtain ⟨e3, ex⟩ := y3
  subst e3
  exact hs i x ys τ _ (ex xs hq) pv
 ·have e : i = xs.length := by omega
  subst e
  exact .inl ⟨⟨xs, hq, Nat.le_refl _⟩, hd ys τ H pv⟩
def fvOk (N N' : List Str) (ixs : List (Option Nat)) (sc : Scope) : Bool := (List.range ixs.length).all fun j => match ixs[j]? with
 | some (some i) => (match N[i]? with | some x => N'[j]? == some x && sc.names.lookup x == some .free | none => false)
 | _ => true
theorem fv_of {N N' : List Str} {ixs : List (Option Nat)} {sc : Scope} (h : fvOk N N' ixs sc = true) (j i : Nat) (e : ixs[j]? = some (some i)) : ∃ x, N[i]? = some x /\ N'[j]? = some x /\ sc.names.lookup x = some .free := by
 have hj : j < ixs.length := (List.getElem?_eq_some_iff.mp e).1
 have z := List.all_eq_true.mp h j (List.mem_range.mpr hj)
 rw [e] at z
 dsimp only at z
 split at z
 ·rename_i x q
  obtain ⟨z1, z2⟩ := Bool.and_eq_true_iff.mp z
  exact ⟨x, q, beq_iff_eq.mp z1, beq_iff_eq.mp z2⟩
 ·cases z
structure Nm (x : Str) : Prop where
 lo : 1 <= x.length
 hi : x.length <= 8
 az : ∀ c ∈ x.cps.toList, 97 <= c /\ c <= 122
def sign (c : Nat) : Str := ⟨#[c]⟩
theorem fold_signs : ∀ (cs : List Nat) (acc : Array Nat), (cs.map sign).foldl (fun acc p => acc ++ ("" : Str).cps ++ p.cps) acc = acc ++ cs.toArray
 | [], acc => by simp
 | c :: cs, acc => by
  rw [List.map_cons, List.foldl_cons, fold_signs cs]
  have e : ("" : Str).cps = #[] := rfl
  rw [e]
  apply Array.toList_inj.mp
  simp [sign]
theorem join_signs (cs : List Nat) : Txt.join ("" : Str) (cs.map sign) = ⟨cs.toArray⟩ := by
 unfold Txt.join Builtin.Str.glued
 cases cs with
 | nil => rfl
 | cons c cs =>
  rw [List.map_cons]
  show (⟨(cs.map sign).foldl _ (sign c).cps⟩ : Str) = _
  rw [fold_signs]
  apply congrArg Str.mk
  apply Array.toList_inj.mp
  simp [sign]
theorem slice6_mem {z : Str} {c : Nat} (h : c ∈ (Txt.slice z none (some 6)).cps.toList) : c ∈ z.cps.toList := by
 unfold Txt.slice at h
 split at h
 ·exact h
 ·simp only [List.mem_filterMap] at h
  obtain ⟨i, _, e⟩ := h
  obtain ⟨_, e2⟩ := Array.getElem?_eq_some_iff.mp e
  rw [<- e2]; simp
theorem slice6_len (z : Str) : (Txt.slice z none (some 6)).length <= 6 := by
 have hi : (Builtin.Str.strSliceIndices none (some 6) 1 z.length).length <= 6 := by
  unfold Builtin.Str.strSliceIndices sliceRange
  simp only [show (1 : Int) > 0 by decide, if_true, List.length_map, List.length_range]
  split <;> (try split) <;> omega
 unfold Txt.slice
 split
 ·rename_i h
  have e : (Builtin.Str.strSliceIndices none (some 6) 1 z.length).length = z.length := by simpa using h
  omega
 ·show (List.filterMap _ _).toArray.size <= 6
  rw [List.size_toArray]
  exact Nat.le_trans (List.length_filterMap_le _ _) hi
theorem strApp (a b : Str) : (a ++ b).cps = a.cps ++ b.cps := rfl
theorem cand_nm {z : Str} {c : Nat} (hz : ∀ c ∈ z.cps.toList, 97 <= c /\ c <= 122) (hc : 97 <= c /\ c <= 122) : Nm (Txt.slice z none (some 6) ++ sign c ++ ("q" : Str)) := by
 have hq : ("q" : Str).cps = #[113] := by decide +kernel
 have hl := slice6_len z
 have e : (Txt.slice z none (some 6) ++ sign c ++ ("q" : Str)).length = (Txt.slice z none (some 6)).length + 2 := by
  show (_ : Array Nat).size = _
  rw [strApp, strApp, hq]
  show (_ ++ #[c] ++ #[113]).size = _
  rw [Array.size_append, Array.size_append]; rfl
 refine ⟨by omega, by omega, fun d hd => ?_⟩
 rw [strApp, strApp, hq] at hd
 have hd' : d ∈ (Txt.slice z none (some 6)).cps.toList \/ d = c \/ d = 113 := by
  have : d ∈ ((Txt.slice z none (some 6)).cps ++ #[c] ++ #[113]).toList := hd
  simp at this
  rcases this with h | h | h
  ·exact .inl (by simpa using h)
  ·exact .inr (.inl h)
  ·exact .inr (.inr h)
 rcases hd' with h | h | h
 ·exact hz d (slice6_mem h)
 ·rw [h]; exact hc
 ·rw [h]; omega
theorem cand_inj {p : Str} {c d : Nat} (h : p ++ sign c ++ ("q" : Str) = p ++ sign d ++ ("q" : Str)) : c = d := by
 have h1 := congrArg (fun s : Str => s.cps.toList) h
 simp only [strApp] at h1
 have h2 : p.cps.toList ++ ([c] ++ ("q" : Str).cps.toList) = p.cps.toList ++ ([d] ++ ("q" : Str).cps.toList) := by
  simpa [sign, Array.toList_append] using h1
 have h3 := List.append_cancel_left h2
 simpa using h3
theorem pigeon : ∀ {ys found : List Str}, ys.Nodup -> found.length < ys.length -> ∃ y ∈ ys, y ∉ found
 | [], found, _, h => by simp at h
 | y :: ys, found, nd, h => by
  obtain ⟨n1, n2⟩ := List.nodup_cons.mp nd
  by_cases hy : y ∈ found
  ·have hl := List.length_erase_of_mem hy
   have hp := List.length_pos_of_mem hy
   obtain ⟨z, hz, hn⟩ := pigeon (found := found.erase y) n2 (by rw [hl]; rw [List.length_cons] at h; omega)
   refine ⟨z, List.mem_cons_of_mem _ hz, fun q => hn ?_⟩
   have ne : z ≠ y := fun e => n1 (by rw [<- e]; exact hz)
   exact (List.mem_erase_of_ne ne).mpr q
  ·exact ⟨y, List.mem_cons_self, hy⟩
end L2
namespace L2
open PySem PySem.Spec PyProof.Rows PySem.W
section
variable {X : Cx}
theorem op_in_K (K : Frag) (h : X.K = K) : OpR X (compareOp .In) (rIn K false) := by subst h; exact op_in_seq
theorem op_notIn_K (K : Frag) (h : X.K = K) : OpR X (compareOp .NotIn) (rIn K true) := by subst h; exact op_notIn_seq
theorem ix_list_K (K : Frag) (h : X.K = K) : IxR X (rIxL K) := by subst h; exact ix_list
theorem ix_tup_K (K : Frag) (h : X.K = K) : IxR X (rIxT K) := by subst h; exact ix_tup
theorem pi_list_K {tg l : Expr} {tl : TE} (K : Frag) (h : X.K = K) (hl : PE X l tl) : PI X tg l (iList K tl) := by subst h; exact pi_list hl
theorem pi_tup_K {tg l : Expr} {tl : TE} (K : Frag) (h : X.K = K) (hl : PE X l tl) : PI X tg l (iTup K tl) := by subst h; exact pi_tup hl
end
theorem inV_strs (x : Str) (ys : List Str) : inV (.str x) (ys.map V.str) = decide (x ∈ ys) := by
 unfold inV
 rw [List.any_map]
 induction ys with
 | nil => simp
 | cons y ys ih =>
  rw [List.any_cons, ih]
  show ((y == x) || decide (x ∈ ys)) = decide (x ∈ y :: ys)
  by_cases h : y = x
  ·subst h; simp
  ·have h' : (y == x) = false := beq_eq_false_iff_ne.mpr h
   rw [h', Bool.false_or]
   have : x ∈ y :: ys ↔ x ∈ ys := by simp [Ne.symm h]
   simp [this]
theorem flat_strs (ys : List Str) : (ys.map V.str).all flatV = true := by
 rw [List.all_eq_true]
 intro v hv
 obtain ⟨y, _, rfl⟩ := List.mem_map.mp hv
 rfl
end L2
namespace L2
open PySem PySem.Spec PyProof.Rows PySem.W
end L2
namespace L2
open PySem PySem.Spec PyProof.Rows PySem.W
section
variable {P : Program} {w : World} {A : Around} {R : Result -> Shared -> Prop}
theorem any_tups {it l : Addr} {its : Array Value} {g : Heap} (tr : Nat -> Bool) (hh : A.in1.handled = none) (hne : l ≠ it) (hl : g.IsList l its)
  (ht : ∀ i v, its[i]? = some v -> ∃ a ws, v = .ref a /\ a ≠ it /\ IsTup g a ws /\ ws.size <= sizeLine /\ tr i = !ws.isEmpty) : ∀ (k i : Nat) (s : Shared), its.size - i = k -> i <= its.size -> (∀ b o, b ≠ it -> g.get? b = some o -> s.heap.get? b = some o) -> s.heap.IsListIter it l i ->
  (∀ h' tk, (∀ b o, b ≠ it -> g.get? b = some o -> h'.get? b = some o) -> R (.ok (.ret (.bool (((List.range its.size).drop i).any tr)))) { s with heap := h', toks := tk }) ->
  codeAny (model P w) A (.builtin "any.loop" ⟨[.ref it], []⟩) R s := by
 intro k
 induction k with
 | zero =>
  intro i s hk hi kp hit hR
  obtain rfl : i = its.size := by omega
  refine codeAny_builtin F.entry_any_loop (?_ : wpAny _ _ _ _ _ _)
  rw [show A.under (.builtin "any.loop" ⟨[.ref it], []⟩) = A.in1 from Around.under_plainId F.plain_any_loop _]
  show wpAny _ _ (pyNext (.ref it) >>= _) _ _ s
  have hl' : s.heap.IsList l its := hl.at fun o e => kp l o hne e
  refine wpAny_bind (wpAny_pyNext_list_end hh hit hl' (by simp) fun h' ex => wpAny_bind (wpAny_rule (wpAny_pure ?_)))
  have := hR h' s.toks fun b o n e => ex b o n (kp b o n e)
  rw [List.drop_of_length_le (by simp)] at this
  exact this
 | succ k ih =>
  intro i s hk hi kp hit hR
  have hlt : i < its.size := by omega
  have hd : (List.range its.size).drop i = i :: (List.range its.size).drop (i + 1) := by rw [List.drop_eq_getElem_cons (by simpa using hlt), List.getElem_range]
  refine codeAny_builtin F.entry_any_loop (?_ : wpAny _ _ _ _ _ _)
  rw [show A.under (.builtin "any.loop" ⟨[.ref it], []⟩) = A.in1 from Around.under_plainId F.plain_any_loop _]
  show wpAny _ _ (pyNext (.ref it) >>= _) _ _ s
  have hl' : s.heap.IsList l its := hl.at fun o e => kp l o hne e
  have hx : its[i]? = some its[i] := by simp [hlt]
  obtain ⟨a, ws, ea, na, htup, hz, htr⟩ := ht i _ hx
  refine wpAny_bind (wpAny_pyNext_list_item hit hl' hx fun h' hit' sb => ?_)
  have kp' : ∀ b o, b ≠ it -> g.get? b = some o -> h'.get? b = some o := fun b o n e => sb.extBut b o n (kp b o n e)
  have htup' : IsTup h' a ws := by
   obtain ⟨o, ho, r⟩ := htup
   exact ⟨o, kp' a o na ho, r⟩
  rw [ea]
  refine wpAny_bind (wpAny_holding (truthy_tuple (s := { s with heap := h' }) htup' (by rw [sizeLine_eq] at hz; omega) (wpAny_bind (wpAny_letGo ?_))))
  rw [<- htr]
  cases hb : tr i with
  | false =>
   refine wpAny_pure ⟨plainId_quiet F.plain_any_loop _, ih (i + 1) _ (by omega) hlt kp' hit' fun h2 tk2 k2 => ?_⟩
   have := hR h2 tk2 k2
   rw [hd, List.any_cons, hb, Bool.false_or] at this
   exact this
  | true =>
   refine wpAny_bind (wpAny_rule (wpAny_pure ?_))
   have := hR h' (s.toks + 1 + 1) kp'
   rw [hd, List.any_cons, hb, Bool.true_or] at this
   exact this
end
section
variable {X : Cx}
theorem call_anyT (hc : X.calm = true) : CallR X (.builtin "any") (fun xs H Q => ∃ (p : Addr) (ys : List V) (rs : List (List V)), xs = [.ref p] /\ SqL X.K H p ys /\ Paired (fun y r => ∃ a, y = V.ref a /\ SqT X.K H a r) ys rs /\ Q (.bl (rs.any fun r => !r.isEmpty)) H) := by
 intro pins s σ H xs us Q I r h
 obtain ⟨p, ys, rs, rfl, hq, pr, q⟩ := h
 obtain ⟨u, rfl, rx⟩ := vals1 r
 cases rx
 obtain ⟨its, rv, pl, hz⟩ := I.list hq
 have hlen := rv.length
 have all : ∀ i v, its[i]? = some v -> ∃ a ws, v = .ref a /\ IsTup s.heap a ws /\ ws.size <= sizeLine /\ (rs.map fun r => !r.isEmpty).getD i false = !ws.isEmpty := by
  intro i v e
  clear q hq pl hz r
  induction rv generalizing rs i with
  | nil => simp at e
  | cons r1 rt ih =>
   cases pr with
   | cons p1 pt =>
    cases i with
    | zero =>
     simp at e
     subst e
     obtain ⟨a, rfl, ha⟩ := p1
     cases r1
     obtain ⟨ws, r2, ht, hz2⟩ := I.tuple ha
     have hl2 := r2.length
     exact ⟨a, _, rfl, ht, by rw [List.size_toArray]; omega, by rw [isEmpty_of r2]; rfl⟩
    | succ i => exact ih _ pt (by simpa using hlen) i (by simpa using e)
 have hsz : its.toArray.size = rs.length := by rw [List.size_toArray, <- hlen]; exact Paired.length pr
 have fin : (List.range its.toArray.size).any (fun i => (rs.map fun r => !r.isEmpty).getD i false) = rs.any fun r => !r.isEmpty := by
  rw [hsz]
  apply Bool.eq_iff_iff.mpr
  simp only [List.any_eq_true, List.mem_range]
  constructor
  ·rintro ⟨i, hi, e⟩
   refine ⟨rs[i], List.getElem_mem hi, ?_⟩
   simpa [List.getD, hi] using e
  ·rintro ⟨r, hr, e⟩
   obtain ⟨i, hi, rfl⟩ := List.getElem_of_mem hr
   exact ⟨i, hi, by simpa [List.getD, hi] using e⟩
 refine call_function_tree F.kind_any F.plain_any F.entry_any (F.args_any1 (.ref p)) (?_ : wpAny _ _ _ _ _ _)
 unfold Builtin.«any»
 refine wpAny_bind (m := oneArg "any" _) (wpAny_pure (wpAny_bind (wpAny_pyIter_list pl.isList ?_)))
 have new : ∀ b o, s.heap.get? b = some o -> b ≠ s.heap.objs.size := fun b o e => Nat.ne_of_lt (Heap.lt_size e)
 obtain ⟨ol, hol, _⟩ := id pl.isList
 refine wpAny_pure ⟨plainId_quiet F.plain_any_loop _, any_tups (g := s.heap) (fun i => (rs.map fun r => !r.isEmpty).getD i false) (I.ok.hd hc) (new p ol hol) pl.isList (fun i v e => ?_) _ 0 _ rfl (Nat.zero_le _) (fun b o n e => Heap.get?_push_of_some _ e) ⟨_, Heap.get?_push_size _ rfl, rfl, rfl⟩ fun h' tk kp => ?_⟩
 ·obtain ⟨a, ws, ea, ht, hz2, e2⟩ := all i v (by simpa using e)
  obtain ⟨o, ho, _⟩ := id ht
  exact ⟨a, ws, ea, new a o ho, ht, hz2, e2⟩
 ·rw [List.drop_zero, fin]
  exact ⟨.bl _, H, I.kept (t' := tk) fun b o e => kp b o (new b o e) e, rfl, q⟩
end
section
variable {X : Cx}
theorem call_allB (hc : X.calm = true) : CallR X (.builtin "all") (fun xs H Q => ∃ (p : Addr) (bs : List Bool), xs = [.ref p] /\ SqL X.K H p (bs.map V.bl) /\ Q (.bl (bs.all id)) H) := by
 intro pins s σ H xs us Q I r h
 obtain ⟨p, bs, rfl, hq, q⟩ := h
 obtain ⟨u, rfl, rx⟩ := vals1 r
 cases rx
 obtain ⟨its, rv, pl, hz⟩ := I.list hq
 have hlen := rv.length
 have vals : its = bs.map Value.bool := by
  clear q hq pl hz r hlen
  induction bs generalizing its with
  | nil => cases rv; rfl
  | cons b bs ih =>
   cases rv with
   | cons r1 rt => cases r1; rw [ih _ rt]; rfl
 have new : ∀ b o, s.heap.get? b = some o -> b ≠ s.heap.objs.size := fun b o e => Nat.ne_of_lt (Heap.lt_size e)
 obtain ⟨ol, hol, _⟩ := id pl.isList
 refine call_all_walk (wpAny_pyIter_list pl.isList ?_)
 refine ⟨s.heap.objs.size, _, _, _, _, _, fun i => bs.getD i true, rfl, Walks.list (A := X.A.in1) (I.ok.hd hc) s.heap.objs.size p (new p ol hol) its.toArray, ⟨⟨_, Heap.get?_push_size _ rfl, rfl, rfl⟩, pl.isList.at fun o e => Heap.get?_push_of_some _ e⟩, fun i v s2 Q2 E2 hv hq2 => ?_, fun h' tk kp => ?_⟩
 ·rw [vals] at hv
  have : bs[i]?.map Value.bool = some v := by simpa using hv
  obtain ⟨b, hb, rfl⟩ := Option.map_eq_some_iff.mp this
  refine wpAny_truthy_bool ?_
  have e : bs.getD i true = b := by rw [List.getD_eq_getElem?_getD, hb]; rfl
  exact e ▸ hq2
 ·have fin : (List.range its.toArray.size).all (fun i => bs.getD i true) = bs.all id := by
   have hs : its.toArray.size = bs.length := by rw [vals]; simp
   rw [hs]
   apply Bool.eq_iff_iff.mpr
   simp only [List.all_eq_true, List.mem_range]
   constructor
   ·intro h b hb
    obtain ⟨i, hi, rfl⟩ := List.getElem_of_mem hb
    simpa [List.getD, hi] using h i hi
   ·intro h i hi
    simpa [List.getD, hi] using h bs[i] (List.getElem_mem hi)
  rw [fin]
  exact ⟨.bl _, H, I.kept (t' := tk) fun b o e => kp b o (by simpa using new b o e) (Heap.get?_push_of_some _ e), rfl, q⟩
end
section
variable {X : Cx} {e : Expr} {te : TE} {pos p2 p3 p4 : Pos} {k : Nat}
def tRev (K : Frag) (te : TE) : TE := fun σ H Q => te σ H fun x H2 => ∃ (l : Addr) (xs : List V), x = .ref l /\ SqL K H2 l xs /\ ∀ p, H2 p = none -> Q (.ref p) (upd H2 p (.lst xs.reverse))
theorem pe_rev (he : PE X e te) : PE X (.Subscript e (.Slice none none (some (.UnaryOp .USub (.Constant (.int 1) k p3) p4)) p2) pos) (tRev X.K te) := by
 intro pins s σ H Q I h
 refine Subscript_ (thn (he pins s σ H _ I h) fun v s1 ⟨x, H1, I1, r1, l, xs, ex, hx, q⟩ => ?_)
 subst ex
 cases r1
 refine wpAny_Slice ?_
 rw [evalPart_none]
 refine wpAny_pure (wpAny_pure ?_)
 refine thn (po_some (pe_un un_neg pe_int) pins s1 σ H1 (fun o H' => o = some (-1) /\ H' = H1) I1 ⟨_, rfl, _, rfl, rfl, rfl⟩) fun vs s4 ⟨o, H4, I4, ps, eo, eH⟩ => ?_
 subst eo eH
 have I5 : Inv X pins σ H4 { s4 with heap := s4.heap.push { cls := .type "slice", data := .fields #[.none, .none, vs] } } := I4.kept (t' := s4.toks) fun b ob z => Heap.get?_push_of_some _ z
 obtain ⟨its, r, ht, hz⟩ := I5.list hx
 have hlen := r.length
 refine tail_any (ops := _) ht.isList.typeIs slot_list_getitem.lookup ?_ (by with_unfolding_all rfl)
 refine wpAny_getItem_list_slice ht.isList (Heap.IsSliceOf.new ..) .none .none ps (by decide) ?_ (by rw [List.size_toArray]; omega)
 rw [krv_pick]
 refine ⟨.ref _, _, I5.laid (t' := s4.toks) (o := .lst xs.reverse) (fun b ob z => Heap.get?_push_of_some _ z) (Nat.le_refl _) ?_, rfl, q _ (I5.hok.fresh (Nat.le_refl _))⟩
 exact ⟨by rw [List.length_reverse]; exact hz, its.reverse, 0, r.reverse, Heap.get?_push_size _ rfl⟩
end
end L2
namespace L2
open PySem PySem.Spec PyProof.Rows
section
variable {κ : Type} [DecidableEq κ]
def valV (kvs : List (κ × V)) (k : κ) : Option V := (kvs.find? fun kv => decide (kv.1 = k)).map (·.2)
def putK (kvs : List (κ × V)) (k : κ) (v : V) : List (κ × V) :=
 if (kvs.any fun kv => decide (kv.1 = k)) = true then kvs.map (fun kv => if kv.1 = k then (kv.1, v) else kv) else kvs ++ [(k, v)]
def dropK (kvs : List (κ × V)) (k : κ) : List (κ × V) := kvs.filter fun kv => decide (kv.1 ≠ k)
theorem valV_pos {p : κ × V} {r : List (κ × V)} {k : κ} (e : p.1 = k) : valV (p :: r) k = some p.2 := by simp [valV, List.find?_cons, e]
theorem valV_neg {p : κ × V} {r : List (κ × V)} {k : κ} (e : ¬ p.1 = k) : valV (p :: r) k = valV r k := by simp [valV, List.find?_cons, e]
theorem valV_any (k : κ) : ∀ kvs : List (κ × V), (kvs.any fun kv => decide (kv.1 = k)) = (valV kvs k).isSome
 | [] => rfl
 | p :: r => by
  rw [List.any_cons]
  by_cases e : p.1 = k
  ·simp only [valV_pos e, decide_eq_true e, Bool.true_or, Option.isSome_some]
  ·rw [valV_neg e, decide_eq_false e, Bool.false_or]; exact valV_any k r
theorem valV_map (k j : κ) (y : V) : ∀ kvs : List (κ × V), valV (kvs.map fun kv => if kv.1 = k then (kv.1, y) else kv) j = (valV kvs j).map fun x => if j = k then y else x
 | [] => rfl
 | p :: r => by
  have ih := valV_map k j y r
  rw [List.map_cons]
  by_cases h : p.1 = k
  ·rw [if_pos h]
   by_cases e : p.1 = j
   ·rw [valV_pos (p := (p.1, y)) e, valV_pos e, Option.map_some, if_pos (e.symm.trans h)]
   ·rw [valV_neg (p := (p.1, y)) e, valV_neg e, ih]
  ·rw [if_neg h]
   by_cases e : p.1 = j
   ·rw [valV_pos (p := p) e, valV_pos e, Option.map_some, if_neg (fun z => h (e.trans z))]
   ·rw [valV_neg (p := p) e, valV_neg e, ih]
theorem valV_snoc (k j : κ) (y : V) : ∀ kvs : List (κ × V), valV kvs k = none -> valV (kvs ++ [(k, y)]) j = if j = k then some y else valV kvs j
 | [], _ => by
  by_cases e : k = j
  ·rw [if_pos e.symm]; exact valV_pos (p := (k, y)) e
  ·rw [if_neg (fun z => e z.symm)]; exact valV_neg (p := (k, y)) e
 | p :: r, hn => by
  rw [List.cons_append]
  have hk : ¬ p.1 = k := fun z => by rw [valV_pos z] at hn; cases hn
  rw [valV_neg hk] at hn
  have ih := valV_snoc k j y r hn
  by_cases e : p.1 = j
  ·rw [valV_pos e, valV_pos e, if_neg (fun z => hk (e.trans z))]
  ·rw [valV_neg e, valV_neg e, ih]
theorem valV_put (kvs : List (κ × V)) (k j : κ) (y : V) : valV (putK kvs k y) j = if j = k then some y else valV kvs j := by
 unfold putK
 by_cases a : (kvs.any fun kv => decide (kv.1 = k)) = true
 ·rw [if_pos a, valV_map]
  rw [valV_any] at a
  by_cases e : j = k
  ·obtain ⟨x, hx⟩ := Option.isSome_iff_exists.mp a
   rw [if_pos e, e, hx, Option.map_some, if_pos rfl]
  ·rw [if_neg e]
   cases valV kvs j with
   | none => rfl
   | some x => rw [Option.map_some, if_neg e]
 ·rw [if_neg a]
  refine valV_snoc k j y kvs ?_
  rw [valV_any] at a
  cases q : valV kvs k with
  | none => rfl
  | some x => rw [q] at a; exact (a rfl).elim
theorem length_putK (kvs : List (κ × V)) (k : κ) (v : V) : (putK kvs k v).length <= kvs.length + 1 := by
 unfold putK
 split
 ·rw [List.length_map]; omega
 ·rw [List.length_append, List.length_cons, List.length_nil]; omega
theorem putK_new {kvs : List (κ × V)} {k : κ} (v : V) (h : valV kvs k = none) : putK kvs k v = kvs ++ [(k, v)] := by
 unfold putK
 rw [valV_any, h]
 exact if_neg (by decide)
theorem RelO.isSome_eq {o : Option V} {u : Option Value} (r : RelO o u) : o.isSome = u.isSome := by
 cases o with
 | none => cases u with
  | none => rfl
  | some _ => exact (show False from r).elim
 | some _ => cases u with
  | none => exact (show False from r).elim
  | some _ => rfl
theorem KV.val {kvs : List (κ × V)} {vs : List (κ × Value)} (r : KV kvs vs) (k : κ) : RelO (valV kvs k) (valueAt vs k) := by
 unfold KV at r
 induction r with
 | nil => exact True.intro
 | @cons p q ps qs h t ih =>
  obtain ⟨h1, h2⟩ := h
  by_cases e : p.1 = k
  ·have e' : q.1 = k := h1.symm.trans e
   have b : valueAt (q :: qs) k = some q.2 := by simp [valueAt, List.find?_cons, e']
   rw [valV_pos e, b]; exact h2
  ·have e' : ¬ q.1 = k := fun z => e (h1.trans z)
   have b : valueAt (q :: qs) k = valueAt qs k := by simp [valueAt, List.find?_cons, e']
   rw [valV_neg e, b]; exact ih
theorem KV.any {kvs : List (κ × V)} {vs : List (κ × Value)} (r : KV kvs vs) (k : κ) : (kvs.any fun kv => decide (kv.1 = k)) = vs.any fun kv => decide (kv.1 = k) := by
 unfold KV at r
 induction r with
 | nil => rfl
 | cons h t ih => rw [List.any_cons, List.any_cons, ih, h.1]
theorem KV.repl {kvs : List (κ × V)} {vs : List (κ × Value)} (r : KV kvs vs) (k : κ) {y : V} {u : Value} (ry : RelV y u) :
  KV (kvs.map fun kv => if kv.1 = k then (kv.1, y) else kv) (vs.map fun kv => if kv.1 = k then (kv.1, u) else kv) := by
 unfold KV at r ⊢
 induction r with
 | nil => exact .nil
 | @cons p q ps qs h t ih =>
  rw [List.map_cons, List.map_cons]
  refine .cons ?_ ih
  obtain ⟨h1, h2⟩ := h
  by_cases e : p.1 = k
  ·rw [if_pos e, if_pos (h1.symm.trans e)]; exact ⟨h1, ry⟩
  ·rw [if_neg e, if_neg (fun z => e (h1.trans z))]; exact ⟨h1, h2⟩
theorem KV.put {kvs : List (κ × V)} {vs : List (κ × Value)} (r : KV kvs vs) (k : κ) {y : V} {u : Value} (ry : RelV y u) : KV (putK kvs k y) (stored vs k u) := by
 unfold putK stored
 rw [r.any k]
 by_cases e : (vs.any fun kv => decide (kv.1 = k)) = true
 ·rw [if_pos e, if_pos e]; exact r.repl k ry
 ·rw [if_neg e, if_neg e]; exact Paired.snoc r ⟨rfl, ry⟩
theorem KV.keys {kvs : List (κ × V)} {vs : List (κ × Value)} (r : KV kvs vs) : kvs.map (·.1) = vs.map (·.1) := by
 unfold KV at r
 induction r with
 | nil => rfl
 | cons h t ih => rw [List.map_cons, List.map_cons, ih, h.1]
theorem KV.length {kvs : List (κ × V)} {vs : List (κ × Value)} (r : KV kvs vs) : kvs.length = vs.length := Paired.length r
theorem dropK_le (kvs : List (κ × V)) (k : κ) : (dropK kvs k).length <= kvs.length := List.length_filter_le _ _
end
theorem kV_is {P : Program} {w : World} {k : Key} {u : Value} (r : RelV (kV k) u) : (mixKind P w).is k u = true := by
 cases k with
 | inl i => obtain ⟨t, e⟩ := (show ∃ t, u = Value.int i t from r); subst e; exact mixKind_int P w i t
 | inr x => obtain ⟨t, e⟩ := (show ∃ t, u = Value.str x t from r); subst e; exact mixKind_str P w x t
theorem items_are {P : Program} {w : World} : ∀ {ks : List Key} {us : List Value}, Vals (ks.map kV) us -> ItemsAre (mixKind P w) ks us
 | [], _, r => by rw [List.map_nil] at r; cases r; exact .nil
 | k :: ks, _, r => by
  rw [List.map_cons] at r
  cases r with
  | cons h t => exact .cons (kV_is h) (items_are t)
abbrev KT (H : Hp) : List (List Key × V) -> List (List Key × Addr × Value) -> Prop := Paired fun p q => p.1 = q.1 /\ H q.2.1 = some (.tup (p.1.map kV)) /\ RelV p.2 q.2.2
theorem KT.val {H : Hp} {kvs : List (List Key × V)} {xs : List (List Key × Addr × Value)} (r : KT H kvs xs) (k : List Key) : RelO (valV kvs k) ((atKey xs k).map (·.2)) := by
 induction r with
 | nil => exact True.intro
 | @cons p q ps qs h t ih =>
  obtain ⟨h1, _, h2⟩ := h
  by_cases e : p.1 = k
  ·have e' : q.1 = k := h1.symm.trans e
   have b : atKey (q :: qs) k = some q.2 := by simp [atKey, List.find?_cons, e']
   rw [valV_pos e, b]; exact h2
  ·have e' : ¬ q.1 = k := fun z => e (h1.trans z)
   have b : atKey (q :: qs) k = atKey qs k := by simp [atKey, List.find?_cons, e']
   rw [valV_neg e, b]; exact ih
theorem KT.repl {H : Hp} {kvs : List (List Key × V)} {xs : List (List Key × Addr × Value)} (r : KT H kvs xs) (k : List Key) {y : V} {u : Value} (ry : RelV y u) :
  KT H (kvs.map fun kv => if kv.1 = k then (kv.1, y) else kv) (xs.map (putAt k u)) := by
 induction r with
 | nil => exact .nil
 | @cons p q ps qs h t ih =>
  rw [List.map_cons, List.map_cons]
  refine .cons ?_ ih
  obtain ⟨h1, h2, h3⟩ := h
  unfold putAt
  by_cases e : p.1 = k
  ·rw [if_pos e, if_pos (h1.symm.trans e)]; exact ⟨h1, h2, ry⟩
  ·rw [if_neg e, if_neg (fun z => e (h1.trans z))]; exact ⟨h1, h2, h3⟩
theorem KT.put {H : Hp} {kvs : List (List Key × V)} {xs : List (List Key × Addr × Value)} (r : KT H kvs xs) (k : List Key) {b : Addr} {y : V} {u : Value} (hb : H b = some (.tup (k.map kV))) (ry : RelV y u) :
  KT H (putK kvs k y) (storedH xs k b u) := by
 have e : (kvs.any fun kv => decide (kv.1 = k)) = (atKey xs k).isSome := by
  rw [valV_any, (r.val k).isSome_eq, Option.isSome_map]
 unfold putK storedH
 rw [e]
 by_cases q : (atKey xs k).isSome = true
 ·rw [if_pos q, if_pos q]; exact r.repl k ry
 ·rw [if_neg q, if_neg q]; exact Paired.snoc r ⟨rfl, hb, ry⟩
theorem KT.keeps {H H' : Hp} {kvs : List (List Key × V)} {xs : List (List Key × Addr × Value)} (r : KT H kvs xs) (ht : ∀ b ys, H b = some (.tup ys) -> H' b = some (.tup ys)) : KT H' kvs xs :=
 Paired.mapP r fun _ _ z => ⟨z.1, ht _ _ z.2.1, z.2.2⟩
section
variable {P : Program} {w : World} {H : Hp} {h : Heap} {a : Addr}
theorem rd_of {u : HO} (ok : HOk P w H h) (e : Rd H a u) : ObjOk P w H h a u := e.ok ok
theorem dk_rd {kvs : List (Key × V)} (ok : HOk P w H h) (e : Rd H a (.dK kvs)) : kvs.length <= sizeLine /\ (a == sysModules) = false /\ ∃ vs, KV kvs vs /\ h.DictOf (mixKind P w) a vs :=
 show ObjOk P w H h a (.dK kvs) from rd_of ok e
theorem dk_of {kvs : List (Key × V)} (ok : HOk P w H h) (e : H a = some (.dK kvs)) : kvs.length <= sizeLine /\ (a == sysModules) = false /\ ∃ vs, KV kvs vs /\ h.DictOf (mixKind P w) a vs := dk_rd ok (.inl e)
theorem key_of {ks : List Key} (ok : HOk P w H h) (e : H a = some (.tup (ks.map kV))) : (tupleKind (mixKind P w)).is h ks a := by
 obtain ⟨_, its, r, o, h1, h2, n, h3, _⟩ := (show ObjOk P w H h a (.tup (ks.map kV)) from ok a _ e)
 exact ⟨o, its.toArray, n, h1, h2, h3, by simpa using items_are r⟩
theorem dt_rd {kvs : List (List Key × V)} (ok : HOk P w H h) (e : Rd H a (.dT kvs)) : kvs.length <= sizeLine /\ (a == sysModules) = false /\
  ∃ xs, KT H kvs xs /\ h.DictOfH (tupleKind (mixKind P w)) a xs := by
 obtain ⟨z, y, xs, r, o, es, ep, h1, h2, h3, h4, h5⟩ := (show ObjOk P w H h a (.dT kvs) from rd_of ok e)
 refine ⟨z, y, xs, r, o, es, ep, h1, h2, h3, h4, fun x hx => ?_, h5⟩
 have all : ∀ {l : List (List Key × V)} {m : List (List Key × Addr × Value)}, KT H l m -> ∀ x ∈ m, (tupleKind (mixKind P w)).is h x.1 x.2.1 := by
  intro l m q
  induction q with
  | nil => intro x hx; exact nomatch hx
  | @cons p q ps qs hq t ih =>
   intro x hx
   rcases List.mem_cons.mp hx with e | hx
   ·subst e
    exact key_of ok (by rw [<- hq.1]; exact hq.2.1)
   ·exact ih x hx
 exact all r x hx
theorem dt_of {kvs : List (List Key × V)} (ok : HOk P w H h) (e : H a = some (.dT kvs)) : kvs.length <= sizeLine /\ (a == sysModules) = false /\
  ∃ xs, KT H kvs xs /\ h.DictOfH (tupleKind (mixKind P w)) a xs := dt_rd ok (.inl e)
end
def DGet (H : Hp) (a : Addr) (y : V) (r : Option V) : Prop :=
 (∃ kvs k, Rd H a (.dK kvs) /\ y = kV k /\ r = valV kvs k) \/ ∃ kvs k b, Rd H a (.dT kvs) /\ y = .ref b /\ H b = some (.tup (k.map kV)) /\ r = valV kvs k
def DPut (H : Hp) (a : Addr) (y v : V) (H' : Hp) : Prop :=
 (∃ kvs k, H a = some (.dK kvs) /\ y = kV k /\ kvs.length < sizeLine /\ H' = upd H a (.dK (putK kvs k v))) \/
 ∃ kvs k b, H a = some (.dT kvs) /\ y = .ref b /\ H b = some (.tup (k.map kV)) /\ kvs.length < sizeLine /\ H' = upd H a (.dT (putK kvs k v))
theorem DGet.k {H : Hp} {a : Addr} {kvs : List (Key × V)} {k : Key} (e : H a = some (.dK kvs)) : DGet H a (kV k) (valV kvs k) := .inl ⟨kvs, k, .inl e, rfl, rfl⟩
theorem DGet.t {H : Hp} {a b : Addr} {kvs : List (List Key × V)} {k : List Key} (e : H a = some (.dT kvs)) (eb : H b = some (.tup (k.map kV))) : DGet H a (.ref b) (valV kvs k) := .inr ⟨kvs, k, b, .inl e, rfl, eb, rfl⟩
theorem DPut.k {H : Hp} {a : Addr} {kvs : List (Key × V)} {k : Key} {v : V} (e : H a = some (.dK kvs)) (hl : kvs.length < sizeLine) : DPut H a (kV k) v (upd H a (.dK (putK kvs k v))) := .inl ⟨kvs, k, e, rfl, hl, rfl⟩
theorem DPut.t {H : Hp} {a b : Addr} {kvs : List (List Key × V)} {k : List Key} {v : V} (e : H a = some (.dT kvs)) (eb : H b = some (.tup (k.map kV))) (hl : kvs.length < sizeLine) :
  DPut H a (.ref b) v (upd H a (.dT (putK kvs k v))) := .inr ⟨kvs, k, b, e, rfl, eb, hl, rfl⟩
section
variable {X : Cx} {pins : List (Addr × Obj)} {σ : St} {H : Hp} {s : Shared} {a : Addr} {y v : V} {u r : Value} {o : Option V} {A : Around} {E : Value -> Shared -> Prop}
theorem Inv.big (I : Inv X pins σ H s) : sysModules < s.heap.objs.size := by
 have h : mainGlobals < s.heap.objs.size := (I.mod.glob.keeps I.bk).lt
 exact Nat.lt_trans (by decide) h
theorem d_getItem {Q : Value -> Shared -> Prop} (hu : A.units + 1 < cLine) (I : Inv X pins σ H s) (g : DGet H a y (some v)) (ry : RelV y u) (h : ∀ w' s', Inv X pins σ H s' -> RelV v w' -> Q w' s') :
  wpAny (model X.prog X.w) A (getItem (.ref a) u) Q E s := by
 rcases g with ⟨kvs, k, e, ey, l⟩ | ⟨kvs, k, b, e, ey, eb, l⟩
 ·subst ey
  obtain ⟨z, hd, vs, rel, dd⟩ := dk_rd I.hok e
  obtain ⟨w', hw, rw'⟩ := RelO.some_of (v := v) (o := valueAt vs k) (by rw [l]; exact rel.val k)
  exact wpAny_getItem_of (kV_is ry) dd.mapOf hw (h w' _ (I.tok _) rw')
 ·subst ey
  cases (show u = Value.ref b from ry)
  obtain ⟨z, hd, xs, rel, dd⟩ := dt_rd I.hok e
  obtain ⟨w', hw, rw'⟩ := RelO.some_of (v := v) (o := (atKey xs k).map (·.2)) (by rw [l]; exact rel.val k)
  obtain ⟨p, hp, hp2⟩ := Option.map_eq_some_iff.mp hw
  refine wpAny_getItem_heap (tupleKind_room_in1 hu) (key_of I.hok eb) dd hp ?_
  rw [hp2]
  exact h w' _ (I.tok _) rw'
theorem d_in {Q : Value -> Shared -> Prop} (hu : A.units + 1 < cLine) (I : Inv X pins σ H s) (g : DGet H a y o) (ry : RelV y u) (h : ∀ s', Inv X pins σ H s' -> Q (.bool o.isSome) s') :
  wpAny (model X.prog X.w) A (compareOp .In u (.ref a)) Q E s := by
 rcases g with ⟨kvs, k, e, ey, l⟩ | ⟨kvs, k, b, e, ey, eb, l⟩
 ·subst ey
  obtain ⟨z, hd, vs, rel, dd⟩ := dk_rd I.hok e
  refine wpAny_in_of (kV_is ry) hd dd.mapOf ?_
  rw [<- (rel.val k).isSome_eq, <- l]
  exact h _ (I.tok _)
 ·subst ey
  cases (show u = Value.ref b from ry)
  obtain ⟨z, hd, xs, rel, dd⟩ := dt_rd I.hok e
  refine wpAny_in_heap (tupleKind_room_in1 hu) (key_of I.hok eb) hd dd ?_
  have q := (rel.val k).isSome_eq
  rw [Option.isSome_map] at q
  rw [<- q, <- l]
  exact h _ (I.tok _)
theorem d_notIn {Q : Value -> Shared -> Prop} (hu : A.units + 1 < cLine) (I : Inv X pins σ H s) (g : DGet H a y o) (ry : RelV y u) (h : ∀ s', Inv X pins σ H s' -> Q (.bool (!o.isSome)) s') :
  wpAny (model X.prog X.w) A (compareOp .NotIn u (.ref a)) Q E s := by
 rcases g with ⟨kvs, k, e, ey, l⟩ | ⟨kvs, k, b, e, ey, eb, l⟩
 ·subst ey
  obtain ⟨z, hd, vs, rel, dd⟩ := dk_rd I.hok e
  refine wpAny_notIn_of (kV_is ry) hd dd.mapOf ?_
  rw [<- (rel.val k).isSome_eq, <- l]
  exact h _ (I.tok _)
 ·subst ey
  cases (show u = Value.ref b from ry)
  obtain ⟨z, hd, xs, rel, dd⟩ := dt_rd I.hok e
  refine wpAny_notIn_heap (tupleKind_room_in1 hu) (key_of I.hok eb) hd dd ?_
  have q := (rel.val k).isSome_eq
  rw [Option.isSome_map] at q
  rw [<- q, <- l]
  exact h _ (I.tok _)
theorem d_write {h' : Heap} {t' : Nat} {ob : HO} (I : Inv X pins σ H s) (mu : Mut (H a)) (hs : Heap.SameBut a s.heap h') (he : ∃ q, h'.get? a = some q) (new : ObjOk X.prog X.w (upd H a ob) h' a ob) :
  Inv X pins σ (upd H a ob) { s with heap := h', toks := t' } :=
 I.write (x := a) (e := a) mu (.inl rfl) (fun b q hb z => (hs.2 b hb).trans z) he new
theorem dk_new {P : Program} {w : World} {H' : Hp} {h' : Heap} {kvs : List (Key × V)} {vs : List (Key × Value)} (z : kvs.length <= sizeLine) (hd : (a == sysModules) = false) (rel : KV kvs vs) (dd : h'.DictOf (mixKind P w) a vs) :
  ObjOk P w H' h' a (.dK kvs) := ⟨z, hd, vs, rel, dd⟩
theorem d_setItem {H' : Hp} {Q : Unit -> Shared -> Prop} (hu : A.units + 1 < cLine) (I : Inv X pins σ H s) (g : DPut H a y v H') (ry : RelV y u) (rv : RelV v r) (h : ∀ s', Inv X pins σ H' s' -> Q () s') :
  wpAny (model X.prog X.w) A (setItem (.ref a) u r) Q E s := by
 rcases g with ⟨kvs, k, e, ey, l, eH⟩ | ⟨kvs, k, b, e, ey, eb, l, eH⟩
 ·subst ey eH
  obtain ⟨z, hd, vs, rel, dd⟩ := dk_of I.hok e
  have hz : vs.length <= sizeLine := by rw [<- rel.length]; exact z
  have hl : (putK kvs k v).length <= sizeLine := by have := length_putK kvs k v; omega
  refine wpAny_setItem_pairs (hsz := hz) (kV_is ry) dd fun h' dd' hs => h _ ?_
  have he : ∃ q, h'.get? a = some q := let ⟨q, _, _, hq, _⟩ := dd'; ⟨q, hq⟩
  exact d_write I (by rw [e]; exact True.intro) hs he (dk_new hl hd (rel.put k rv) dd')
 ·subst ey eH
  cases (show u = Value.ref b from ry)
  obtain ⟨z, hd, xs, rel, dd⟩ := dt_of I.hok e
  have hz : xs.length <= sizeLine := by rw [<- Paired.length rel]; exact z
  have hl : (putK kvs k v).length <= sizeLine := by have := length_putK kvs k v; omega
  refine wpAny_setItem_heap (hsz := hz) (tupleKind_room_in1 hu) (key_of I.hok eb) dd fun h' dd' hs => h _ ?_
  obtain ⟨q, es, ep, hq, h2, h3, h4, _, h5⟩ := dd'
  refine d_write I (by rw [e]; exact True.intro) hs ⟨q, hq⟩ ⟨hl, hd, _, (rel.put k eb rv).keeps fun c ys ec => ?_, q, es, ep, hq, h2, h3, h4, h5⟩
  rw [upd_ne (ne_of ec e (fun z => nomatch z))]
  exact ec
end
def NoSl (i : Expr) : Prop := ∀ ov iv, subscripted i false ov iv = operate [ov, iv] (getItem ov iv)
theorem subD_of {prog : Program} {w : World} {A : Around} {E : Value -> Shared -> Prop} {s : Shared} {env : Env} {value slice : Expr} {pos : Pos} {T id : String} {Q : Value -> Shared -> Prop}
  (hl : typeLookup (.type T) "__getitem__" = pure (some (.builtin id))) (hs : NoSl slice)
  (h : wpAny (model prog w) A (eval value env) (fun o s₁ => wpAny (model prog w) A (eval slice env) (fun i s₂ => s₂.TypeIs o T /\ wpAny (model prog w) A (getItem o i) Q E s₂) E s₁) E s) :
  wpAny (model prog w) A (eval (.Subscript value slice pos) env) Q E s := by
 refine Subscript_ (wpAny_mono h (fun o s₁ h₁ => wpAny_mono h₁ (fun i s₂ h₂ => ?_) fun _ _ x => x) fun _ _ x => x)
 obtain ⟨hT, h₂⟩ := h₂
 unfold subscriptTail
 refine wpAny_bind ?_
 rw [getitemInPython_of_ne hT.not_modules]
 refine wpAny_bind (wpAny_specialOf hT hl ?_)
 have fin : wpAny (model prog w) A (subscripted slice false o i) (fun r s₃ => wpAny (model prog w) A (letTemporaryGo value o r >>= fun _ => pure r) Q E s₃) E s₂ := by
  rw [hs o i]
  exact wpAny_operating (wpAny_mono h₂ (fun r s₃ h₃ => wpAny_bind (wpAny_letTemporaryGo (wpAny_pure h₃))) fun _ _ x => x)
 first
  | exact wpAny_pure (wpAny_bind fin)
  | exact wpAny_bind (wpAny_pure (wpAny_bind fin))
  | exact wpAny_bind fin
theorem dict_typeIs {X : Cx} {pins : List (Addr × Obj)} {σ : St} {H : Hp} {s : Shared} {a : Addr} {y : V} {o : Option V} (I : Inv X pins σ H s) (g : DGet H a y o) : s.TypeIs (.ref a) "dict" := by
 rcases g with ⟨kvs, k, e, _, _⟩ | ⟨kvs, k, b, e, _, _, _⟩
 ·obtain ⟨_, _, vs, _, dd⟩ := dk_rd I.hok e
  exact dd.typeIs
 ·obtain ⟨_, _, xs, _, dd⟩ := dt_rd I.hok e
  exact dd.typeIs
def tDGet (td ty : TE) : TE := fun σ H Q => td σ H fun x H1 => ty σ H1 fun y H2 => ∃ a v, x = .ref a /\ DGet H2 a y (some v) /\ Q v H2
def tDIn (ty td : TE) : TE := fun σ H Q => ty σ H fun y H1 => td σ H1 fun x H2 => ∃ a o, x = .ref a /\ DGet H2 a y o /\ Q (.bl o.isSome) H2
def tDNotIn (ty td : TE) : TE := fun σ H Q => ty σ H fun y H1 => td σ H1 fun x H2 => ∃ a o, x = .ref a /\ DGet H2 a y o /\ Q (.bl (!o.isSome)) H2
def sDPut (td ty tv : TE) : TS := fun D σ H => tv σ H fun v H1 => td σ H1 fun x H2 => ty σ H2 fun y H3 => ∃ a H4, x = .ref a /\ DPut H3 a y v H4 /\ D.nx σ H4
section
variable {X : Cx} {o i e value : Expr} {pos pos' tpos : Pos} {td ty tv : TE}
theorem pe_dget (hu : X.A.units + 1 < cLine) (ho : PE X o td) (hi : PE X i ty) (hs : NoSl i) : PE X (.Subscript o i pos) (tDGet td ty) := by
 intro pins s σ H Q I h
 refine subD_of PySem.F.slot_dict_getitem.lookup hs (thn (ho pins s σ H _ I h) fun u s1 ⟨x, H1, I1, rx, q1⟩ => thn (hi pins s1 σ H1 _ I1 q1) fun iv s2 ⟨y, H2, I2, ry, a, v, ex, g, q2⟩ => ?_)
 subst ex
 obtain rfl : u = Value.ref a := rx
 exact ⟨dict_typeIs I2 g, d_getItem hu I2 g ry fun w' s3 I3 rw' => ⟨v, H2, I3, rw', q2⟩⟩
theorem pc_din (hu : X.A.units + 1 < cLine) (hi : PE X i ty) (ho : PE X o td) : PC X .In i o (tDIn ty td) := by
 intro pins s σ H Q I h
 refine thn (hi pins s σ H _ I h) fun iv s1 ⟨y, H1, I1, ry, q1⟩ => thn (ho pins s1 σ H1 _ I1 q1) fun u s2 ⟨x, H2, I2, rx, a, ov, ex, g, q2⟩ => ?_
 subst ex
 obtain rfl : u = Value.ref a := rx
 exact d_in hu I2 g ry fun s3 I3 => ⟨.bl ov.isSome, H2, I3, rfl, q2⟩
theorem pc_dnotin (hu : X.A.units + 1 < cLine) (hi : PE X i ty) (ho : PE X o td) : PC X .NotIn i o (tDNotIn ty td) := by
 intro pins s σ H Q I h
 refine thn (hi pins s σ H _ I h) fun iv s1 ⟨y, H1, I1, ry, q1⟩ => thn (ho pins s1 σ H1 _ I1 q1) fun u s2 ⟨x, H2, I2, rx, a, ov, ex, g, q2⟩ => ?_
 subst ex
 obtain rfl : u = Value.ref a := rx
 exact d_notIn hu I2 g ry fun s3 I3 => ⟨.bl (!ov.isSome), H2, I3, rfl, q2⟩
theorem ps_dput (hu : X.A.units + 1 < cLine) (ho : PE X o td) (hi : PE X i ty) (hv : PE X value tv) (hs : swapsWith value (some (.Subscript o i pos')) pos.line X.env = pure false) :
  PS X (.Assign [.Subscript o i pos'] value pos) (sDPut td ty tv) := by
 intro pins s σ H D I h
 refine wpAny_Assign_Subscript (thn (hv pins s σ H _ I h) fun r s1 ⟨v, H1, I1, rv, q1⟩ => thn (ho pins s1 σ H1 _ I1 q1) fun u s2 ⟨x, H2, I2, rx, q2⟩ => thn (hi pins s2 σ H2 _ I2 q2) fun iv s3 ⟨y, H3, I3, ry, a, H4, ex, g, q3⟩ => ?_) hs
 subst ex
 obtain rfl : u = Value.ref a := rx
 exact d_setItem hu I3 g ry rv fun s4 I4 => ⟨σ, H4, I4, q3⟩
end
theorem dk_empty {P : Program} {w : World} {H : Hp} (h : Heap) (hb : sysModules < h.objs.size) : ObjOk P w H (h.push { cls := .type "dict", data := .dict #[] }) h.objs.size (.dK []) :=
 ⟨Nat.zero_le _, beq_eq_false_iff_ne.mpr (Ne.symm (Nat.ne_of_lt hb)), [], .nil, Heap.DictOf.new h⟩
theorem dt_empty {P : Program} {w : World} {H : Hp} (h : Heap) (hb : sysModules < h.objs.size) : ObjOk P w H (h.push { cls := .type "dict", data := .dict #[] }) h.objs.size (.dT []) :=
 ⟨Nat.zero_le _, beq_eq_false_iff_ne.mpr (Ne.symm (Nat.ne_of_lt hb)), [], .nil, _, #[], 0, Heap.get?_push_size _ rfl, ⟨rfl, rfl, rfl⟩, rfl, rfl, List.nodup_nil⟩
def tDNewK : TE := fun _ H Q => ∀ p, H p = none -> Q (.ref p) (upd H p (.dK []))
def tDNewT : TE := fun _ H Q => ∀ p, H p = none -> Q (.ref p) (upd H p (.dT []))
section
variable {X : Cx} {pos : Pos}
theorem pe_dnewK : PE X (.Dict [] [] pos) tDNewK := fun pins s σ H Q I h =>
 wpAny_Dict_empty ⟨.ref s.heap.objs.size, _, I.laid (a := s.heap.objs.size) (o := .dK []) (t' := s.toks) (fun _ _ q => Heap.get?_push_of_some _ q) (Nat.le_refl _) (dk_empty s.heap I.big), rfl, h _ (I.hok.fresh (Nat.le_refl _))⟩
theorem pe_dnewT : PE X (.Dict [] [] pos) tDNewT := fun pins s σ H Q I h =>
 wpAny_Dict_empty ⟨.ref s.heap.objs.size, _, I.laid (a := s.heap.objs.size) (o := .dT []) (t' := s.toks) (fun _ _ q => Heap.get?_push_of_some _ q) (Nat.le_refl _) (dt_empty s.heap I.big), rfl, h _ (I.hok.fresh (Nat.le_refl _))⟩
end
end L2
namespace HT
open PySem PyProof.Rows
section
variable {prog : Program} {w : World} {A : Around} {E : Value -> Shared -> Prop} {s : Shared}
theorem getItem_tuple_all {t sl : Addr} {items : Array Value} {vl vu : Value} {lo hi : Option Int} {Q : Value -> Shared -> Prop} (ht : IsTup s.heap t items) (hs : s.heap.IsSliceOf sl vl vu .none) (pl : IsPart vl lo) (pu : IsPart vu hi)
  (h0 : sIx items.size 0 lo = 0) (h1 : sIx items.size items.size hi = items.size) (h : Q (.ref t) s) : wpAny (model prog w) A (getItem (.ref t) (.ref sl)) Q E s := by
 obtain ⟨os, hos, hcs, hds⟩ := id hs
 have hTs : s.TypeIs (.ref sl) "slice" := ⟨os, hos, hcs⟩
 unfold getItem
 try with_reducible refine wpAny_holding ?_
 first | refine wpAny_bind (wpAny_pure ?_) | skip
 refine wpAny_bind (wpAny_sequenceKey ht.typeIs (by decide) ?_)
 refine wpAny_bind (wpAny_callSpecial?_slot (name := Str.ofString "__getitem__") ht.typeIs PyProof.Rows.slot_tuple_getitem
  (wpAny_call_entry PyProof.Rows.slot_tuple_getitem ht.typeIs entry_tuple_getitem ?_ (args_tuple_getitem _ _)))
 show wpAny _ _ (Builtin.Tuple.tupleItemsOf (.ref t) >>= _) _ _ s
 refine wpAny_bind (tupleItemsOf_ ht ?_)
 refine wpAny_bind (wpAny_typeOf hTs ?_)
 rw [if_pos (by decide)]
 refine wpAny_bind (sliceApplied_gen hs pl pu ?_)
 rw [h0, h1]
 have hyes : ((((0 : Nat) : Int) == 0 && (1 : Int) == 1 && (items.size - 0) == items.size) = true) := by simp
 show wpAny _ _ (if ((((0 : Nat) : Int) == 0 && (1 : Int) == 1 && (items.size - 0) == items.size) = true) then _ else _) _ _ s
 rw [if_pos hyes]
 refine wpAny_bind (wpAny_bind (wpAny_typeOf ht.typeIs (wpAny_pure ?_)))
 rw [if_pos (by decide)]
 exact wpAny_bind (wpAny_rule (wpAny_pure ⟨_, rfl, wpAny_pure h⟩))
theorem cat_tup0 {t b : Addr} {ws : List Value} {Q : Value -> Shared -> Prop} (ht : IsTup s.heap t ([] : List Value).toArray) (hb : IsTup s.heap b ws.toArray) (h : Q (.ref b) s) : wpAny (model prog w) A (binaryOp .Add (.ref t) (.ref b)) Q E s := by
 obtain ⟨⟨cls, dd, data, sl⟩, ho, hc, n, hd⟩ := id ht
 obtain ⟨⟨cls2, dd2, data2, sl2⟩, ho2, hc2, n2, hd2⟩ := id hb
 obtain rfl : cls = .type "tuple" := hc
 obtain rfl : data = .seq #[] n := hd
 obtain rfl : cls2 = .type "tuple" := hc2
 obtain rfl : data2 = .seq ws.toArray n2 := hd2
 exact concat_meets ⟨_, ho, rfl⟩ ⟨_, ho2, rfl⟩ noFill_tuple_add seq_tuple_add PySem.F.slot_tuple_add PySem.F.entry_tuple_add (PySem.F.args_tuple_add_2 _ _) (tuple_addW0 t b #[] ws.toArray n n2 dd dd2 sl sl2 rfl) ⟨ho, ho2, h⟩
end
end HT
namespace L2
open PySem PySem.Spec PyProof.Rows PySem.W
theorem same_one {H : Hp} {q : Addr} {o : HO} (hq : H q = none) : Same H (upd H q o) := fun b u e => by rw [upd_ne (ne_of_none e hq)]; exact e
section
variable {X : Cx}
def rSlA : V -> Option Int -> Option Int -> Hp -> VK -> Prop := fun x lo hi H Q => ∃ a xs, x = .ref a /\ H a = some (.tup xs) /\ ∀ p H', Same H H' -> H' p = some (.tup (cutV xs lo hi)) -> Q (.ref p) H'
theorem sl_tupA : SlR X rSlA := by
 intro pins s σ H x v vl vu lo hi sl Q I rx hs pl pu h
 obtain ⟨a, xs, rfl, hx, q⟩ := h
 by_cases hw : HT.sIx xs.length 0 lo = 0 /\ HT.sIx xs.length xs.length hi = xs.length
 ·cases rx
  obtain ⟨its, r, ht, hz⟩ := I.tuple (SqT.of hx)
  have hlen : its.toArray.size = xs.length := by rw [List.size_toArray]; exact r.length.symm
  refine ⟨"tuple", _, PyProof.Rows.slot_tuple_getitem.lookup, ht.typeIs, HT.getItem_tuple_all ht hs pl pu (by rw [hlen]; exact hw.1) (by rw [hlen]; exact hw.2) ?_⟩
  refine ⟨.ref a, H, I, rfl, q a H (Same.refl _) ?_⟩
  unfold cutV
  rw [hw.1, hw.2, List.drop_zero, Nat.sub_zero, List.take_length]
  exact hx
 ·exact sl_tup pins s σ H (.ref a) v vl vu lo hi sl Q I rx hs pl pu ⟨a, xs, rfl, SqT.of hx, hw, fun p hp => q p _ (same_one hp) upd_same⟩
def rCatA : R2 := fun x y H Q => ∃ a b xs ys, x = .ref a /\ y = .ref b /\ H a = some (.tup xs) /\ H b = some (.tup ys) /\ xs.length + ys.length <= sizeLine /\ ∀ p H', Same H H' -> H' p = some (.tup (xs ++ ys)) -> Q (.ref p) H'
theorem op_catA : OpR X (binaryOp .Add) rCatA := by
 intro pins s σ H x y v u Q I rx ry h
 obtain ⟨a, b, xs, ys, rfl, rfl, ha, hb, hz, q⟩ := h
 cases xs with
 | nil =>
  cases rx
  cases ry
  obtain ⟨its, r1, p1, _⟩ := I.tuple (SqT.of ha)
  obtain ⟨its2, r2, p2, _⟩ := I.tuple (SqT.of hb)
  cases r1
  exact HT.cat_tup0 p1 p2 ⟨.ref b, H, I, rfl, q b H (Same.refl _) hb⟩
 | cons z xs => exact op_catT pins s σ H (.ref a) (.ref b) v u Q I rx ry ⟨a, b, _, ys, rfl, rfl, SqT.of ha, SqT.of hb, by simp, hz, fun e => q a H (Same.refl _) (by rw [e, List.append_nil]; exact ha), fun _ p hp => q p _ (same_one hp) upd_same⟩
theorem key_rel {P : Program} {w : World} {k : Key} {u : Value} (h : (mixKind P w).is k u = true) : RelV (kV k) u := by
 cases k with
 | inl i => exact Value.isInt_shape (show Value.isInt i u = true from h)
 | inr x => exact Value.isStrOf_shape (show Value.isStrOf x u = true from h)
theorem vals_at : ∀ {xs : List V} {us : List Value}, xs.length = us.length -> (∀ (i : Nat) x u, xs[i]? = some x -> us[i]? = some u -> RelV x u) -> Vals xs us
 | [], [], _, _ => .nil
 | [], _ :: _, h, _ => by simp at h
 | _ :: _, [], h, _ => by simp at h
 | x :: xs, u :: us, h, f => .cons (f 0 x u rfl rfl) (vals_at (by simpa using h) fun i y v a b => f (i + 1) y v (by simpa using a) (by simpa using b))
theorem call_listD (hc : X.calm = true) : CallR X (.type "list") (fun xs H Q => ∃ d kvs, xs = [.ref d] /\ H d = some (.dK kvs) /\ ∀ l, H l = none -> Q (.ref l) (upd H l (.lst (kvs.map fun kv => kV kv.1)))) := by
 intro pins s σ H xs us Q I r h
 obtain ⟨d, kvs, rfl, hd, q⟩ := h
 obtain ⟨u, rfl, rx⟩ := vals1 r
 cases rx
 obtain ⟨hz, lo, vs, kv, dd⟩ := dk_of I.hok hd
 obtain ⟨ep, da⟩ := dd.dictAt
 have hlen : kvs.length = vs.length := kv.length
 refine kdl_call (kdl_dict (kvs := vs) (ep := ep) lo) (I.ok.hd hc) da (by rw [<- hlen]; exact hz) fun h' tk acc c kp e it => ?_
 refine ⟨.ref s.heap.objs.size, _, I.laid (t' := tk) kp (Nat.le_refl _) (show ObjOk X.prog X.w _ h' _ (.lst (kvs.map fun kv => kV kv.1)) from ⟨by rw [List.length_map]; exact hz, acc.toList, c, ?_, by rw [Array.toArray_toList]; exact e⟩), rfl, q _ (I.hok.fresh (Nat.le_refl _))⟩
 refine vals_at (by rw [List.length_map, Array.length_toList]; exact hlen.trans it.1.symm) fun i x v hx hv => ?_
 obtain ⟨k, y, hk, hi⟩ := it.2 i v (by rw [<- Array.getElem?_toList]; exact hv)
 obtain ⟨kv', hkv, rfl⟩ := Option.map_eq_some_iff.mp (by rw [<- List.getElem?_map]; exact hx)
 have e : kv'.1 = k := by
  clear it hx hv hlen da dd q hz hd
  induction kv generalizing i with
  | nil => simp at hkv
  | cons p _ ih =>
   cases i with
   | zero =>
    simp at hkv hk
    subst hkv
    rw [p.1, hk]
   | succ i => exact ih i (by simpa using hk) (by simpa using hkv)
 rw [e]
 exact key_rel hi
end
end L2
namespace HT
open PySem PyProof.Rows
section
open PySem.SeqAt
open PySem.AutoSeq1 (wpAny_loadPart')
open PySem.MeetsSeq PySem.MeetsSeq2 PySem.MeetsSeq3
end
end HT
namespace HT
open PySem PyProof.Rows
end HT
namespace L2
open PySem PySem.Spec PyProof.Rows PySem.W HT
theorem pair_at {α β : Type} {F : α -> β -> Prop} : ∀ {l : List α} {m : List β} {i : Nat} {x : α}, Paired F l m -> l[i]? = some x -> ∃ y, m[i]? = some y /\ F x y
 | _, _, i, x, .nil, e => by simp at e
 | _, _, 0, x, .cons p _, e => by simp at e; subst e; exact ⟨_, rfl, p⟩
 | _, _, i + 1, x, .cons _ t, e => by simpa using pair_at (i := i) t (by simpa using e)
end L2
namespace HT
open PySem PyProof.Rows
end HT
namespace HT
open PySem PyProof.Rows
open PySem.AutoSeq1 (wpAny_loadPart')
end HT
namespace L2
open PySem PySem.Spec PyProof.Rows PySem.W HT
end L2
namespace HT
open PySem PyProof.Rows
end HT
namespace HT
open PySem PyProof.Rows PySem.W
end HT
namespace HT
open PySem PyProof.Rows PySem.W L2
theorem plain_upd : plainId "dict.update.loop" = true := by decide +kernel
theorem entry_upd : entryFor table "dict.update.loop" = some Builtin.«dict.update.loop» := entryFor_of_fast (by kernel_rfl)
theorem stored_new {K : Type} [DecidableEq K] {kvs : List (K × Value)} {k : K} {v : Value} (h : k ∉ kvs.map (·.1)) : stored kvs k v = kvs ++ [(k, v)] := by
 unfold stored
 rw [if_neg]
 intro z
 obtain ⟨p, hp, e⟩ := List.any_eq_true.mp z
 exact h (List.mem_map.mpr ⟨p, hp, by simpa using e⟩)
end HT
namespace HT
open PySem PyProof.Rows PySem.W L2
end HT
namespace HT
open PySem PyProof.Rows
section
open PySem.SeqAt
open PySem.AutoSeq1 (wpAny_loadPart')
open PySem.MeetsSeq PySem.MeetsSeq2 PySem.MeetsSeq3
end
end HT
namespace L2
open PySem PySem.Spec PyProof.Rows PySem.W HT
end L2
namespace L2
open PySem PySem.Spec PyProof.Rows PySem.W HT
section
variable {X : Cx}
theorem ps_tryNo {body : List Stmt} {h0 : ExceptHandler} {hs : List ExceptHandler} {pos : Pos} {t : TS} (h : PSs X body t) (hx : X.xe = fun _ _ => False) : PS X (.Try body (h0 :: hs) [] [] pos) t := by
 intro pins s σ H D I hw
 have nr : ∀ {α : Type} {tt : Sem α} {Q : α -> Shared -> Prop} {E : Value -> Shared -> Prop} {s' : Shared}, wpAny (model X.prog X.w) X.A tt Q X.xe s' -> wpAny (model X.prog X.w) X.A tt Q E s' := fun z => by rw [hx] at z; exact wpAny_noRaise z
 refine wpAny_Try_except (thn (nr (h pins s σ H D I hw)) fun f s1 z => ?_)
 cases f with
 | next => exact wpAny_execs_nil z
 | brk => exact z
 | cont => exact z
 | ret u => exact z
theorem call_anyB (hc : X.calm = true) : CallR X (.builtin "any") (fun xs H Q => ∃ (p : Addr) (bs : List Bool), xs = [.ref p] /\ SqL X.K H p (bs.map V.bl) /\ Q (.bl (bs.any id)) H) := by
 intro pins s σ H xs us Q I r h
 obtain ⟨p, bs, rfl, hq, q⟩ := h
 obtain ⟨u, rfl, rx⟩ := vals1 r
 cases rx
 obtain ⟨its, rv, pl, hz⟩ := I.list hq
 have hlen := rv.length
 have vals : its = bs.map Value.bool := by
  clear q hq pl hz r hlen
  induction bs generalizing its with
  | nil => cases rv; rfl
  | cons b bs ih =>
   cases rv with
   | cons r1 rt => cases r1; rw [ih _ rt]; rfl
 have new : ∀ b o, s.heap.get? b = some o -> b ≠ s.heap.objs.size := fun b o e => Nat.ne_of_lt (Heap.lt_size e)
 obtain ⟨ol, hol, _⟩ := id pl.isList
 refine call_any_walk (wpAny_pyIter_list pl.isList ?_)
 refine ⟨s.heap.objs.size, _, _, _, _, _, fun i => bs.getD i false, rfl, Walks.list (A := X.A.in1) (I.ok.hd hc) s.heap.objs.size p (new p ol hol) its.toArray, ⟨⟨_, Heap.get?_push_size _ rfl, rfl, rfl⟩, pl.isList.at fun o e => Heap.get?_push_of_some _ e⟩, fun i v s2 Q2 E2 hv hq2 => ?_, fun h' tk kp => ?_⟩
 ·rw [vals] at hv
  have : bs[i]?.map Value.bool = some v := by simpa using hv
  obtain ⟨b, hb, rfl⟩ := Option.map_eq_some_iff.mp this
  refine wpAny_truthy_bool ?_
  have e : bs.getD i false = b := by rw [List.getD_eq_getElem?_getD, hb]; rfl
  exact e ▸ hq2
 ·have fin : (List.range its.toArray.size).any (fun i => bs.getD i false) = bs.any id := by
   have hs : its.toArray.size = bs.length := by rw [vals]; simp
   rw [hs]
   apply Bool.eq_iff_iff.mpr
   simp only [List.any_eq_true, List.mem_range]
   constructor
   ·rintro ⟨i, hi, e⟩
    exact ⟨bs[i], List.getElem_mem hi, by simpa [List.getD, hi] using e⟩
   ·rintro ⟨b, hb, e⟩
    obtain ⟨i, hi, rfl⟩ := List.getElem_of_mem hb
    exact ⟨i, hi, by simpa [List.getD, hi] using e⟩
  rw [fin]
  exact ⟨.bl _, H, I.kept (t' := tk) fun b o e => kp b o (by simpa using new b o e) (Heap.get?_push_of_some _ e), rfl, q⟩
def Its (x : Str) : It := ⟨fun i _ => i < x.cps.size, fun i H v H' => H' = H /\ ∃ c, x.cps[i]? = some c /\ v = .str ⟨#[c]⟩, fun i _ => x.cps.size <= i⟩
theorem turn_str {P : Program} {w : World} {K : Frag} {tg : Expr} (it : Addr) (x : Str) (t : Tok) (T : String) (hT : ["enumerate", "zip", "dict_itemiterator", "dict_reverseitemiterator", "odict_iterator", "itertools.zip_longest", "itertools.pairwise"].contains T = false)
  (W : ∀ A' : Around, A'.handled = none -> Walks P w A' it [it] [it] x.cps.size (SignAt x) (fun i h => h.IsStrIter it T x t i))
  (hs : ∀ (A : Around) (i : Nat) (s : Shared) (Q : Value -> Shared -> Prop) (E : Value -> Shared -> Prop), s.heap.IsStrIter it T x t i -> Q (.ref it) s -> wpAny (model P w) A (pyIter (.ref it)) Q E s) : Turn P w K tg (Its x) [it] it (fun i h => i <= x.cps.size /\ h.IsStrIter it T x t i) where
 mem := by simp
 obj := fun i h st b hb => by
  obtain rfl : b = it := by simpa using hb
  obtain ⟨_, o, e, c, d⟩ := st
  exact ⟨o, e, fun v z => by rw [d] at z; cases z⟩
 keep := fun i h h' st k => by
  obtain ⟨l, o, e, r⟩ := st
  exact ⟨l, o, k it (by simp) _ e, r⟩
 item := by
  intro X hP hw hK hc i pins s σ H E I hf st hg
  subst hP hw hK
  obtain ⟨f0, f1, f2, f3, f4, f5⟩ := hf it (by simp)
  refine (W X.A (I.ok.hd hc)).item i s _ _ hg st.2 fun v h' tk hv st' kk => ?_
  obtain ⟨c, u, hcx, rfl⟩ := hv
  have I1 : Inv X pins σ H { s with heap := h', toks := tk } := I.turned (fun b o hb e => kk b o (by simpa using hb) e) f0 f1 f3 f4 f5
  obtain ⟨o, e, cl, d⟩ := id st'
  exact ⟨_, rfl, go_of (s := { s with heap := h', toks := tk }) e cl d hT ⟨.str ⟨#[c]⟩, H, I1, ⟨u, rfl⟩, ⟨rfl, c, hcx, rfl⟩, ⟨hg, st'⟩, fun b hb => (hf b hb).1⟩⟩
 done := by
  intro X hP hw hK hc i pins s σ H E I hf st hg
  subst hP hw hK
  obtain ⟨f0, f1, f2, f3, f4, f5⟩ := hf it (by simp)
  have ei : i = x.cps.size := Nat.le_antisymm st.1 hg
  subst ei
  exact (W X.A (I.ok.hd hc)).done s _ _ st.2 fun h' tk kk => ⟨rfl, I.turned (fun b o hb e => kk b o (by simpa using hb) e) f0 f1 f3 f4 f5⟩
 self := fun A i s Q E st h => hs A i s Q E st.2 h
def iStr (te : TE) : TI := fun σ H R => te σ H fun v H1 => ∃ x, v = .str x /\ R (Its x) H1
theorem pi_str {tg e : Expr} {te : TE} (he : PE X e te) : PI X tg e (iStr te) := by
 intro pins s σ H R I h
 refine thn (he pins s σ H _ I h) fun v s1 ⟨y, H1, I1, r1, x, ey, q⟩ => ?_
 subst ey
 obtain ⟨t, rfl⟩ := r1
 have I2 : ∀ o : Obj, Inv X pins σ H1 { s1 with heap := s1.heap.push o } := fun o => I1.kept (t' := s1.toks) fun b ob z => Heap.get?_push_of_some _ z
 have fp : ∀ b ∈ [s1.heap.objs.size], FpOk X pins H1 b := fun b hb => by
  obtain rfl : b = s1.heap.objs.size := by simpa using hb
  exact I1.fpOk (Nat.le_refl _) (I1.hok.fresh (Nat.le_refl _))
 cases ha : x.cps.all (· < 128)
 ·refine wpAny_pyIter_wide ha ?_
  exact ⟨s1.heap.objs.size, [s1.heap.objs.size], _, _, H1, rfl, I2 _, turn_str s1.heap.objs.size x t "str_iterator" (by decide) (fun A' hA => Walks.strWide hA _ x t) (fun _ _ _ _ _ st h => wpAny_pyIter_striter_wide st h), ⟨Nat.zero_le _, _, Heap.get?_push_size _ rfl, rfl, rfl⟩, fp, q⟩
 ·refine wpAny_pyIter_ascii ha ?_
  exact ⟨s1.heap.objs.size, [s1.heap.objs.size], _, _, H1, rfl, I2 _, turn_str s1.heap.objs.size x t "str_ascii_iterator" (by decide) (fun A' hA => Walks.strAscii hA _ x t) (fun _ _ _ _ _ st h => wpAny_pyIter_striter_ascii st h), ⟨Nat.zero_le _, _, Heap.get?_push_size _ rfl, rfl, rfl⟩, fp, q⟩
theorem comp_str {x : Str} {g : TG} {ti : TT} {te : TE} {τ0 : St} {Q : VK} {p : Addr} {H1 : Hp} (Pv : Nat -> List V -> St -> Hp -> Prop) (h0 : Pv 0 [] τ0 (upd H1 p (.lst []))) (hl : ∀ i ys τ H, Pv i ys τ H -> H p = some (.lst ys))
  (hs : ∀ i c ys τ H, x.cps[i]? = some c -> Pv i ys τ H -> g (.str ⟨#[c]⟩) τ H fun τ4 H4 => ti τ4 H4 fun b H5 => if b = true then te τ4 H5 fun y H6 => H6 p = some (.lst ys) /\ ys.length < sizeLine /\ ∃ m', m' < x.cps.size - i /\ CW Pv x.cps.size (i + 1) m' (ys ++ [y]) τ4 (upd H6 p (.lst (ys ++ [y]))) else ∃ m', m' < x.cps.size - i /\ CW Pv x.cps.size (i + 1) m' ys τ4 H5)
  (hd : ∀ ys τ H, Pv x.cps.size ys τ H -> Q (.ref p) H) : CompW (Its x) g ti te τ0 Q p H1 := by
 refine ⟨CW Pv x.cps.size, ⟨x.cps.size, by simp, Nat.zero_le _, h0⟩, ?_⟩
 rintro i m ys τ H ⟨rfl, hi, pv⟩
 refine ⟨hl i ys τ H pv, ?_⟩
 by_cases hlt : i < x.cps.size
 ·refine .inr ⟨hlt, fun v H3 y3 => ?_⟩
  obtain ⟨e3, c, hc, rfl⟩ := y3
  subst e3
  exact hs i c ys τ _ hc pv
 ·have e : i = x.cps.size := by omega
  subst e
  exact .inl ⟨Nat.le_refl _, hd ys τ H pv⟩
end
end L2
namespace HT
open PySem PyProof.Rows PySem.W L2
theorem meets_tup_keys (a : Addr) (vs : Array Value) (n : Nat) (u : Tok) (sl : Array (Option Value)) :
  Meets (Builtin.«object.__getattribute__» ⟨[.ref a, .str "keys" u], []⟩) (fun A R s => s.heap.get? a = some { cls := .type "tuple", dict := none, data := .seq vs n, slots := sl } /\ raisesAttr (.ref a) "keys" A R s) :=
 meets_getattribute_miss_tuple a vs n sl "keys" u (by rw [typeLookup_type, builtinLookup_eq_fast]; kernel_rfl) (by decide +kernel) (by rw [sizeLine_eq]; decide +kernel)
theorem tup_keys {prog : Program} {w : World} {A : Around} {E : Value -> Shared -> Prop} {s : Shared} {a : Addr} {vs : Array Value} {n : Nat} {sl : Array (Option Value)} {Q : Option Value -> Shared -> Prop} (hx : s.heap.get? a = some { cls := .type "tuple", dict := none, data := .seq vs n, slots := sl }) (hA : A.handled = none)
  (h : ∀ h' tk, (∀ b o, s.heap.get? b = some o -> h'.get? b = some o) -> Q none { s with heap := h', toks := tk }) : wpAny (model prog w) A (getAttr? (.ref a) "keys") Q E s := by
 obtain ⟨hp, g, d, tk, os⟩ := s
 have hT : ∀ tk', (⟨hp, g, d, tk', os⟩ : Shared).TypeIs (.ref a) "tuple" := fun _ => ⟨_, hx, rfl⟩
 have f1 := sub_AttributeError
 have f3 := F.slot_tuple_getattribute.lookup
 have f4 := F.slot_tuple_getattribute.bind (.ref a)
 have f5 := am_tuple_getattr_none
 unfold getAttr? getAttrBy? getAttrBy
 repeat (any_goals (first | assumption | exact hT _ | ((with_reducible show wpAny _ _ (call (Value.builtin "tuple.__getattribute__") _ _) _ _ _); refine call_meets F.slot_tuple_getattribute (hT _) am_entry_tuple_getattribute (F.args_tuple_getattribute_2 _ _) (meets_tup_keys a vs n _ sl) ⟨hx, hA, fun h' tk' e hx' => ?_⟩) | wp_step))
 obtain ⟨t', u', he⟩ := hx'.there
 show wpAny _ _ (getattributeRaised _ _ _ _ _ _ _) _ _ _
 unfold getattributeRaised
 repeat (any_goals (first | assumption | wp_step))
 exact h h' tk' hx'.keeps
end HT
namespace HT
open PySem PyProof.Rows PySem.W L2
section
variable {prog : Program} {w : World} {A : Around} {R : Result -> Shared -> Prop} {it t d : Addr} {vs : Array Value} {g : Heap}
theorem upd_pair {E : Value -> Shared -> Prop} {Q : Unit -> Shared -> Prop} {s : Shared} {T : Addr} {x y : Value} {k : Key} {kvs : List (Key × Value)} {i : Int} (hT : IsTup s.heap T #[x, y]) (hk : (mixKind prog w).is k x = true) (hd : s.heap.DictOf (mixKind prog w) d kvs) (new : k ∉ kvs.map (·.1)) (hz : kvs.length <= sizeLine)
  (q : ∀ h' tk, h'.DictOf (mixKind prog w) d (kvs ++ [(k, y)]) -> Heap.SameBut d s.heap h' -> Q () { s with heap := h', toks := tk }) :
  wpAny (model prog w) A (holding [Value.ref T] (do
   let pair <- (Builtin.Dict.pairItems (.ref T)).tryCatch fun e => do
    if !(<- isInstance e (.type "TypeError")) then throw e
    rule "dict.update.element-no-sequence"
    raiseError "TypeError" s!"cannot convert dictionary update sequence element #{i} to a sequence"
   match pair with
   | [k, v] => holding [k, v] (dictSet d k v)
   | l =>
    rule "dict.update.element-length"
    raiseError "ValueError" s!"dictionary update sequence element #{i} has length {l.length}; 2 is required")) Q E s := by
 refine wpAny_holding (wpAny_bind (wpAny_tryCatch ?_))
 unfold Builtin.Dict.pairItems
 refine wpAny_bind (wpAny_typeOf hT.typeIs ?_)
 rw [if_pos (by decide)]
 obtain ⟨o, ho, _, n, hdt⟩ := hT
 refine wpAny_bind (wpAny_seqItems ho hdt (wpAny_pure ?_))
 show wpAny _ _ (holding [x, y] (dictSet d x y)) _ _ _
 refine wpAny_holding (wpAny_dictSet_pairs (hsz := hz) hk hd fun h' dd sb => ?_)
 rw [stored_new new] at dd
 exact q h' _ dd sb
theorem upd_tup (hh : A.in1.handled = none) (ndi : d ≠ it) (ndt : d ≠ t) (nti : t ≠ it) (ps : List (Key × Value)) (nd : (ps.map (·.1)).Nodup) (hz : ps.length <= sizeLine) (hsz : vs.size = ps.length) (hv : IsTup g t vs)
  (hps : ∀ (i : Nat) p, ps[i]? = some p -> ∃ a x, vs[i]? = some (.ref a) /\ a ≠ it /\ a ≠ d /\ IsTup g a #[x, p.2] /\ (mixKind prog w).is p.1 x = true) :
  ∀ (m k : Nat) (s : Shared), ps.length - k = m -> k <= ps.length -> IsTupIter s.heap it t k -> s.heap.DictOf (mixKind prog w) d (ps.take k) ->
   (∀ b o, b ≠ it -> b ≠ d -> g.get? b = some o -> s.heap.get? b = some o) ->
   (∀ h' tk, h'.DictOf (mixKind prog w) d ps -> (∀ b o, b ≠ it -> b ≠ d -> g.get? b = some o -> h'.get? b = some o) -> R (.ok (.ret .none)) { s with heap := h', toks := tk }) ->
   codeAny (model prog w) A (.builtin "dict.update.loop" ⟨[.ref d, .ref it, rawInt k, .none], []⟩) R s := by
 have up : ∀ {b : Addr} {us : Array Value} {h : Heap}, b ≠ it -> b ≠ d -> (∀ b o, b ≠ it -> b ≠ d -> g.get? b = some o -> h.get? b = some o) -> IsTup g b us -> IsTup h b us := fun n1 n2 kp ⟨o, ho, r⟩ => ⟨o, kp _ _ n1 n2 ho, r⟩
 intro m
 induction m with
 | zero =>
  intro k s hm hk t1 dd kp hR
  have ek : k = ps.length := by omega
  refine codeAny_builtin entry_upd (?_ : wpAny _ _ _ _ _ _)
  rw [Around.under_plainId plain_upd _]
  show wpAny _ A.in1 (pyNext (.ref it) >>= _) _ _ s
  refine wpAny_bind (next_tuple_end hh t1 (up nti ndt.symm kp hv) (by simp; omega) fun h' k' => ?_)
  refine wpAny_bind (m := Builtin.Dict.addKeywords d []) (wpAny_pure (wpAny_pure ?_))
  have dd' : h'.DictOf (mixKind prog w) d (ps.take k) := dd.at fun o e => k' d o ndi e
  rw [ek, List.take_length] at dd'
  exact hR h' s.toks dd' fun b o a1 a2 e => k' b o a1 (kp b o a1 a2 e)
 | succ m ih =>
  intro k s hm hk t1 dd kp hR
  have hlt : k < ps.length := by omega
  have hp : ps[k]? = some ps[k] := List.getElem?_eq_getElem hlt
  obtain ⟨a, x, hva, na1, na2, hpair, hkey⟩ := hps k _ hp
  have tk1 : ps.take (k + 1) = ps.take k ++ [ps[k]] := by rw [List.take_succ, hp]; rfl
  have new : ps[k].1 ∉ (ps.take k).map (·.1) := fun w => by
   have e : ps.map (·.1) = (ps.take k).map (·.1) ++ (ps.drop k).map (·.1) := by rw [<- List.map_append, List.take_append_drop]
   rw [e, List.nodup_append] at nd
   refine nd.2.2 _ w _ ?_ rfl
   rw [List.drop_eq_getElem_cons hlt]
   exact List.mem_cons_self
  refine codeAny_builtin entry_upd (?_ : wpAny _ _ _ _ _ _)
  rw [Around.under_plainId plain_upd _]
  show wpAny _ A.in1 (pyNext (.ref it) >>= _) _ _ s
  refine wpAny_bind (next_tuple_item t1 (up nti ndt.symm kp hv) hva fun h' t1' sb => ?_)
  have kp' : ∀ b o, b ≠ it -> b ≠ d -> g.get? b = some o -> h'.get? b = some o := fun b o a1 a2 e => sb.extBut b o a1 (kp b o a1 a2 e)
  have dd' : h'.DictOf (mixKind prog w) d (ps.take k) := dd.at fun o e => sb.extBut d o ndi e
  refine wpAny_bind (upd_pair (s := { s with heap := h' }) (k := ps[k].1) (up na1 na2 kp' hpair) hkey dd' new (by rw [List.length_take]; omega) fun h'' tk dd'' sb' => ?_)
  rw [show ((k : Int) + 1) = ((k + 1 : Nat) : Int) from rfl]
  exact wpAny_pure ⟨plainId_quiet plain_upd _, ih (k + 1) _ (by omega) hlt (t1'.extBut sb'.extBut ndi.symm) (by rw [tk1]; exact dd'') (fun b o a1 a2 e => sb'.extBut b o a2 (kp' b o a1 a2 e)) hR⟩
theorem call_dict_tup {E : Value -> Shared -> Prop} {Q : Value -> Shared -> Prop} {s : Shared} (hh : A.handled = none) (ps : List (Key × Value)) (nd : (ps.map (·.1)).Nodup) (hz : ps.length <= sizeLine) (hsz : vs.size = ps.length) {n : Nat} {sl : Array (Option Value)}
  (hv : s.heap.get? t = some { cls := .type "tuple", dict := none, data := .seq vs n, slots := sl })
  (hps : ∀ (i : Nat) p, ps[i]? = some p -> ∃ a x, vs[i]? = some (.ref a) /\ IsTup s.heap a #[x, p.2] /\ (mixKind prog w).is p.1 x = true)
  (q : ∀ d h' tk, s.heap.objs.size <= d -> h'.DictOf (mixKind prog w) d ps -> (∀ b o, s.heap.get? b = some o -> h'.get? b = some o) -> Q (.ref d) { s with heap := h', toks := tk }) :
  wpAny (model prog w) A (call (.type "dict") [.ref t]) Q E s := by
 refine callType_codes (Q₁ := fun obj s₁ => obj = .ref s.heap.objs.size /\ s₁ = { s with heap := s.heap.push { cls := .type "dict", data := .dict #[] } }) F.kt_called_dict (F.kt_typeCall_dict_1 _) F.entry_dict_init (kt_code_dict_new _ ⟨rfl, rfl⟩) ?_
 rintro obj s₁ ⟨rfl, rfl⟩
 have dn : (s.heap.push { cls := .type "dict", data := .dict #[] }).DictOf (mixKind prog w) s.heap.objs.size [] := Heap.DictOf.new s.heap
 have k2 : ∀ b o, s.heap.get? b = some o -> (s.heap.push { cls := .type "dict", data := .dict #[] }).get? b = some o := fun b o e => Heap.get?_push_of_some _ e
 generalize s.heap.push { cls := .type "dict", data := .dict #[] } = h2 at dn k2 ⊢
 refine ⟨dn.typeIs, F.args_dict_init_2 _ _, ?_⟩
 unfold Builtin.«dict.__init__»
 refine wpAny_bind ?_
 unfold Builtin.Dict.selfAndRest
 refine wpAny_bind (wpAny_notOrdered_dict dn.typeIs ?_)
 refine (wpAny_pure ?_ : wpAny _ _ (pure (s.heap.objs.size, [Value.ref t])) _ _ _)
 show wpAny _ _ (Builtin.Dict.updateFrom "dict.__init__" s.heap.objs.size (.ref t) [] .none) _ _ _
 unfold Builtin.Dict.updateFrom
 have v2 := k2 _ _ hv
 refine wpAny_bind (wpAny_typeOf (T := "tuple") ⟨_, v2, rfl⟩ ?_)
 rw [if_pos (by decide)]
 refine wpAny_bind (tup_keys v2 hh fun h3 tk3 k3 => ?_)
 rw [if_pos (by decide)]
 have it3 : IsTup h3 t vs := ⟨_, k3 _ _ v2, rfl, n, rfl⟩
 refine wpAny_bind (wpAny_rule (wpAny_bind (iter_tuple it3 ?_)))
 refine wpAny_pure ⟨plainId_quiet plain_upd _, ?_⟩
 have up : ∀ b o, s.heap.get? b = some o -> h3.get? b = some o := fun b o e => k3 b o (k2 b o e)
 have dlt : s.heap.objs.size < h3.objs.size := by
  obtain ⟨o, _, _, ho, _⟩ := dn
  exact Heap.lt_size (k3 _ _ ho)
 have dd3 : h3.DictOf (mixKind prog w) s.heap.objs.size [] := dn.at fun o e => k3 _ o e
 have lt : ∀ {b : Addr} {o : Obj}, s.heap.get? b = some o -> b < s.heap.objs.size := fun e => Heap.lt_size e
 refine upd_tup (A := A.in1) (g := s.heap) (it := h3.objs.size) hh (Nat.ne_of_lt dlt) (Nat.ne_of_gt (lt hv)) (Nat.ne_of_lt (Nat.lt_trans (lt hv) dlt)) ps nd hz hsz ⟨_, hv, rfl, n, rfl⟩ (fun i p hp => ?_) _ 0 _ rfl (Nat.zero_le _) ⟨_, Heap.get?_push_size _ rfl, rfl, rfl⟩ (dd3.at fun o e => Heap.get?_push_of_some _ e) (fun b o _ _ e => Heap.get?_push_of_some _ (up b o e)) fun h' tk dd kp => ?_
 ·obtain ⟨a, x, h1, h2', h3'⟩ := hps i p hp
  obtain ⟨o, ho, _⟩ := id h2'
  exact ⟨a, x, h1, Nat.ne_of_lt (Nat.lt_trans (lt ho) dlt), Nat.ne_of_lt (lt ho), h2', h3'⟩
 ·exact ⟨rfl, q _ h' tk (Nat.le_refl _) dd fun b o e => kp b o (Nat.ne_of_lt (Nat.lt_trans (lt e) dlt)) (Nat.ne_of_lt (lt e)) e⟩
end
end HT
namespace L2
open PySem PySem.Spec PyProof.Rows PySem.W HT
section
variable {X : Cx}
theorem op_le_str : OpR X (compareOp .LtE) (fun x y H Q => ∃ i j, x = .str i /\ y = .str j /\ Q (.bl (!decide (j.cps.toList < i.cps.toList))) H) := by
 intro pins s σ H x y v u Q I rx ry ⟨i, j, ex, ey, q⟩
 subst ex ey
 obtain ⟨t, rfl⟩ := rx
 obtain ⟨t', rfl⟩ := ry
 exact P.le_str (fin_bl I q rfl)
def PairsV (H : Hp) (vs : List V) (kvs : List (Str × V)) : Prop := Paired (fun y p => ∃ a, y = V.ref a /\ H a = some (.tup [.str p.1, p.2])) vs kvs
theorem PairsV.same {H H' : Hp} {vs : List V} {kvs : List (Str × V)} (h : PairsV H vs kvs) (s : Same H H') : PairsV H' vs kvs := Paired.imp' (fun _ _ ⟨a, e, q⟩ => ⟨a, e, s _ _ q⟩) h
def pairKV (kvs : List (Str × V)) : List (Key × V) := kvs.map fun p => (Sum.inr p.1, p.2)
theorem pair_kv : ∀ (kvs : List (Str × V)) (ys : List Value), ys.length = kvs.length -> (∀ (i : Nat) (hi : i < kvs.length), ∃ y, ys[i]? = some y /\ RelV kvs[i].2 y) -> KV (pairKV kvs) ((kvs.map fun p => (Sum.inr p.1 : Key)).zip ys)
 | [], ys, h, _ => .nil
 | p :: kvs, [], h, _ => by simp at h
 | p :: kvs, y :: ys, h, f => by
  obtain ⟨y', e, r⟩ := f 0 (by simp)
  obtain rfl : y = y' := by simpa using e
  exact .cons ⟨rfl, r⟩ (pair_kv kvs ys (by simpa using h) fun i hi => by
   obtain ⟨y2, e2, r2⟩ := f (i + 1) (Nat.succ_lt_succ hi)
   exact ⟨y2, by simpa using e2, r2⟩)
theorem call_tuple_frz : CallR X (.type "tuple") (fun xs H Q => ∃ p ys, xs = [.ref p] /\ SqL X.K H p ys /\ ∀ l o, H l = none -> o.dict = none -> Q (.ref l) (upd H l (.frz o (.tup ys)))) := by
 intro pins s σ H xs us Q I r ⟨p, ys, ex, hq, q⟩
 subst ex
 obtain ⟨u, rfl, rx⟩ := vals1 r
 cases rx
 obtain ⟨its, r', pl, hz⟩ := I.list hq
 have hlen := r'.length
 refine call_tuple_list pl.isList (fun h' kp => ?_) (by simp only [List.size_toArray] <;> omega)
 have I1 : Inv X pins σ H { s with heap := h' } := I.kept (t' := s.toks) kp
 refine ⟨.ref h'.objs.size, _, I1.laid (o := .frz { cls := .type "tuple", data := .seq its.toArray } (.tup ys)) (t' := s.toks) (fun b o e => Heap.get?_push_of_some _ e) (Nat.le_refl _) ⟨Heap.get?_push_size _ rfl, hz, its, r', TupN.new _ _⟩, rfl, q _ _ (I1.hok.fresh (Nat.le_refl _)) rfl⟩
theorem call_dictT (hc : X.calm = true) : CallR X (.type "dict") (fun xs H Q => ∃ t o vs kvs, xs = [.ref t] /\ H t = some (.frz o (.tup vs)) /\ o.dict = none /\ PairsV H vs kvs /\ (kvs.map (·.1)).Nodup /\ ∀ d, H d = none -> Q (.ref d) (upd H d (.dK (pairKV kvs)))) := by
 intro pins s σ H xs us Q I r h
 obtain ⟨t, o, vs, kvs, rfl, ht, hod, pr, nd, q⟩ := h
 obtain ⟨u, rfl, ru⟩ := vals1 r
 cases ru
 obtain ⟨ho, hz, its, rv, o', ho', hcl, n, hdt, _⟩ := (show ObjOk X.prog X.w H s.heap t (.frz o (.tup vs)) from I.hok t _ ht)
 rw [ho] at ho'
 cases ho'
 obtain ⟨cl, dd, dt, sl⟩ := o
 obtain rfl : cl = .type "tuple" := hcl
 obtain rfl : dd = none := hod
 obtain rfl : dt = .seq its.toArray n := hdt
 have hl1 : vs.length = kvs.length := Paired.length pr
 have hl2 := rv.length
 have pairs : ∀ (i : Nat) p, kvs[i]? = some p -> ∃ a x y, its.toArray[i]? = some (.ref a) /\ IsTup s.heap a #[x, y] /\ RelV (.str p.1) x /\ RelV p.2 y := by
  intro i p hp
  have hi : i < vs.length := by rw [hl1]; exact (List.getElem?_eq_some_iff.mp hp).1
  obtain ⟨p', hp', a, ey, ha⟩ := pair_at pr (show vs[i]? = some vs[i] from List.getElem?_eq_getElem hi)
  rw [hp] at hp'; cases hp'
  obtain ⟨u, hu, ru⟩ := rv.get (show vs[i]? = some (V.ref a) by rw [List.getElem?_eq_getElem hi, ey])
  cases ru
  obtain ⟨i2, r2, t2, _⟩ := I.tuple (SqT.of ha)
  obtain ⟨x, y, rfl, rx, ry⟩ := r2.two
  exact ⟨a, x, y, by simpa using hu, t2, rx, ry⟩
 have ch : ∀ i : Fin kvs.length, ∃ y, ∃ a x, its.toArray[i.1]? = some (.ref a) /\ IsTup s.heap a #[x, y] /\ RelV (.str kvs[i].1) x /\ RelV kvs[i].2 y := fun i => by
  obtain ⟨a, x, y, h1, h2, h3, h4⟩ := pairs i.1 kvs[i] (List.getElem?_eq_getElem i.2)
  exact ⟨y, a, x, h1, h2, h3, h4⟩
 obtain ⟨ys, hyl, hys⟩ : ∃ ys : List Value, ys.length = kvs.length /\ ∀ (i : Nat) (hi : i < kvs.length), ∃ y, ys[i]? = some y /\ ∃ a x, its.toArray[i]? = some (.ref a) /\ IsTup s.heap a #[x, y] /\ RelV (.str kvs[i].1) x /\ RelV kvs[i].2 y :=
  ⟨List.ofFn fun i => Classical.choose (ch i), List.length_ofFn, fun i hi => ⟨Classical.choose (ch ⟨i, hi⟩), by simp [List.getElem?_ofFn, hi], Classical.choose_spec (ch ⟨i, hi⟩)⟩⟩
 have kps : ((kvs.map fun p => (Sum.inr p.1 : Key)).zip ys).map (·.1) = kvs.map fun p => (Sum.inr p.1 : Key) := by
  rw [List.map_fst_zip]; rw [List.length_map]; omega
 have lps : ((kvs.map fun p => (Sum.inr p.1 : Key)).zip ys).length = kvs.length := by rw [List.length_zip, List.length_map]; omega
 have inj : (kvs.map fun p => (Sum.inr p.1 : Key)).Nodup := by
  have : (kvs.map fun p => (Sum.inr p.1 : Key)) = (kvs.map (·.1)).map Sum.inr := by rw [List.map_map]; rfl
  rw [this, List.nodup_iff_pairwise_ne, List.pairwise_map]
  exact (List.nodup_iff_pairwise_ne.mp nd).imp fun h z => h (Sum.inr.inj z)
 refine call_dict_tup (I.ok.hd hc) ((kvs.map fun p => (Sum.inr p.1 : Key)).zip ys) (by rw [kps]; exact inj) (by rw [lps]; omega) (by rw [List.size_toArray, lps]; omega) ho (fun i p hp => ?_) fun d h' tk dl dd kp => ?_
 ·obtain ⟨h1, h2⟩ := List.getElem?_zip_eq_some.mp hp
  rw [List.getElem?_map] at h1
  obtain ⟨kv, hk, ek⟩ := Option.map_eq_some_iff.mp h1
  obtain ⟨hi, rfl⟩ := List.getElem?_eq_some_iff.mp hk
  obtain ⟨y, hy, a, x, g1, g2, g3, g4⟩ := hys i hi
  rw [hy] at h2
  cases h2
  exact ⟨a, x, g1, g2, by rw [<- ek]; exact kV_is (k := Sum.inr kvs[i].1) g3⟩
 ·have big := I.big
  refine ⟨.ref d, _, I.laid (a := d) (o := .dK (pairKV kvs)) (t' := tk) kp dl (dk_new (by unfold pairKV; rw [List.length_map]; omega) (beq_eq_false_iff_ne.mpr (Ne.symm (Nat.ne_of_lt (Nat.lt_of_lt_of_le big dl)))) ?_ dd), rfl, q d (I.hok.fresh dl)⟩
  exact pair_kv kvs ys hyl fun i hi => by
   obtain ⟨y, hy, a, x, _, _, _, g4⟩ := hys i hi
   exact ⟨y, hy, g4⟩
end
end L2
namespace L2
open PySem PySem.W
section
variable {X : Cx}
def CDivW (_ j : Int) : Prop := 0 < j /\ j < 4611686018427387904
theorem op_fdivW : OpR X (binaryOp .FloorDiv) (rI CDivW fun i j => .int (i / j)) := opI fun i j _ _ _ _ _ hc q => by
 have h1 : (0 : Int) < j := hc.1
 have h2 : j < 4611686018427387904 := hc.2
 refine PyProof.Rows.floordiv_int (by omega) (by rw [Int.fdiv_eq_ediv_of_nonneg i (by omega)]; exact q) (.inl (PyProof.noPylong_of_log2 ?_))
 have h3 : j.natAbs < 2 ^ 62 := by omega
 have h4 : j.natAbs.log2 < 62 := (Nat.log2_lt (by omega)).mpr h3
 omega
end
end L2
namespace L2
open PySem PySem.W PySem.Calls PyProof.Rows
section
variable {α β : Type} {n : Nat}
def Pm (n : Nat) (p : Array Nat) : Prop := p.toList.Perm (List.range n)
theorem Pm.lt {p : Array Nat} (h : Pm n p) (hn : 0 < n) (i : Nat) : p.getD i 0 < n := by
 rw [Array.getD_eq_getD_getElem?]
 cases e : p[i]? with
 | none => exact hn
 | some x =>
  have : x ∈ p.toList := Array.mem_def.mp (Array.mem_of_getElem? e)
  exact List.mem_range.mp (h.mem_iff.mp this)
theorem Pm.rev {p : Array Nat} (h : Pm n p) (i j : Nat) : Pm n (kas_rev p i j) := (Array.perm_iff_toList_perm.mp (mirror_perm p i j _)).trans h
theorem Pm.bub {p : Array Nat} (h : Pm n p) (i j : Nat) : Pm n (bubble p i j) := (Array.perm_iff_toList_perm.mp (bubble_perm p i j)).trans h
theorem pm_map {γ : Type} {p : Array Nat} {vs : List γ} (d : γ) (h : Pm vs.length p) : (p.toList.map fun i => vs.getD i d).Perm vs := by
 have h1 := List.Perm.map (fun i => vs.getD i d) h
 refine h1.trans (List.Perm.of_eq ?_)
 apply List.ext_getElem
 ·simp
 ·intro i h1 h2
  simp [List.getD, h2]
end
theorem paired_perm {α β : Type} {F : α -> β -> Prop} {l l' : List α} (h : l'.Perm l) : ∀ {m : List β}, Paired F l m -> ∃ m', m'.Perm m /\ Paired F l' m' := by
 induction h with
 | nil => intro m p; exact ⟨m, .refl _, p⟩
 | cons x _ ih =>
  intro m p
  cases p with
  | cons q t =>
   obtain ⟨m', e, r⟩ := ih t
   exact ⟨_ :: m', e.cons _, .cons q r⟩
 | swap x y l =>
  intro m p
  cases p with
  | cons q t =>
   cases t with
   | cons q2 t => exact ⟨_, List.Perm.swap _ _ _, .cons q2 (.cons q t)⟩
 | trans _ _ ih1 ih2 =>
  intro m p
  obtain ⟨m2, e2, p2⟩ := ih2 p
  obtain ⟨m1, e1, p1⟩ := ih1 p2
  exact ⟨m1, e1.trans e2, p1⟩
theorem eqBool_ref {prog : Program} {w : World} {A : Around} {E : Value -> Shared -> Prop} {s : Shared} {a : Addr} {Q : Bool -> Shared -> Prop} (h : Q true s) : wpAny (model prog w) A (eqBool (.ref a) (.ref a)) Q E s := by
 unfold eqBool
 refine wpAny_holding ?_
 have : ((Value.ref a) == (Value.ref a)) = true := by simp
 rw [if_pos this]
 exact wpAny_bind (wpAny_rule (wpAny_pure h))
section
variable {X : Cx}
theorem obj_is {P : Program} {w : World} {H : Hp} {h : Heap} {a : Addr} {o : HO} (x : ObjOk P w H h a o) : ∃ q, h.get? a = some q := by
 cases o with
 | lst xs => obtain ⟨_, _, _, _, e⟩ := x; exact ⟨_, e⟩
 | tup xs => obtain ⟨_, _, _, q, e, _⟩ := x; exact ⟨q, e⟩
 | dK kvs => obtain ⟨_, _, _, _, o, _, _, e, _⟩ := x; exact ⟨o, e⟩
 | dT kvs => obtain ⟨_, _, _, _, o, _, _, e, _⟩ := x; exact ⟨o, e⟩
 | set S n => obtain ⟨o, _, _, _, e, _⟩ := x; exact ⟨o, e⟩
 | ins C dx fs => obtain ⟨_, _, _, e, _⟩ := x; exact ⟨_, e⟩
 | own y => exact x
 | xd fs => obtain ⟨_, ⟨o, _, _, e, _⟩, _⟩ := x; exact ⟨o, e⟩
 | rng lo hi => obtain ⟨_, _, _, e⟩ := x; exact ⟨_, e⟩
 | frz q u => exact ⟨q, x.1⟩
 | tbl ps => exact ⟨_, x⟩
 | met f y => exact ⟨_, x⟩
 | ext φ => exact x.2.1
theorem Inv.sorted {pins : List (Addr × Obj)} {σ : List (Option V)} {H : Hp} {s : Shared} {h' : Heap} {m : Str -> Option Value} {D : Addr} {ys : List V} {out : List Value} {c : Nat} {t' : Nat} (I : Inv X pins σ H s) (hm : s.heap.Ns X.env.locals m) (hm' : h'.Ns X.env.locals m)
  (k : ∀ b o, b ≠ X.env.locals -> s.heap.get? b = some o -> h'.get? b = some o) (hD : ∀ b o, s.heap.get? b = some o -> b ≠ D) (new : h'.get? D = some (listOf out.toArray c)) (r : Vals ys out) (hz : ys.length <= sizeLine) :
  H D = none /\ Inv X pins σ (upd H D (.lst ys)) { s with heap := h', toks := t' } := by
 have there : ∀ b u, H b = some u -> ∃ o, s.heap.get? b = some o := fun b u e => obj_is (I.hok b u e)
 have hn : H D = none := by
  cases q : H D with
  | none => rfl
  | some u =>
   obtain ⟨o, e⟩ := there D u q
   exact absurd rfl (hD D o e)
 have neD : ∀ b u, H b = some u -> b ≠ D := fun b u e z => by rw [z, hn] at e; cases e
 have neL : ∀ b u, H b = some u -> b ≠ X.env.locals := fun b u e z => by rw [z, I.free] at e; cases e
 refine ⟨hn, I.step (g' := s.gens) (d' := s.drawn) (ch := []) (fun _ z => nomatch z) (fun b o hL _ _ e _ => k b o hL e) (fun b o hL _ _ e _ => ⟨o.slots, k b o hL e⟩) (fun b o _ e n => by rw [upd_ne (hD b o e)]; exact n) (fun b o _ e => ?_)
  (fun b xs e => by rw [upd_ne (neD b _ e)]; exact e) (fun b o u e => by rw [upd_ne (neD b _ e)]; exact e) (fun b ps e => ⟨#[], by rw [upd_ne (neD b _ e), e]; simp⟩) (fun m' q => ?_) (fun b u e => ?_) I.bare⟩
 ·by_cases hb : b = X.env.locals
  ·obtain ⟨o', es, ep, ho, _⟩ := hm'
   exact ⟨o', by rw [hb]; exact ho⟩
  ·exact ⟨o, k b o hb e⟩
 ·obtain ⟨o, es, ep, ho, hd, hs, hf⟩ := hm
  obtain ⟨o2, es2, ep2, ho2, hd2, hs2, hf2⟩ := q
  rw [ho] at ho2; cases ho2
  rw [hd] at hd2; cases hd2
  have : m' = m := funext fun x => (hf2 x).symm.trans (hf x)
  rw [this]; exact hm'
 ·by_cases hb : b = D
  ·subst hb
   rw [upd_same] at e; cases e
   exact ⟨hz, out, c, r, new⟩
  ·rw [upd_ne hb] at e
   refine (I.hok b u e).stay (fun a v hc q => k a v ?_ q) (fun a q => by rw [upd_ne (neD a _ q)]; exact q) fun a xs q => by rw [upd_ne (neD a _ q)]; exact q
   rcases hc with z | z
   ·rw [z]; exact neL b u e
   ·exact neL a _ z
theorem sort_idle {P : Program} {w : World} {B : Around} {E : Value -> Shared -> Prop} {s : Shared} {a : Addr} {us : List Value} {n : Nat} {R : PySem.Fin -> Shared -> Prop} (at_ : s.heap.get? a = some (seqObj "list" us.toArray n)) (few : us.length < 2)
  (k : ∀ c g, (∀ b o, b ≠ a -> s.heap.get? b = some o -> g.get? b = some o) -> g.get? a = some (listOf us.toArray c) -> R (.done (.ret .none)) { s with heap := g }) : wpAny (model P w) B (Builtin.«list.sort» ⟨[.ref a], []⟩) R E s := by
 obtain ⟨ep, gone⟩ : ∃ ep, (s.heap.update a (Obj.mapSeq fun _ => (#[] : Array Value))).get? a = some (seqObj "list" #[] ep) := ⟨_, get?_update_seq at_ fun _ => #[]⟩
 have fits : us.toArray.size <= sizeLine := by rw [sizeLine_eq, List.size_toArray]; omega
 have small : us.toArray.size < 2 := by simpa using few
 rw [list_sort_plain]
 refine wpAny_bind (listItems_at at_ rfl (wpAny_bind (listUpdate_at at_ rfl (wpAny_bind (seqEpoch_at gone rfl (wpAny_bind (wpAny_newTuple (wpAny_bind (wpAny_newList (wpAny_holding ?_) (Nat.zero_le _))) (by simpa using fits))))) fits (Nat.zero_le _))))
 have two : ∀ b o, (s.heap.update a (Obj.mapSeq fun _ => (#[] : Array Value))).get? b = some o -> (((s.heap.update a (Obj.mapSeq fun _ => (#[] : Array Value))).push (seqObj "tuple" us.toArray 0)).push (seqObj "list" #[] 0)).get? b = some o := fun b o q => Heap.get?_push_of_some _ (Heap.get?_push_of_some _ q)
 change wpAny (model P w) B _ R E { s with heap := ((s.heap.update a (Obj.mapSeq fun _ => (#[] : Array Value))).push (seqObj "tuple" us.toArray 0)).push (seqObj "list" #[] 0) }
 have still := two _ _ gone
 have others : ∀ b o, b ≠ a -> s.heap.get? b = some o -> (((s.heap.update a (Obj.mapSeq fun _ => (#[] : Array Value))).push (seqObj "tuple" us.toArray 0)).push (seqObj "list" #[] 0)).get? b = some o := fun b o nb q => two b o (((Heap.SameBut.update s.heap a _).2 b nb).trans q)
 generalize (((s.heap.update a (Obj.mapSeq fun _ => (#[] : Array Value))).push (seqObj "tuple" us.toArray 0)).push (seqObj "list" #[] 0)) = g at still others ⊢
 dsimp only
 rw [if_pos small, if_pos small]
 refine wpAny_bind (wpAny_pure (wpAny_bind (wpAny_pure ?_)))
 have same : (arrOf (SortSt.mk' general' (us.toArray.zip us.toArray) #[] 7 none)).map (·.2) = us.toArray := Array.toList_inj.mp (by show ((us.toArray.zip us.toArray).map (·.2)).toList = _; simp [List.map_snd_zip])
 dsimp only
 rw [same]
 refine wpAny_bind (seqEpoch_at still rfl (wpAny_bind (listUpdate_at still rfl ?_ (Nat.zero_le _) (Nat.le_succ_of_le fits))))
 obtain ⟨c, back⟩ : ∃ c, (g.update a (Obj.mapSeq fun _ => us.toArray)).get? a = some (seqObj "list" us.toArray c) := ⟨_, get?_update_seq still fun _ => us.toArray⟩
 simp only [bne_self_eq_false, if_false, Bool.false_eq_true]
 exact wpAny_pure (k c _ (fun b o nb q => ((Heap.SameBut.update g a _).2 b nb).trans (others b o nb q)) back)
theorem sorted_short {P : Program} {w : World} {B : Around} {E : Value -> Shared -> Prop} {s : Shared} {l : Addr} {us : List Value} {R : Value -> Shared -> Prop} (at_ : s.heap.IsList l us.toArray) (few : us.length < 2)
  (k : ∀ D c g, (∀ b o, s.heap.get? b = some o -> g.get? b = some o) -> (∀ b o, s.heap.get? b = some o -> b ≠ D) -> g.get? D = some (listOf us.toArray c) -> R (.ref D) { s with heap := g }) : wpAny (model P w) B (call (.builtin "sorted") [.ref l]) R E s := by
 have fits : us.length <= sizeLine := by rw [sizeLine_eq]; omega
 refine Calls.call_function_entry kind_sorted plain_sorted entry_sorted (args_sorted1 _) (wpAny_bind (m := checkCount "sorted" 1 1 _) (wpAny_pure (wpAny_bind (collect_list at_ (wpAny_bind (wpAny_newList ?_ fits)) (by simpa using fits)))))
 have size : ((s.heap.push (seqObj "list" #[] 0)).update s.heap.objs.size (Obj.mapSeq fun x => x ++ us.toArray)).objs.size = s.heap.objs.size + 1 := (Heap.size_update ..).trans (size_push' ..)
 have stay : ∀ b o, s.heap.get? b = some o -> b ≠ s.heap.objs.size + 1 /\ ((s.heap.push (seqObj "list" #[] 0)).update s.heap.objs.size (Obj.mapSeq fun x => x ++ us.toArray)).get? b = some o := fun b o q =>
  have lt : b < s.heap.objs.size := Heap.lt_size q
  ⟨Nat.ne_of_lt (Nat.lt_succ_of_lt lt), (Heap.get?_update_ne _ _ _ _ (Nat.ne_of_lt lt)).trans ((Heap.get?_push_ne _ _ _ (Nat.ne_of_lt lt)).trans q)⟩
 change wpAny (model P w) _ _ _ E { s with heap := ((s.heap.push (seqObj "list" #[] 0)).update s.heap.objs.size (Obj.mapSeq fun x => x ++ us.toArray)).push (seqObj "list" us.toArray 0) }
 have here : (((s.heap.push (seqObj "list" #[] 0)).update s.heap.objs.size (Obj.mapSeq fun x => x ++ us.toArray)).push (seqObj "list" us.toArray 0)).get? (s.heap.objs.size + 1) = some (seqObj "list" us.toArray 0) := size ▸ Heap.get?_push_size _ rfl
 rw [size]
 generalize (s.heap.push (seqObj "list" #[] 0)).update s.heap.objs.size (Obj.mapSeq fun x => x ++ us.toArray) = g at here stay ⊢
 refine wpAny_bind (wpAny_holding (wpAny_call_entry slot_list_sort ⟨_, here, rfl⟩ entry_list_sort (sort_idle (s := { s with heap := g.push (seqObj "list" us.toArray 0) }) here few fun c g2 kp new => ?_) (args_list_sort _)))
 exact ⟨_, rfl, wpAny_pure ⟨_, rfl, k _ c g2 (fun b o q => kp b o (stay b o q).1 (Heap.get?_push_of_some _ (stay b o q).2)) (fun b o q => (stay b o q).1) new⟩⟩
theorem tups_of {h : Heap} : ∀ {vs : List Value}, (∀ v ∈ vs, ∃ a k t z, v = .ref a /\ IsTup h a #[.str k t, .ref z]) -> ∃ fs, fs.length = vs.length /\ KatTups h vs fs /\ ∀ f ∈ fs, ∃ k t, f = Value.str k t
 | [], _ => ⟨[], rfl, .nil, by simp⟩
 | v :: vs, g => by
  obtain ⟨fs, h1, h2, h3⟩ := tups_of (vs := vs) fun x hx => g x (List.mem_cons_of_mem _ hx)
  obtain ⟨a, k, t, z, rfl, o, ho, hc, n, hd⟩ := g v List.mem_cons_self
  refine ⟨.str k t :: fs, by rw [List.length_cons, List.length_cons, h1], .cons ho hc hd rfl h2, fun f hf => ?_⟩
  rcases List.mem_cons.mp hf with rfl | hf
  ·exact ⟨k, t, rfl⟩
  ·exact h3 f hf
theorem vals_maps {γ : Type} {f : γ -> V} {g : γ -> Value} (h : ∀ x, RelV (f x) (g x)) : ∀ l : List γ, Vals (l.map f) (l.map g)
 | [] => .nil
 | x :: l => .cons (h x) (vals_maps h l)
end
end L2
namespace L2
open PySem PySem.W PySem.Spec PyProof.Rows
def Itd (d : Addr) (o : Obj) (kvs : List (Key × V)) : It := ⟨fun i H => H d = some (.frz o (.dK kvs)) /\ i < kvs.length, fun i H v H' => H' = H /\ ∃ kv, kvs[i]? = some kv /\ v = kV kv.1, fun i H => H d = some (.frz o (.dK kvs)) /\ kvs.length <= i⟩
theorem turn_dict {P : Program} {w : World} {K : Frag} {tg : Expr} (d it : Addr) (hne : d ≠ it) (o : Obj) (kvs : List (Key × V)) (vs : List (Key × Value)) (ep : Nat) (rk : KV kvs vs) (hD : ∀ h : Heap, h.get? d = some o -> h.DictAt (mixKind P w) d vs ep) :
  Turn P w K tg (Itd d o kvs) [it] it (fun i h => i <= kvs.length /\ h.IsKeyIter it d i vs.length ep) where
 mem := by simp
 obj := fun i h st b hb => by
  obtain rfl : b = it := by simpa using hb
  obtain ⟨_, o, e, c, d⟩ := st
  exact ⟨o, e, fun v z => by rw [d] at z; cases z⟩
 keep := fun i h h' st k => by
  obtain ⟨l, o, e, r⟩ := st
  exact ⟨l, o, k it (by simp) _ e, r⟩
 item := by
  intro X hP hw hK hc i pins s σ H E I hf st hg
  subst hP hw hK
  obtain ⟨f0, f1, f2, f3, f4, f5⟩ := hf it (by simp)
  have hl : kvs.length = vs.length := rk.length
  have hd := hD s.heap (show ObjOk X.prog X.w H s.heap d (.frz o (.dK kvs)) from I.hok d _ hg.1).1
  refine (Walks.dictKeys (knd := mixKind X.prog X.w) (I.ok.hd hc) it d hne vs ep).item i s _ _ (by have := hg.2; omega) ⟨st.2, hd⟩ fun v h' tk hv st' kk => ?_
  obtain ⟨k, x, hx, hk⟩ := hv
  have I1 : Inv X pins σ H { s with heap := h', toks := tk } := I.turned (fun b o hb e => kk b o (by simpa using hb) e) f0 f1 f3 f4 f5
  obtain ⟨ob, e, cl, dt⟩ := id st'.1
  have hil : i < kvs.length := hg.2
  have hki : kvs[i]? = some kvs[i] := List.getElem?_eq_getElem hil
  have ek : kvs[i].1 = k := by
   have h1 := congrArg (fun l => l[i]?) rk.keys
   simp only [List.getElem?_map, hki, hx] at h1
   exact Option.some.inj h1
  exact ⟨_, rfl, go_of (s := { s with heap := h', toks := tk }) e cl dt (by decide) ⟨kV k, H, I1, key_rel hk, ⟨rfl, kvs[i], hki, by rw [ek]⟩, ⟨hg.2, st'.1⟩, fun b hb => (hf b hb).1⟩⟩
 done := by
  intro X hP hw hK hc i pins s σ H E I hf st hg
  subst hP hw hK
  obtain ⟨f0, f1, f2, f3, f4, f5⟩ := hf it (by simp)
  have ei : i = kvs.length := Nat.le_antisymm st.1 hg.2
  have hl : kvs.length = vs.length := rk.length
  have hd := hD s.heap (show ObjOk X.prog X.w H s.heap d (.frz o (.dK kvs)) from I.hok d _ hg.1).1
  have st2 := st.2
  rw [ei, hl] at st2
  exact (Walks.dictKeys (knd := mixKind X.prog X.w) (I.ok.hd hc) it d hne vs ep).done s _ _ ⟨st2, hd⟩ fun h' tk kk => ⟨rfl, I.turned (fun b o hb e => kk b o (by simpa using hb) e) f0 f1 f3 f4 f5⟩
 self := fun A i s Q E st h => wpAny_pyIter_keyiter st.2 h
section
variable {X : Cx} {tg : Expr}
theorem Inv.freeze {pins : List (Addr × Obj)} {σ : List (Option V)} {H : Hp} {s : Shared} {d : Addr} {kvs : List (Key × V)} {o : Obj} (I : Inv X pins σ H s) (hd : H d = some (.dK kvs)) (ho : s.heap.get? d = some o) : Inv X pins σ (upd H d (.frz o (.dK kvs))) s := by
 have ok : ObjOk X.prog X.w H s.heap d (.dK kvs) := I.hok d _ hd
 have nd : ∀ {b : Addr} {u : HO}, H b = some u -> u ≠ .dK kvs -> b ≠ d := fun e n z => by rw [z, hd] at e; exact n (Option.some.inj e).symm
 refine I.un (h' := s.heap) (t' := s.toks) ⟨fun b ob q _ _ _ => q, fun b ob q _ _ _ => ⟨ob.slots, q⟩, fun b ob q n _ => ?_, fun b ob q _ => ⟨ob, q⟩, fun b xs e => ?_, fun b ob u e => ?_, fun b ps e => ⟨#[], ?_⟩⟩ fun b u e => ?_
 ·rw [upd_ne (fun z => by rw [z, hd] at n; cases n)]; exact n
 ·rw [upd_ne (nd e (by intro z; cases z))]; exact e
 ·rw [upd_ne (nd e (by intro z; cases z))]; exact e
 ·rw [upd_ne (nd e (by intro z; cases z)), e]; simp
 ·by_cases hb : b = d
  ·subst hb
   rw [upd_same] at e
   cases e
   exact ⟨ho, ok.stay (fun _ _ _ q => q) (fun c q => by rw [upd_ne (nd q (by intro z; cases z))]; exact q) fun c xs q => by rw [upd_ne (nd q (by intro z; cases z))]; exact q⟩
  ·rw [upd_ne hb] at e
   exact (I.hok b u e).stay (fun _ _ _ q => q) (fun c q => by rw [upd_ne (nd q (by intro z; cases z))]; exact q) fun c xs q => by rw [upd_ne (nd q (by intro z; cases z))]; exact q
def iDict (te : TE) : TI := fun σ H R => te σ H fun v H1 => ∃ d kvs, v = .ref d /\ ((H1 d = some (.dK kvs) /\ ∀ o, R (Itd d o kvs) (upd H1 d (.frz o (.dK kvs)))) \/ ∃ o, H1 d = some (.frz o (.dK kvs)) /\ R (Itd d o kvs) H1)
theorem pi_dict {e : Expr} {te : TE} (he : PE X e te) : PI X tg e (iDict te) := by
 intro pins s σ H R I h
 refine thn (he pins s σ H _ I h) fun v s1 ⟨y, H1, I1, r1, d, kvs, ey, q⟩ => ?_
 subst ey
 cases r1
 have rd : Rd H1 d (.dK kvs) := by
  rcases q with ⟨e, _⟩ | ⟨o, e, _⟩
  ·exact .inl e
  ·exact .inr ⟨o, e⟩
 obtain ⟨hz, hs, vs, rk, hdo⟩ := dk_rd I1.hok rd
 obtain ⟨o, es, ep, ho, hx, hdt, hk, hp, hn⟩ := id hdo
 refine wpAny_pyIter_dict (knd := mixKind X.prog X.w) (kvs := vs) (ep := ep) hs ⟨o, es, ho, hx, hdt, hk, hp, hn⟩ ?_
 have hne : d ≠ s1.heap.objs.size := Nat.ne_of_lt (Heap.lt_size ho)
 have hD : ∀ h : Heap, h.get? d = some o -> h.DictAt (mixKind X.prog X.w) d vs ep := fun h e => ⟨o, es, e, hx, hdt, hk, hp, hn⟩
 have I2 : Inv X pins σ H1 { s1 with heap := s1.heap.push { cls := .type "dict_keyiterator", data := .fields #[.ref d, .int 0 0, .int vs.length 0, .int ep 0] } } := I1.kept (t' := s1.toks) fun b ob z => Heap.get?_push_of_some _ z
 have st : 0 <= kvs.length /\ Heap.IsKeyIter (s1.heap.push { cls := .type "dict_keyiterator", data := .fields #[.ref d, .int 0 0, .int vs.length 0, .int ep 0] }) s1.heap.objs.size d 0 vs.length ep := ⟨Nat.zero_le _, _, Heap.get?_push_size _ rfl, rfl, rfl⟩
 have hfr : H1 s1.heap.objs.size = none := I1.hok.fresh (Nat.le_refl _)
 rcases q with ⟨e, q⟩ | ⟨o', e, q⟩
 ·refine ⟨s1.heap.objs.size, [s1.heap.objs.size], _, _, _, rfl, I2.freeze e (Heap.get?_push_of_some _ ho), turn_dict d s1.heap.objs.size hne o kvs vs ep rk hD, st, fun b hb => ?_, q o⟩
  obtain rfl : b = s1.heap.objs.size := by simpa using hb
  exact I1.fpOk (Nat.le_refl _) (by rw [upd_ne (Ne.symm hne)]; exact hfr)
 ·obtain rfl : o' = o := by
   have := (show ObjOk X.prog X.w H1 s1.heap d (.frz o' (.dK kvs)) from I1.hok d _ e).1
   rw [ho] at this; exact (Option.some.inj this).symm
  refine ⟨s1.heap.objs.size, [s1.heap.objs.size], _, _, H1, rfl, I2, turn_dict d s1.heap.objs.size hne o' kvs vs ep rk hD, st, fun b hb => ?_, q⟩
  obtain rfl : b = s1.heap.objs.size := by simpa using hb
  exact I1.fpOk (Nat.le_refl _) hfr
end
end L2
namespace L2
open PySem PySem.W PySem.Spec PyProof.Rows
def leS (a b : Str) : Prop := a.cps.toList <= b.cps.toList
theorem leS_anti {a b : Str} (h1 : leS a b) (h2 : leS b a) : a = b := by
 have e : a.cps.toList = b.cps.toList := List.le_antisymm h1 h2
 cases a; cases b
 exact congrArg Str.mk (Array.toList_inj.mp e)
theorem comp_dict {d : Addr} {o : Obj} {kvs : List (Key × V)} {g : TG} {ti : TT} {te : TE} {τ0 : St} {Q : VK} {p : Addr} {H1 : Hp} (Pv : Nat -> List V -> St -> Hp -> Prop) (h0 : Pv 0 [] τ0 (upd H1 p (.lst []))) (hl : ∀ i ys τ H, Pv i ys τ H -> H p = some (.lst ys) /\ H d = some (.frz o (.dK kvs)))
  (hs : ∀ i kv ys τ H, kvs[i]? = some kv -> Pv i ys τ H -> g (kV kv.1) τ H fun τ4 H4 => ti τ4 H4 fun b H5 => if b = true then te τ4 H5 fun y H6 => H6 p = some (.lst ys) /\ ys.length < sizeLine /\ ∃ m', m' < kvs.length - i /\ CW Pv kvs.length (i + 1) m' (ys ++ [y]) τ4 (upd H6 p (.lst (ys ++ [y]))) else ∃ m', m' < kvs.length - i /\ CW Pv kvs.length (i + 1) m' ys τ4 H5)
  (hd : ∀ ys τ H, Pv kvs.length ys τ H -> Q (.ref p) H) : CompW (Itd d o kvs) g ti te τ0 Q p H1 := by
 refine ⟨CW Pv kvs.length, ⟨kvs.length, by simp, Nat.zero_le _, h0⟩, ?_⟩
 rintro i m ys τ H ⟨rfl, hi, pv⟩
 obtain ⟨hp, hq⟩ := hl i ys τ H pv
 refine ⟨hp, ?_⟩
 by_cases hlt : i < kvs.length
 ·refine .inr ⟨⟨hq, hlt⟩, fun x H3 y3 => ?_⟩
  obtain ⟨e3, kv, hkv, ex⟩ := y3
  subst e3
  subst ex
  exact hs i kv ys τ _ hkv pv
 ·have e : i = kvs.length := by omega
  subst e
  exact .inl ⟨⟨hq, Nat.le_refl _⟩, hd ys τ H pv⟩
end L2
namespace HS
open PySem PySem.Spec PyProof.Rows
end HS
namespace HS
open PySem PySem.Spec PyProof.Rows
end HS
namespace HS
open PySem PySem.Spec PyProof.Rows
end HS
namespace HS
open PySem PySem.Spec PyProof.Rows
section
variable {P : Program} {w : World} {A : Around} {E : Value -> Shared -> Prop} {s : Shared} {a : Addr} {xs : List Str}
theorem strs_len {vs : List Value} {ys : List Str} (h : StrsAre vs ys) : vs.length = ys.length := by
 induction h with
 | nil => rfl
 | cons _ _ _ ih => rw [List.length_cons, List.length_cons, ih]
end
end HS
namespace HS
open PySem PySem.Spec PyProof.Rows
end HS
namespace HS
open PySem PySem.Spec PyProof.Rows PySem.W
end HS
namespace L2
open PySem PySem.Spec PyProof.Rows PySem.W HS
theorem strs_at : ∀ {vs : List Value} {ys : List Str}, StrsAre vs ys -> ∀ (i : Nat) (v : Value), vs[i]? = some v -> ∃ t, v = .str (ys.getD i "") t
 | _, _, .nil, i, v, h => by simp at h
 | _, _, .cons y t r, 0, v, h => by simp at h; exact ⟨t, by rw [<- h]; rfl⟩
 | _, _, .cons y t r, i + 1, v, h => by
  obtain ⟨t', e⟩ := strs_at r i v (by simpa using h)
  exact ⟨t', by rw [e]; rfl⟩
end L2
namespace L2
open PySem PySem.W PySem.Calls PyProof.Rows
structure Ord (n : Nat) (lt : Nat -> Nat -> Bool) : Prop where
 tr : ∀ i j k, lt i j = true -> lt j k = true -> lt i k = true
 tot : ∀ i j, i < n -> j < n -> i ≠ j -> lt i j = false -> lt j i = true
def GoodO {α : Type} (n : Nat) (lt : Nat -> Nat -> Bool) (φ : α -> Prop) : KasT α -> Prop
 | .ret a => φ a
 | .ask i j k => i < n /\ j < n /\ GoodO n lt φ (k (lt i j))
section
variable {α β : Type} {n : Nat} {lt : Nat -> Nat -> Bool}
theorem GoodO.bind {φ : α -> Prop} {ψ : β -> Prop} {f : α -> KasT β} (g : ∀ a, φ a -> GoodO n lt ψ (f a)) : ∀ {t : KasT α}, GoodO n lt φ t -> GoodO n lt ψ (t.bind f)
 | .ret a, h => g a h
 | .ask _ _ _, h => ⟨h.1, h.2.1, GoodO.bind g h.2.2⟩
theorem GoodO.wp {φ : α -> Prop} {cmp : Nat -> Nat -> (Bool -> Shared -> Prop) -> Shared -> Prop} {Q : α -> Shared -> Prop} {s : Shared} (hc : ∀ i j C, i < n -> j < n -> C (lt i j) s -> cmp i j C s) : ∀ {t : KasT α}, GoodO n lt φ t -> (∀ a, φ a -> Q a s) -> t.kasWp cmp Q s
 | .ret a, h, q => q a h
 | .ask _ _ _, h, q => hc _ _ _ h.1 h.2.1 (GoodO.wp hc h.2.2 q)
theorem GoodO.mono {φ ψ : α -> Prop} (g : ∀ a, φ a -> ψ a) : ∀ {t : KasT α}, GoodO n lt φ t -> GoodO n lt ψ t
 | .ret a, h => g a h
 | .ask _ _ _, h => ⟨h.1, h.2.1, GoodO.mono g h.2.2⟩
def Asc (lt : Nat -> Nat -> Bool) (p : Array Nat) (k : Nat) : Prop := ∀ i j, i < j -> j < k -> lt (p.getD i 0) (p.getD j 0) = true
def Dsc (lt : Nat -> Nat -> Bool) (p : Array Nat) (k : Nat) : Prop := ∀ i j, i < j -> j < k -> lt (p.getD j 0) (p.getD i 0) = true
theorem Pm.size {p : Array Nat} (h : Pm n p) : p.size = n := by have := h.length_eq; simpa using this
theorem Pm.ne {p : Array Nat} (h : Pm n p) {i j : Nat} (hi : i < n) (hj : j < n) (e : i ≠ j) : p.getD i 0 ≠ p.getD j 0 := by
 have hs := h.size
 have nd : p.toList.Nodup := h.nodup_iff.mpr List.nodup_range
 intro z
 rw [Array.getD_eq_getD_getElem?, Array.getD_eq_getD_getElem?, Array.getElem?_eq_getElem (by omega), Array.getElem?_eq_getElem (by omega)] at z
 have z2 : p.toList[i]'(by simp; omega) = p.toList[j]'(by simp; omega) := by simpa using z
 exact e ((List.getElem_inj nd).mp z2)
theorem flip_ {p : Array Nat} (O : Ord n lt) (h : Pm n p) {i j : Nat} (hi : i < n) (hj : j < n) (e : i ≠ j) (f : lt (p.getD i 0) (p.getD j 0) = false) : lt (p.getD j 0) (p.getD i 0) = true :=
 O.tot _ _ (h.lt (by omega) i) (h.lt (by omega) j) (h.ne hi hj e) f
theorem Asc.step {p : Array Nat} (O : Ord n lt) {m : Nat} (h1 : 1 <= m) (a : Asc lt p m) (l : lt (p.getD (m - 1) 0) (p.getD m 0) = true) : Asc lt p (m + 1) := fun i j hij hj => by
 by_cases e : j < m
 ·exact a i j hij e
 ·obtain rfl : j = m := by omega
  by_cases e2 : i = j - 1
  ·rw [e2]; exact l
  ·exact O.tr _ _ _ (a i (j - 1) (by omega) (by omega)) l
theorem Dsc.step {p : Array Nat} (O : Ord n lt) {m : Nat} (h1 : 1 <= m) (a : Dsc lt p m) (l : lt (p.getD m 0) (p.getD (m - 1) 0) = true) : Dsc lt p (m + 1) := fun i j hij hj => by
 by_cases e : j < m
 ·exact a i j hij e
 ·obtain rfl : j = m := by omega
  by_cases e2 : i = j - 1
  ·rw [e2]; exact l
  ·exact O.tr _ _ _ l (a i (j - 1) (by omega) (by omega))
theorem ord_asc {p : Array Nat} (O : Ord n lt) (h : Pm n p) : ∀ (f m : Nat), 1 <= m -> m + f <= n -> Asc lt p m -> GoodO n lt (fun r => m <= r /\ r <= m + f /\ Asc lt p r /\ (r < m + f -> lt (p.getD r 0) (p.getD (r - 1) 0) = true)) (kas_asc p f m)
 | 0, m, h1, h2, a => ⟨Nat.le_refl _, Nat.le_refl _, a, fun z => absurd z (by omega)⟩
 | f + 1, m, h1, h2, a => ⟨h.lt (by omega) _, h.lt (by omega) _, by
  cases c : lt (p.getD m 0) (p.getD (m - 1) 0) with
  | true => exact ⟨Nat.le_refl _, by omega, a, fun _ => c⟩
  | false =>
   refine GoodO.mono (fun r hr => ?_) (ord_asc O h f (m + 1) (by omega) (by omega) (a.step O h1 (flip_ O h (by omega) (by omega) (by omega) c)))
   exact ⟨by omega, by omega, hr.2.2.1, fun z => hr.2.2.2 (by omega)⟩⟩
theorem ord_desc {p : Array Nat} (O : Ord n lt) (h : Pm n p) : ∀ (f m : Nat), 1 <= m -> m + f <= n -> Dsc lt p m -> GoodO n lt (fun r : Array Nat × Nat × Nat => r.1 = p /\ r.2.2 = 0 /\ m <= r.2.1 /\ r.2.1 <= m + f /\ Dsc lt p r.2.1) (kas_desc f p m 0)
 | 0, m, h1, h2, a => ⟨rfl, rfl, Nat.le_refl _, Nat.le_refl _, a⟩
 | f + 1, m, h1, h2, a => ⟨h.lt (by omega) _, h.lt (by omega) _, by
  cases c : lt (p.getD m 0) (p.getD (m - 1) 0) with
  | true =>
   show GoodO n lt _ (if 0 > 0 then kas_desc f (kas_rev p (m - (0 + 1)) m) (m + 1) 0 else kas_desc f p (m + 1) 0)
   rw [if_neg (by omega)]
   refine GoodO.mono (fun r hr => ?_) (ord_desc O h f (m + 1) (by omega) (by omega) (a.step O h1 c))
   exact ⟨hr.1, hr.2.1, by omega, by omega, hr.2.2.2.2⟩
  | false =>
   refine ⟨h.lt (by omega) _, h.lt (by omega) _, ?_⟩
   rw [flip_ O h (by omega) (by omega) (by omega) c]
   exact ⟨rfl, rfl, Nat.le_refl _, Nat.le_add_right _ _, a⟩⟩
theorem getD_rev {p : Array Nat} {m : Nat} (hm : m <= p.size) (k : Nat) (hk : k < m) : (kas_rev p 0 m).getD k 0 = p.getD (m - 1 - k) 0 := by
 unfold kas_rev
 rw [Array.getD_eq_getD_getElem?, getElem?_mirror_all hm, if_pos ⟨Nat.zero_le _, hk⟩, Array.getD_eq_getD_getElem?, Nat.zero_add]
theorem Dsc.rev {p : Array Nat} {m : Nat} (hm : m <= p.size) (a : Dsc lt p m) : Asc lt (kas_rev p 0 m) m := fun i j hij hj => by
 rw [getD_rev hm i (by omega), getD_rev hm j hj]
 exact a _ _ (by omega) (by omega)
def RunOk (n : Nat) (lt : Nat -> Nat -> Bool) (r : Nat × Array Nat) : Prop := Pm n r.2 /\ Asc lt r.2 r.1 /\ 1 <= r.1 /\ r.1 <= n
theorem ord_tail3 {p : Array Nat} (O : Ord n lt) (h : Pm n p) {m : Nat} (h1 : 1 <= m) (h2 : m <= n) (a : Dsc lt p m) : GoodO n lt (RunOk n lt) (kas_tail3 m n p) :=
 GoodO.bind (ψ := RunOk n lt) (f := fun k => .ret (k, kas_rev p 0 m)) (fun r hr => (show RunOk n lt (r, kas_rev p 0 m) from ⟨h.rev _ _, hr.2.2.1, Nat.le_trans h1 hr.1, by have := hr.2.1; show r <= n; omega⟩)) (ord_asc O (h.rev 0 m) (n - m) m h1 (by omega) (a.rev (by rw [h.size]; exact h2)))
theorem ord_count {p : Array Nat} (O : Ord n lt) (hn : 2 <= n) (h : Pm n p) : GoodO n lt (RunOk n lt) (kas_count n p) :=
 (ord_asc O h (n - 1) 1 (Nat.le_refl _) (by omega) (fun i j hij hj => absurd hj (by omega))).bind fun m hm => by
  obtain ⟨m1, m2, ma, ml⟩ := hm
  show GoodO n lt _ (if (m == n) = true then _ else if m > 1 then _ else _)
  split
  ·rename_i e
   have : m = n := by simpa using e
   subst this
   exact ⟨h, ma, m1, Nat.le_refl _⟩
  ·rename_i e
   have ne : m ≠ n := by simpa using e
   split
   ·rename_i g
    refine ⟨h.lt (by omega) _, h.lt (by omega) _, ?_⟩
    rw [ma 0 (m - 1) (by omega) (by omega)]
    exact ⟨h, ma, m1, by omega⟩
   ·obtain rfl : m = 1 := by omega
    have l := ml (by omega)
    have d2 : Dsc lt p 2 := fun i j hij hj => by
     obtain rfl : j = 1 := by omega
     obtain rfl : i = 0 := by omega
     exact l
    refine GoodO.bind (fun r hr => ?_) (ord_desc O h (n - (1 + 1)) (1 + 1) (by omega) (by omega) d2)
    obtain ⟨r1, r2, r3, r4, r5⟩ := hr
    show GoodO n lt _ (if r.2.2 > 0 then _ else _)
    rw [if_neg (by omega), r1]
    exact ord_tail3 O h (by omega) (by omega) r5
theorem ord_place {p : Array Nat} (O : Ord n lt) (h : Pm n p) {k : Nat} (hk : k < n) (a : Asc lt p k) : ∀ (f l r : Nat), r - l <= f -> l <= r -> r <= k -> (∀ i, i < l -> lt (p.getD i 0) (p.getD k 0) = true) -> (∀ i, r <= i -> i < k -> lt (p.getD k 0) (p.getD i 0) = true) ->
  GoodO n lt (fun m => m <= k /\ (∀ i, i < m -> lt (p.getD i 0) (p.getD k 0) = true) /\ ∀ i, m <= i -> i < k -> lt (p.getD k 0) (p.getD i 0) = true) (kas_place p k f l r)
 | 0, l, r, hf, hl, hr, lo, hi => by
  obtain rfl : l = r := by omega
  exact ⟨hr, lo, hi⟩
 | f + 1, l, r, hf, hl, hr, lo, hi => by
  show GoodO n lt _ (if l ≥ r then _ else _)
  split
  ·obtain rfl : l = r := by omega
   exact ⟨hr, lo, hi⟩
  ·refine ⟨h.lt (by omega) _, h.lt (by omega) _, ?_⟩
   cases c : lt (p.getD k 0) (p.getD ((l + r) / 2) 0) with
   | true =>
    refine ord_place O h hk a f l ((l + r) / 2) (by omega) (by omega) (by omega) lo fun i hi1 hi2 => ?_
    by_cases e : i = (l + r) / 2
    ·rw [e]; exact c
    ·exact O.tr _ _ _ c (a _ i (by omega) hi2)
   | false =>
    have c2 := flip_ O h (i := k) (j := (l + r) / 2) hk (by omega) (by omega) c
    refine ord_place O h hk a f ((l + r) / 2 + 1) r (by omega) (by omega) hr (fun i hi1 => ?_) hi
    by_cases e : i = (l + r) / 2
    ·rw [e]; exact c2
    ·exact O.tr _ _ _ (a i _ (by omega) (by omega)) c2
theorem getD_bub {p : Array Nat} {k l : Nat} (hk : k < p.size) (hl : l <= k) (i : Nat) : (bubble p k (k - l)).getD i 0 = if i = l then p.getD k 0 else if l < i /\ i <= k then p.getD (i - 1) 0 else p.getD i 0 := by
 rw [Array.getD_eq_getD_getElem?, getElem?_bubble hk (k - l) (by omega)]
 have : k - (k - l) = l := by omega
 rw [this]
 by_cases c1 : i = l
 ·rw [if_pos c1, if_pos c1]; exact (Array.getD_eq_getD_getElem? ..).symm
 ·rw [if_neg c1, if_neg c1]
  by_cases c2 : l < i /\ i <= k
  ·rw [if_pos c2, if_pos c2]; exact (Array.getD_eq_getD_getElem? ..).symm
  ·rw [if_neg c2, if_neg c2]; exact (Array.getD_eq_getD_getElem? ..).symm
theorem ord_bin (O : Ord n lt) : ∀ (f : Nat) (p : Array Nat) (k : Nat), k + f = n -> Pm n p -> Asc lt p k -> GoodO n lt (fun r => Pm n r /\ Asc lt r n) (kas_bin f p k)
 | 0, p, k, e, h, a => by
  obtain rfl : k = n := by omega
  exact ⟨h, a⟩
 | f + 1, p, k, e, h, a => (ord_place O h (by omega) a k 0 k (by omega) (Nat.zero_le _) (Nat.le_refl _) (fun i hi => absurd hi (Nat.not_lt_zero _)) (fun i h1 h2 => absurd h2 (by omega))).bind fun l hl => by
  obtain ⟨l1, l2, l3⟩ := hl
  refine ord_bin O f _ _ (by omega) (h.bub _ _) fun i j hij hj => ?_
  have hsz := h.size
  rw [getD_bub (by omega) l1 i, getD_bub (by omega) l1 j]
  by_cases i1 : i = l
  ·rw [if_pos i1, if_neg (by omega), if_pos (by omega)]
   exact l3 _ (by omega) (by omega)
  ·rw [if_neg i1]
   by_cases i2 : l < i /\ i <= k
   ·rw [if_pos i2, if_neg (by omega), if_pos (by omega)]
    exact a _ _ (by omega) (by omega)
   ·rw [if_neg i2]
    by_cases j1 : j = l
    ·rw [if_pos j1]; exact l2 i (by omega)
    ·rw [if_neg j1]
     by_cases j2 : l < j /\ j <= k
     ·rw [if_pos j2]
      exact a _ _ (by omega) (by omega)
     ·rw [if_neg j2]
      exact a _ _ hij (by omega)
theorem ord_sort (O : Ord n lt) (hn : 2 <= n) : GoodO n lt (fun r => Pm n r /\ Asc lt r n) (kas_sort n) :=
 (ord_count O hn (List.Perm.refl _)).bind fun r hr => by
  obtain ⟨r1, r2, r3, r4⟩ := hr
  show GoodO n lt _ (if r.1 < n then _ else _)
  split
  ·refine ord_bin O _ _ _ (by omega) r1 ?_
   rw [show max r.1 1 = r.1 by omega]; exact r2
  ·obtain e : r.1 = n := by omega
   rw [e] at r2
   exact ⟨r1, r2⟩
end
end L2
namespace L2
open PySem PySem.W PySem.Calls PyProof.Rows
def ltS (p q : Str) : Bool := decide (p.cps.toList < q.cps.toList)
theorem ltS_self (p : Str) : ltS p p = false := decide_eq_false (List.lt_irrefl _)
theorem ltS_tr {p q r : Str} (h1 : ltS p q = true) (h2 : ltS q r = true) : ltS p r = true := decide_eq_true (List.lt_trans (of_decide_eq_true h1) (of_decide_eq_true h2))
theorem ltS_tot {p q : Str} (h : p ≠ q) (f : ltS p q = false) : ltS q p = true := by
 refine decide_eq_true ?_
 have h1 : ¬ p.cps.toList < q.cps.toList := of_decide_eq_false f
 have h2 : q.cps.toList <= p.cps.toList := List.not_lt.mp h1
 by_cases z : q.cps.toList < p.cps.toList
 ·exact z
 ·exact absurd (leS_anti (a := p) (b := q) (List.not_lt.mp z) h2) h
theorem lt_pairsO {prog : Program} {w : World} {A : Around} {E : Value -> Shared -> Prop} {s : Shared} {x y : Addr} {p q : Str} {t u : Tok} {v z : Addr} {C : Bool -> Shared -> Prop} (hx : IsTup s.heap x #[.str p t, .ref v]) (hy : IsTup s.heap y #[.str q u, .ref z]) (hd : p = q -> v = z) (h : C (ltS p q) s) :
  wpAny (model prog w) A (keyLt' (tuples' true) (.ref x) (.ref y)) C E s := by
 obtain ⟨ox, ex, cx, nx, dx⟩ := hx
 obtain ⟨oy, ey, cy, ny, dy⟩ := hy
 refine kat_lt ex dx ey dy (kat_cons (wpAny_eqBool_str ?_))
 by_cases e : p = q
 ·rw [decide_eq_true e]
  obtain rfl := hd e
  subst e
  rw [ltS_self] at h
  exact kat_yes (kat_cons (eqBool_ref (kat_yes (kat_nil h))))
 ·rw [decide_eq_false e]
  exact kat_no (kas_lt_str h)
theorem getD_pair {α β : Type} {F : α -> β -> Prop} {l : List α} {m : List β} (h : Paired F l m) (dl : α) (dm : β) (i : Nat) (hi : i < l.length) : F (l.getD i dl) (m.getD i dm) := by
 induction h generalizing i with
 | nil => exact absurd hi (Nat.not_lt_zero _)
 | cons p _ ih =>
  cases i with
  | zero => exact p
  | succ i => exact ih i (Nat.lt_of_succ_lt_succ hi)
theorem paired_map {α β γ : Type} {F : α -> β -> Prop} {f : γ -> α} {g : γ -> β} : ∀ {l : List γ}, (∀ x ∈ l, F (f x) (g x)) -> Paired F (l.map f) (l.map g)
 | [], _ => .nil
 | x :: l, h => .cons (h x List.mem_cons_self) (paired_map fun y hy => h y (List.mem_cons_of_mem _ hy))
theorem asc_pw {lt : Nat -> Nat -> Bool} {p : Array Nat} {n : Nat} (hs : p.size = n) (a : Asc lt p n) : p.toList.Pairwise fun i j => lt i j = true := by
 rw [List.pairwise_iff_getElem]
 intro i j hi hj hij
 have h1 : i < p.size := by simpa using hi
 have h2 : j < p.size := by simpa using hj
 have := a i j hij (by omega)
 rw [Array.getD_eq_getD_getElem?, Array.getD_eq_getD_getElem?, Array.getElem?_eq_getElem h1, Array.getElem?_eq_getElem h2] at this
 simpa using this
section
variable {X : Cx}
theorem call_sortedPO : CallR X (.builtin "sorted") (fun xs H Q => ∃ (p : Addr) (ys : List V) (kvs : List (Str × V)), xs = [.ref p] /\ SqL X.K H p ys /\ PairsV H ys kvs /\ (∀ q ∈ kvs, ∃ z, q.2 = V.ref z) /\ (kvs.map (·.1)).Nodup /\ ys.length <= 63 /\
  ∀ D ys' kvs', H D = none -> ys'.Perm ys -> PairsV H ys' kvs' -> kvs'.Perm kvs -> (kvs'.map (·.1)).Pairwise (fun a b => ltS a b = true) -> Q (.ref D) (upd H D (.lst ys'))) := by
 intro pins s σ H xs us Q I r ⟨p, ys, kvs, ex, hq, pr, hz2, nd, h63, q⟩
 subst ex
 obtain ⟨u, rfl, rx⟩ := vals1 r
 cases rx
 obtain ⟨its, rv, pl, hz⟩ := I.list hq
 have hl1 : ys.length = kvs.length := Paired.length pr
 have hl2 := rv.length
 have at_ : ∀ (i : Nat), i < its.length -> ∃ k a z t, (kvs.map (·.1))[i]? = some k /\ its[i]? = some (.ref a) /\ H a = some (.tup [.str k, .ref z]) /\ IsTup s.heap a #[.str k t, .ref z] := by
  intro i hi
  have hi' : i < ys.length := by omega
  obtain ⟨p', hp', a, ey, ha⟩ := pair_at pr (show ys[i]? = some ys[i] from List.getElem?_eq_getElem hi')
  obtain ⟨z, ez⟩ := hz2 p' (List.mem_of_getElem? hp')
  obtain ⟨u, hu, ru⟩ := rv.get (show ys[i]? = some (V.ref a) by rw [List.getElem?_eq_getElem hi', ey])
  cases ru
  obtain ⟨i2, r2, t2, _⟩ := I.tuple (SqT.of ha)
  obtain ⟨x, y, rfl, rx, ry⟩ := r2.two
  rw [ez] at ry ha
  cases ry
  obtain ⟨t, rfl⟩ : ∃ t, x = .str p'.1 t := rx
  exact ⟨p'.1, a, z, t, by rw [List.getElem?_map, hp']; rfl, hu, ha, t2⟩
 obtain ⟨m, hm, _⟩ := id I.loc
 let lt : Nat -> Nat -> Bool := fun i j => ltS ((kvs.map (·.1)).getD i "") ((kvs.map (·.1)).getD j "")
 have kl : (kvs.map (·.1)).length = its.length := by rw [List.length_map]; omega
 have O : Ord its.length lt := ⟨fun i j k h1 h2 => ltS_tr h1 h2, fun i j hi hj hij f => ltS_tot (fun e => hij ((List.getElem?_inj (by omega) nd).mp (by
  rw [List.getD_eq_getElem?_getD, List.getD_eq_getElem?_getD, List.getElem?_eq_getElem (by omega), List.getElem?_eq_getElem (by omega)] at e
  rw [List.getElem?_eq_getElem (by omega), List.getElem?_eq_getElem (by omega)]
  exact congrArg some e))) f⟩
 have fin : ∀ (h' : Heap) (D : Addr) (c : Nat) (pa : Array Nat), (∀ b o, b ≠ X.env.locals -> s.heap.get? b = some o -> h'.get? b = some o) -> h'.Ns X.env.locals m -> (∀ b o, s.heap.get? b = some o -> b ≠ D) -> Pm its.length pa -> (pa.toList.Pairwise fun i j => lt i j = true) ->
   h'.get? D = some (listOf (pa.toList.map fun i => its.getD i Value.none).toArray c) -> ∃ v H', Inv X pins σ H' { s with heap := h' } /\ RelV v (.ref D) /\ Q v H' := by
  intro h' D c pa k hm' hD hp srt new
  have inb : ∀ i ∈ pa.toList, i < its.length := fun i hi => List.mem_range.mp (hp.mem_iff.mp hi)
  have py : (pa.toList.map fun i => ys.getD i V.non).Perm ys := pm_map V.non (by rw [hl2]; exact hp)
  have hpk : Pm kvs.length pa := by rw [<- hl1, hl2]; exact hp
  have pk : (pa.toList.map fun i => kvs.getD i (("", V.non) : Str × V)).Perm kvs := pm_map _ hpk
  have pp : PairsV H (pa.toList.map fun i => ys.getD i V.non) (pa.toList.map fun i => kvs.getD i ("", V.non)) := paired_map fun i hi => getD_pair pr V.non ("", V.non) i (by have := inb i hi; omega)
  have ek : (pa.toList.map fun i => kvs.getD i ("", V.non)).map (·.1) = pa.toList.map fun i => (kvs.map (·.1)).getD i ("" : Str) := by
   rw [List.map_map]
   refine List.map_congr_left fun i hi => ?_
   have : i < kvs.length := by have := inb i hi; omega
   show (kvs.getD i ("", V.non)).1 = _
   rw [List.getD_eq_getElem?_getD, List.getD_eq_getElem?_getD, List.getElem?_map, List.getElem?_eq_getElem this]; rfl
  have rel : Vals (pa.toList.map fun i => ys.getD i V.non) (pa.toList.map fun i => its.getD i Value.none) := vals_maps (fun i => by
   by_cases hi : i < ys.length
   ·obtain ⟨u, hu, ru⟩ := rv.get (show ys[i]? = some ys[i] from List.getElem?_eq_getElem hi)
    rw [List.getD_eq_getElem?_getD, List.getD_eq_getElem?_getD, hu, List.getElem?_eq_getElem hi]; exact ru
   ·rw [List.getD_eq_getElem?_getD, List.getD_eq_getElem?_getD, List.getElem?_eq_none (by omega), List.getElem?_eq_none (by omega)]; trivial) pa.toList
  obtain ⟨hn, I'⟩ := Inv.sorted (t' := s.toks) I hm hm' k hD new rel (by rw [py.length_eq]; exact hz)
  refine ⟨.ref D, _, I', rfl, q D _ _ hn py pp pk ?_⟩
  rw [ek, List.pairwise_map]; exact srt
 have alls : ∀ v ∈ its, ∃ a k t z, v = Value.ref a /\ IsTup s.heap a #[.str k t, .ref z] /\ a ≠ X.env.locals := fun v hv => by
  obtain ⟨i, hi, rfl⟩ := List.getElem_of_mem hv
  obtain ⟨k, a, z, t, _, h2, h3, h4⟩ := at_ i hi
  rw [List.getElem?_eq_getElem hi] at h2
  exact ⟨a, k, t, z, Option.some.inj h2, h4, fun e => by rw [e, I.free] at h3; cases h3⟩
 by_cases h2 : its.length < 2
 ·refine sorted_short pl.isList h2 fun D c h' kp hD new => ?_
  obtain ⟨o, es, ep, ho, rr⟩ := id hm
  refine fin h' D c (List.range its.length).toArray (fun b o _ e => kp b o e) ⟨o, es, ep, kp _ _ ho, rr⟩ hD (List.Perm.refl _) ?_ ?_
  ·show (List.range its.length).Pairwise _
   have : its.length = 0 \/ its.length = 1 := by omega
   rcases this with z | z <;> rw [z]
   ·exact List.Pairwise.nil
   ·exact List.pairwise_singleton _ _
  ·have : (List.range its.length).map (fun i => its.getD i Value.none) = its := by
    apply List.ext_getElem
    ·simp
    ·intro i h1 h2; simp [List.getD, h2]
   show h'.get? D = some (listOf ((List.range its.length).map fun i => its.getD i Value.none).toArray c)
   rw [this]; exact new
 ·have h2 : 2 <= its.length := by omega
  obtain ⟨g0, hg0, hg1⟩ : ∃ g0 : Heap, g0.objs.size = 0 /\ ∀ b, g0.get? b = none := ⟨{ s.heap with objs := #[] }, rfl, fun b => Heap.get?_none_of_le (Nat.zero_le _)⟩
  have F : Fr g0 X.env.locals s.heap m := ⟨hm, fun b o e => (by rw [hg1] at e; cases e), by rw [hg0]; exact Nat.zero_le _⟩
  refine kat_sorted F (news_all (g := g0) (L := X.env.locals)) pl.isList h2 (by omega) fun D e1 h' F' N' lt' => ?_
  have kp : ∀ b o, b ≠ X.env.locals -> s.heap.get? b = some o -> h'.get? b = some o := fun b o n e => (N' (b, o) (List.mem_cons_of_mem _ (mem_allNews n (hg1 b) e))).1
  have tk : ∀ {a : Addr} {k : Str} {t : Tok} {z : Addr}, a ≠ X.env.locals -> IsTup s.heap a #[.str k t, .ref z] -> IsTup h' a #[.str k t, .ref z] := fun n ⟨o, ho, r⟩ => ⟨o, kp _ o n ho, r⟩
  obtain ⟨fs, hf1, hf2, hf3⟩ := tups_of (h := h') (vs := its) fun v hv => by
   obtain ⟨a, k, t, z, e, h4, n⟩ := alls v hv
   exact ⟨a, k, t, z, e, tk n h4⟩
  refine kat_kind (T := .type "str") hf2 (by omega) (fun f hf => ?_) (by decide) ?_
  ·obtain ⟨k, t, rfl⟩ := hf3 f hf
   exact Looks.of_pure rfl
  ·have hD : ∀ b o, s.heap.get? b = some o -> b ≠ D := fun b o e => by
    by_cases hb : b = X.env.locals
    ·rw [hb]; exact Ne.symm (N' _ List.mem_cons_self).2.1
    ·exact Nat.ne_of_lt (lt' (b, o) (mem_allNews hb (hg1 b) e))
   refine (ord_sort O h2).wp (fun i j C hi hj hC => ?_) fun pa hp => ?_
   ·obtain ⟨k, a, z, t, g1, g2, g3, g4⟩ := at_ i hi
    obtain ⟨k', a', z', t', g1', g2', g3', g4'⟩ := at_ j hj
    unfold kas_ask
    rw [List.getD_eq_getElem?_getD, List.getD_eq_getElem?_getD, g2, g2']
    have el : lt i j = ltS k k' := by show ltS ((kvs.map (·.1)).getD i "") ((kvs.map (·.1)).getD j "") = _; rw [List.getD_eq_getElem?_getD, List.getD_eq_getElem?_getD, g1, g1']; rfl
    rw [el] at hC
    refine lt_pairsO (tk (fun e => by rw [e, I.free] at g3; cases g3) g4) (tk (fun e => by rw [e, I.free] at g3'; cases g3') g4') (fun e => ?_) hC
    subst e
    have hij : i = j := (List.getElem?_inj (by rw [List.length_map]; omega) nd).mp (g1.trans g1'.symm)
    subst hij
    rw [g2] at g2'; cases g2'
    rw [g3] at g3'; cases g3'; rfl
   ·refine KasFin.intro F' N' (UpdF.head fun p hp => ?_) fun h'' c F'' N'' => ?_
    ·have := of_mem_allNews hp
     exact hD p.1 p.2 this.2.2
    ·exact fin h'' D c pa (fun b o n e => (N'' (b, o) (List.mem_cons_of_mem _ (mem_allNews n (hg1 b) e))).1) F''.ns hD hp.1 (asc_pw hp.1.size hp.2) (N'' _ List.mem_cons_self).1
end
end L2
namespace HS
open PySem PySem.Spec PyProof.Rows PySem.W
section
variable {P : Program} {w : World} {A : Around} {E : Value -> Shared -> Prop} {s : Shared}
theorem collect_tup {l : Addr} {vs : List Value} {Q : List Value -> Shared -> Prop} (ht : IsTup s.heap l vs.toArray) (hz : vs.length <= sizeLine) (q : ∀ h', (∀ b o, s.heap.get? b = some o -> h'.get? b = some o) -> Q vs { s with heap := h' }) :
  wpAny (model P w) A (collect (.ref l)) Q E s := by
 obtain ⟨o, ho, hc, n, hd⟩ := id ht
 unfold collect
 refine wpAny_bind (wpAny_runValue (codeAny_builtin PySem.F.entry_proto_collect ?_)); rw [Around.under_plainId PySem.F.plain_proto_collect _]
 show wpAny _ A.in1 (newList [] >>= fun z => again (.builtin "list.__iadd__" ⟨[z, .ref l], []⟩)) _ _ s
 refine wpAny_bind (wpAny_newList (wpAny_pure ⟨plainId_quiet PySem.F.plain_list_iadd _, codeAny_builtin PySem.F.entry_list_iadd ?_⟩)); rw [Around.under_plainId PySem.F.plain_list_iadd _]
 show wpAny _ _ (Builtin.List.listExtendWith (.ref s.heap.objs.size) (.ref l) (.ref s.heap.objs.size)) _ _ { s with heap := s.heap.push (seqObj "list" #[] 0) }
 unfold Builtin.List.listExtendWith
 have ho2 : (s.heap.push (seqObj "list" #[] 0)).get? l = some o := Heap.get?_push_of_some _ ho
 refine wpAny_bind (wpAny_typeOf (T := "tuple") ⟨o, ho2, hc⟩ ?_)
 have t1 : (Value.type "tuple" == Value.type "tuple") = true := by rfl
 rw [if_pos (by rw [t1]; simp)]
 refine wpAny_bind (listItems_at ho2 hd (wpAny_bind (listItems_at (xs := #[]) (n := 0) (Heap.get?_push_size _ rfl) rfl ?_)))
 rw [if_neg (by simp)]
 refine wpAny_bind (listUpdate_at (xs := #[]) (n := 0) (Heap.get?_push_size _ rfl) rfl (wpAny_pure ?_) (Nat.zero_le _) (by show (#[] ++ vs.toArray).size <= sizeLine + 1; simp only [Array.size_append, List.size_toArray, List.length_nil]; omega))
 show wpAny (model P w) A (load s.heap.objs.size >>= _) Q E { s with heap := (s.heap.push (seqObj "list" #[] 0)).update s.heap.objs.size (Obj.mapSeq (· ++ vs.toArray)) }
 refine wpAny_bind (wpAny_load (get?_update_seq (Heap.get?_push_size _ rfl) _) ?_)
 show wpAny _ _ (pure ((#[] : Array Value) ++ vs.toArray).toList) Q E _
 rw [show ((#[] : Array Value) ++ vs.toArray).toList = vs by simp]
 refine wpAny_pure (q _ fun b ob e => ?_)
 exact (Heap.get?_update_other _ _ (Nat.ne_of_gt (Heap.lt_size e))).trans (Heap.get?_push_of_some _ e)
end
end HS
namespace L2
open PySem PySem.Spec PyProof.Rows PySem.W HS
end L2
namespace HT
open PySem PyProof.Rows PySem.W
open PySem.AutoSeq1 (wpAny_loadPart')
end HT
namespace L2
open PySem PySem.Spec PyProof.Rows PySem.W HT
end L2
namespace L2
open PySem PySem.W PySem.Calls PyProof.Rows
structure OrdD (n : Nat) (lt : Nat -> Nat -> Bool) : Prop where
 tr : ∀ i j k, i < n -> j < n -> k < n -> lt i j = true -> lt j k = true -> lt i k = true
 tot : ∀ i j, i < n -> j < n -> i ≠ j -> lt i j = false -> lt j i = true
def GoodD {α : Type} (n : Nat) (lt : Nat -> Nat -> Bool) (φ : α -> Prop) : KasT α -> Prop
 | .ret a => φ a
 | .ask i j k => i < n /\ j < n /\ i ≠ j /\ GoodD n lt φ (k (lt i j))
section
variable {α β : Type} {n : Nat} {lt : Nat -> Nat -> Bool}
theorem GoodD.bind {φ : α -> Prop} {ψ : β -> Prop} {f : α -> KasT β} (g : ∀ a, φ a -> GoodD n lt ψ (f a)) : ∀ {t : KasT α}, GoodD n lt φ t -> GoodD n lt ψ (t.bind f)
 | .ret a, h => g a h
 | .ask _ _ _, h => ⟨h.1, h.2.1, h.2.2.1, GoodD.bind g h.2.2.2⟩
theorem GoodD.wp {φ : α -> Prop} {cmp : Nat -> Nat -> (Bool -> Shared -> Prop) -> Shared -> Prop} {Q : α -> Shared -> Prop} {s : Shared} (hc : ∀ i j C, i < n -> j < n -> i ≠ j -> C (lt i j) s -> cmp i j C s) : ∀ {t : KasT α}, GoodD n lt φ t -> (∀ a, φ a -> Q a s) -> t.kasWp cmp Q s
 | .ret a, h, q => q a h
 | .ask _ _ _, h, q => hc _ _ _ h.1 h.2.1 h.2.2.1 (GoodD.wp hc h.2.2.2 q)
theorem GoodD.mono {φ ψ : α -> Prop} (g : ∀ a, φ a -> ψ a) : ∀ {t : KasT α}, GoodD n lt φ t -> GoodD n lt ψ t
 | .ret a, h => g a h
 | .ask _ _ _, h => ⟨h.1, h.2.1, h.2.2.1, GoodD.mono g h.2.2.2⟩
theorem flipD {p : Array Nat} (O : OrdD n lt) (h : Pm n p) {i j : Nat} (hi : i < n) (hj : j < n) (e : i ≠ j) (f : lt (p.getD i 0) (p.getD j 0) = false) : lt (p.getD j 0) (p.getD i 0) = true :=
 O.tot _ _ (h.lt (by omega) i) (h.lt (by omega) j) (h.ne hi hj e) f
theorem ascD_step {p : Array Nat} (O : OrdD n lt) (h : Pm n p) {m : Nat} (h1 : 1 <= m) (hm : m < n) (a : Asc lt p m) (l : lt (p.getD (m - 1) 0) (p.getD m 0) = true) : Asc lt p (m + 1) := fun i j hij hj => by
 by_cases e : j < m
 ·exact a i j hij e
 ·obtain rfl : j = m := by omega
  by_cases e2 : i = j - 1
  ·rw [e2]; exact l
  ·exact O.tr _ _ _ (h.lt (by omega) _) (h.lt (by omega) _) (h.lt (by omega) _) (a i (j - 1) (by omega) (by omega)) l
theorem dscD_step {p : Array Nat} (O : OrdD n lt) (h : Pm n p) {m : Nat} (h1 : 1 <= m) (hm : m < n) (a : Dsc lt p m) (l : lt (p.getD m 0) (p.getD (m - 1) 0) = true) : Dsc lt p (m + 1) := fun i j hij hj => by
 by_cases e : j < m
 ·exact a i j hij e
 ·obtain rfl : j = m := by omega
  by_cases e2 : i = j - 1
  ·rw [e2]; exact l
  ·exact O.tr _ _ _ (h.lt (by omega) _) (h.lt (by omega) _) (h.lt (by omega) _) l (a i (j - 1) (by omega) (by omega))
theorem ordD_asc {p : Array Nat} (O : OrdD n lt) (h : Pm n p) : ∀ (f m : Nat), 1 <= m -> m + f <= n -> Asc lt p m -> GoodD n lt (fun r => m <= r /\ r <= m + f /\ Asc lt p r /\ (r < m + f -> lt (p.getD r 0) (p.getD (r - 1) 0) = true)) (kas_asc p f m)
 | 0, m, h1, h2, a => ⟨Nat.le_refl _, Nat.le_refl _, a, fun z => absurd z (by omega)⟩
 | f + 1, m, h1, h2, a => ⟨h.lt (by omega) _, h.lt (by omega) _, h.ne (by omega) (by omega) (by omega), by
  cases c : lt (p.getD m 0) (p.getD (m - 1) 0) with
  | true => exact ⟨Nat.le_refl _, by omega, a, fun _ => c⟩
  | false =>
   refine GoodD.mono (fun r hr => ?_) (ordD_asc O h f (m + 1) (by omega) (by omega) (ascD_step O h h1 (by omega) a (flipD O h (by omega) (by omega) (by omega) c)))
   exact ⟨by omega, by omega, hr.2.2.1, fun z => hr.2.2.2 (by omega)⟩⟩
theorem ordD_desc {p : Array Nat} (O : OrdD n lt) (h : Pm n p) : ∀ (f m : Nat), 1 <= m -> m + f <= n -> Dsc lt p m -> GoodD n lt (fun r : Array Nat × Nat × Nat => r.1 = p /\ r.2.2 = 0 /\ m <= r.2.1 /\ r.2.1 <= m + f /\ Dsc lt p r.2.1) (kas_desc f p m 0)
 | 0, m, h1, h2, a => ⟨rfl, rfl, Nat.le_refl _, Nat.le_refl _, a⟩
 | f + 1, m, h1, h2, a => ⟨h.lt (by omega) _, h.lt (by omega) _, h.ne (by omega) (by omega) (by omega), by
  cases c : lt (p.getD m 0) (p.getD (m - 1) 0) with
  | true =>
   show GoodD n lt _ (if 0 > 0 then kas_desc f (kas_rev p (m - (0 + 1)) m) (m + 1) 0 else kas_desc f p (m + 1) 0)
   rw [if_neg (by omega)]
   refine GoodD.mono (fun r hr => ?_) (ordD_desc O h f (m + 1) (by omega) (by omega) (dscD_step O h h1 (by omega) a c))
   exact ⟨hr.1, hr.2.1, by omega, by omega, hr.2.2.2.2⟩
  | false =>
   refine ⟨h.lt (by omega) _, h.lt (by omega) _, h.ne (by omega) (by omega) (by omega), ?_⟩
   rw [flipD O h (by omega) (by omega) (by omega) c]
   exact ⟨rfl, rfl, Nat.le_refl _, Nat.le_add_right _ _, a⟩⟩
def RunD (n : Nat) (lt : Nat -> Nat -> Bool) (r : Nat × Array Nat) : Prop := Pm n r.2 /\ Asc lt r.2 r.1 /\ 1 <= r.1 /\ r.1 <= n
theorem ordD_tail3 {p : Array Nat} (O : OrdD n lt) (h : Pm n p) {m : Nat} (h1 : 1 <= m) (h2 : m <= n) (a : Dsc lt p m) : GoodD n lt (RunD n lt) (kas_tail3 m n p) :=
 GoodD.bind (ψ := RunD n lt) (f := fun k => .ret (k, kas_rev p 0 m)) (fun r hr => (show RunD n lt (r, kas_rev p 0 m) from ⟨h.rev _ _, hr.2.2.1, Nat.le_trans h1 hr.1, by have := hr.2.1; show r <= n; omega⟩)) (ordD_asc O (h.rev 0 m) (n - m) m h1 (by omega) (a.rev (by rw [h.size]; exact h2)))
theorem ordD_count {p : Array Nat} (O : OrdD n lt) (hn : 2 <= n) (h : Pm n p) : GoodD n lt (RunD n lt) (kas_count n p) :=
 (ordD_asc O h (n - 1) 1 (Nat.le_refl _) (by omega) (fun i j hij hj => absurd hj (by omega))).bind fun m hm => by
  obtain ⟨m1, m2, ma, ml⟩ := hm
  show GoodD n lt _ (if (m == n) = true then _ else if m > 1 then _ else _)
  split
  ·rename_i e
   have : m = n := by simpa using e
   subst this
   exact ⟨h, ma, m1, Nat.le_refl _⟩
  ·rename_i e
   have ne : m ≠ n := by simpa using e
   split
   ·rename_i g
    refine ⟨h.lt (by omega) _, h.lt (by omega) _, h.ne (by omega) (by omega) (by omega), ?_⟩
    rw [ma 0 (m - 1) (by omega) (by omega)]
    exact ⟨h, ma, m1, by omega⟩
   ·obtain rfl : m = 1 := by omega
    have l := ml (by omega)
    have d2 : Dsc lt p 2 := fun i j hij hj => by
     obtain rfl : j = 1 := by omega
     obtain rfl : i = 0 := by omega
     exact l
    refine GoodD.bind (fun r hr => ?_) (ordD_desc O h (n - (1 + 1)) (1 + 1) (by omega) (by omega) d2)
    obtain ⟨r1, r2, r3, r4, r5⟩ := hr
    show GoodD n lt _ (if r.2.2 > 0 then _ else _)
    rw [if_neg (by omega), r1]
    exact ordD_tail3 O h (by omega) (by omega) r5
theorem ordD_place {p : Array Nat} (O : OrdD n lt) (h : Pm n p) {k : Nat} (hk : k < n) (a : Asc lt p k) : ∀ (f l r : Nat), r - l <= f -> l <= r -> r <= k -> (∀ i, i < l -> lt (p.getD i 0) (p.getD k 0) = true) -> (∀ i, r <= i -> i < k -> lt (p.getD k 0) (p.getD i 0) = true) ->
  GoodD n lt (fun m => m <= k /\ (∀ i, i < m -> lt (p.getD i 0) (p.getD k 0) = true) /\ ∀ i, m <= i -> i < k -> lt (p.getD k 0) (p.getD i 0) = true) (kas_place p k f l r)
 | 0, l, r, hf, hl, hr, lo, hi => by
  obtain rfl : l = r := by omega
  exact ⟨hr, lo, hi⟩
 | f + 1, l, r, hf, hl, hr, lo, hi => by
  show GoodD n lt _ (if l ≥ r then _ else _)
  split
  ·obtain rfl : l = r := by omega
   exact ⟨hr, lo, hi⟩
  ·refine ⟨h.lt (by omega) _, h.lt (by omega) _, h.ne (by omega) (by omega) (by omega), ?_⟩
   cases c : lt (p.getD k 0) (p.getD ((l + r) / 2) 0) with
   | true =>
    refine ordD_place O h hk a f l ((l + r) / 2) (by omega) (by omega) (by omega) lo fun i hi1 hi2 => ?_
    by_cases e : i = (l + r) / 2
    ·rw [e]; exact c
    ·exact O.tr _ _ _ (h.lt (by omega) _) (h.lt (by omega) _) (h.lt (by omega) _) c (a _ i (by omega) hi2)
   | false =>
    have c2 := flipD O h (i := k) (j := (l + r) / 2) hk (by omega) (by omega) c
    refine ordD_place O h hk a f ((l + r) / 2 + 1) r (by omega) (by omega) hr (fun i hi1 => ?_) hi
    by_cases e : i = (l + r) / 2
    ·rw [e]; exact c2
    ·exact O.tr _ _ _ (h.lt (by omega) _) (h.lt (by omega) _) (h.lt (by omega) _) (a i _ (by omega) (by omega)) c2
theorem ordD_bin (O : OrdD n lt) : ∀ (f : Nat) (p : Array Nat) (k : Nat), k + f = n -> Pm n p -> Asc lt p k -> GoodD n lt (fun r => Pm n r /\ Asc lt r n) (kas_bin f p k)
 | 0, p, k, e, h, a => by
  obtain rfl : k = n := by omega
  exact ⟨h, a⟩
 | f + 1, p, k, e, h, a => (ordD_place O h (by omega) a k 0 k (by omega) (Nat.zero_le _) (Nat.le_refl _) (fun i hi => absurd hi (Nat.not_lt_zero _)) (fun i h1 h2 => absurd h2 (by omega))).bind fun l hl => by
  obtain ⟨l1, l2, l3⟩ := hl
  refine ordD_bin O f _ _ (by omega) (h.bub _ _) fun i j hij hj => ?_
  have hsz := h.size
  rw [getD_bub (by omega) l1 i, getD_bub (by omega) l1 j]
  by_cases i1 : i = l
  ·rw [if_pos i1, if_neg (by omega), if_pos (by omega)]
   exact l3 _ (by omega) (by omega)
  ·rw [if_neg i1]
   by_cases i2 : l < i /\ i <= k
   ·rw [if_pos i2, if_neg (by omega), if_pos (by omega)]
    exact a _ _ (by omega) (by omega)
   ·rw [if_neg i2]
    by_cases j1 : j = l
    ·rw [if_pos j1]; exact l2 i (by omega)
    ·rw [if_neg j1]
     by_cases j2 : l < j /\ j <= k
     ·rw [if_pos j2]
      exact a _ _ (by omega) (by omega)
     ·rw [if_neg j2]
      exact a _ _ hij (by omega)
theorem ordD_sort (O : OrdD n lt) (hn : 2 <= n) : GoodD n lt (fun r => Pm n r /\ Asc lt r n) (kas_sort n) :=
 (ordD_count O hn (List.Perm.refl _)).bind fun r hr => by
  obtain ⟨r1, r2, r3, r4⟩ := hr
  show GoodD n lt _ (if r.1 < n then _ else _)
  split
  ·refine ordD_bin O _ _ _ (by omega) r1 ?_
   rw [show max r.1 1 = r.1 by omega]; exact r2
  ·obtain e : r.1 = n := by omega
   rw [e] at r2
   exact ⟨r1, r2⟩
end
end L2
namespace L2
open PySem PySem.W PySem.Calls PyProof.Rows HS
def ltL : List Str -> List Str -> Bool
 | a :: as, b :: bs => if a = b then ltL as bs else ltS a b
 | _, _ => false
theorem ltL_tr : ∀ {a b c : List Str}, a.length = b.length -> b.length = c.length -> ltL a b = true -> ltL b c = true -> ltL a c = true
 | [], _, _, h1, _, h, _ => by unfold ltL at h; cases h
 | a :: as, [], _, h1, _, _, _ => by simp at h1
 | a :: as, b :: bs, [], _, h2, _, _ => by simp at h2
 | a :: as, b :: bs, c :: cs, h1, h2, h3, h4 => by
  unfold ltL at h3 h4 ⊢
  by_cases e1 : a = b
  ·rw [if_pos e1] at h3
   subst e1
   by_cases e2 : a = c
   ·rw [if_pos e2] at h4 ⊢; exact ltL_tr (by simpa using h1) (by simpa using h2) h3 h4
   ·rw [if_neg e2] at h4 ⊢; exact h4
  ·rw [if_neg e1] at h3
   by_cases e2 : b = c
   ·subst e2
    rw [if_neg e1]; exact h3
   ·rw [if_neg e2] at h4
    have t := ltS_tr h3 h4
    by_cases e3 : a = c
    ·subst e3; rw [ltS_self] at t; cases t
    ·rw [if_neg e3]; exact t
theorem ltL_tot : ∀ {a b : List Str}, a.length = b.length -> a ≠ b -> ltL a b = false -> ltL b a = true
 | [], [], _, h, _ => absurd rfl h
 | [], b :: bs, h, _, _ => by simp at h
 | a :: as, [], h, _, _ => by simp at h
 | a :: as, b :: bs, h1, h2, h3 => by
  unfold ltL at h3 ⊢
  by_cases e : a = b
  ·subst e
   rw [if_pos rfl] at h3 ⊢
   exact ltL_tot (by simpa using h1) (fun z => h2 (by rw [z])) h3
  ·rw [if_neg e] at h3; rw [if_neg (Ne.symm e)]
   exact ltS_tot e h3
section
variable {P : Program} {w : World} {A : Around} {E : Value -> Shared -> Prop} {s : Shared}
theorem oneLt_gen {a b : Str} {t u : Tok} {c : Bool} {Q : Bool -> Shared -> Prop} (h : Q (ltS a b) s) : wpAny (model P w) A (oneLt' c (.str a t) (.str b u)) Q E s := by
 cases c with
 | true => exact oneLt_str h
 | false =>
  rw [oneLt'_eq]
  simp only [Bool.false_eq_true, if_false]
  exact wpAny_bind (PyProof.Rows.lt_str (wpAny_truthy_bool h))
theorem lex_texts {b fin : Bool} {Q : Bool -> Shared -> Prop} : ∀ {as bs : List Str} {us vs : List Value} {ru rv : List Value} (i : Nat), StrsAre us as -> StrsAre vs bs -> as.length = bs.length -> as ≠ bs -> Q (ltL as bs) s -> KatLex P w A b fin Q ((us ++ ru).zip (vs ++ rv)) i s
 | [], [], _, _, _, _, _, _, _, _, h, _ => absurd rfl h
 | [], _ :: _, _, _, _, _, _, _, _, h, _, _ => by simp at h
 | _ :: _, [], _, _, _, _, _, _, _, h, _, _ => by simp at h
 | a :: as, b' :: bs, _, _, ru, rv, i, .cons _ t h1, .cons _ u h2, hl, hne, q => by
  unfold ltL at q
  refine kat_cons (wpAny_eqBool_str ?_)
  by_cases e : a = b'
  ·rw [decide_eq_true e]
   rw [if_pos e] at q
   exact kat_yes (lex_texts (i + 1) h1 h2 (by simpa using hl) (fun z => hne (by rw [e, z])) q)
  ·rw [decide_eq_false e]
   rw [if_neg e] at q
   exact kat_no (oneLt_gen q)
end
def KeyedV (H : Hp) (m : Nat) (vs : List V) (kvs : List (List Str × List V)) : Prop := Paired (fun y p => ∃ a, y = V.ref a /\ H a = some (.tup (p.1.map V.str ++ p.2)) /\ p.1.length = m) vs kvs
theorem strs_split {H : Hp} : ∀ {ks : List Str} {rest : List V} {its : List Value}, Vals (ks.map V.str ++ rest) its -> ∃ us ru, its = us ++ ru /\ StrsAre us ks
 | [], rest, its, h => ⟨[], its, rfl, .nil⟩
 | k :: ks, rest, its, h => by
  cases h with
  | cons r t =>
   obtain ⟨tk, rfl⟩ := r
   obtain ⟨us, ru, e, st⟩ := strs_split (H := H) t
   exact ⟨.str k tk :: us, ru, by rw [e]; rfl, .cons k tk st⟩
section
variable {X : Cx}
theorem call_sortedG : CallR X (.builtin "sorted") (fun xs H Q => ∃ (p : Addr) (ys : List V) (kvs : List (List Str × List V)) (m : Nat), xs = [.ref p] /\ (SqL X.K H p ys \/ SqT X.K H p ys) /\ KeyedV H m ys kvs /\ 1 <= m /\ (kvs.map (·.1)).Nodup /\ ys.length <= 63 /\
  ∀ D ys' kvs', H D = none -> ys'.Perm ys -> KeyedV H m ys' kvs' -> kvs'.Perm kvs -> (kvs'.map (·.1)).Pairwise (fun a b => ltL a b = true) -> Q (.ref D) (upd H D (.lst ys'))) := by
 intro pins s σ H xs us Q I r ⟨p, ys, kvs, mm, ex, hq, pr, hm1, nd, h63, q⟩
 subst ex
 obtain ⟨u, rfl, rx⟩ := vals1 r
 cases rx
 obtain ⟨its, rv, hz, col⟩ : ∃ its : List Value, Vals ys its /\ ys.length <= sizeLine /\ ∀ (A : Around) (E : Value -> Shared -> Prop) (Q' : List Value -> Shared -> Prop), (∀ h', (∀ b o, s.heap.get? b = some o -> h'.get? b = some o) -> Q' its { s with heap := h' }) -> wpAny (model X.prog X.w) A (collect (.ref p)) Q' E s := by
  rcases hq with hq | hq
  ·obtain ⟨its, rv, pl, hz⟩ := I.list hq
   have := rv.length
   refine ⟨its, rv, hz, fun A E Q' q' => collect_list pl.isList (q' _ fun b o e => ?_) (by rw [sizeLine_eq]; omega)⟩
   exact (Heap.get?_update_other _ _ (Nat.ne_of_gt (Heap.lt_size e))).trans (Heap.get?_push_of_some _ e)
  ·obtain ⟨its, rv, pl, hz⟩ := I.tuple hq
   have := rv.length
   exact ⟨its, rv, hz, fun A E Q' q' => collect_tup pl (by rw [sizeLine_eq]; omega) q'⟩
 have hl1 : ys.length = kvs.length := Paired.length pr
 have hl2 := rv.length
 have at_ : ∀ (i : Nat), i < its.length -> ∃ (ks : List Str) (a : Addr) (tu ru : List Value), (kvs.map (·.1))[i]? = some ks /\ its[i]? = some (.ref a) /\ a ≠ X.env.locals /\ IsTup s.heap a (tu ++ ru).toArray /\ StrsAre tu ks /\ ks.length = mm := by
  intro i hi
  have hi' : i < ys.length := by omega
  obtain ⟨p', hp', a, ey, ha, hlm⟩ := pair_at pr (show ys[i]? = some ys[i] from List.getElem?_eq_getElem hi')
  obtain ⟨u, hu, ru⟩ := rv.get (show ys[i]? = some (V.ref a) by rw [List.getElem?_eq_getElem hi', ey])
  cases ru
  obtain ⟨i2, r2, t2, _⟩ := I.tuple (SqT.of ha)
  obtain ⟨tu, ru, e, st⟩ := strs_split (H := H) r2
  rw [e] at t2
  exact ⟨p'.1, a, tu, ru, by rw [List.getElem?_map, hp']; rfl, hu, (fun z => by rw [z, I.free] at ha; cases ha), t2, st, hlm⟩
 obtain ⟨m, hm, _⟩ := id I.loc
 let lt : Nat -> Nat -> Bool := fun i j => ltL ((kvs.map (·.1)).getD i []) ((kvs.map (·.1)).getD j [])
 have kl : (kvs.map (·.1)).length = its.length := by rw [List.length_map]; omega
 have klen : ∀ i, i < its.length -> ((kvs.map (·.1)).getD i []).length = mm := fun i hi => by
  obtain ⟨ks, _, _, _, h1, _, _, _, _, h2⟩ := at_ i hi
  rw [List.getD_eq_getElem?_getD, h1]; exact h2
 have kne : ∀ i j, i < its.length -> j < its.length -> i ≠ j -> (kvs.map (·.1)).getD i [] ≠ (kvs.map (·.1)).getD j [] := fun i j hi hj hij e => hij ((List.getElem?_inj (by omega) nd).mp (by
  rw [List.getD_eq_getElem?_getD, List.getD_eq_getElem?_getD, List.getElem?_eq_getElem (by omega), List.getElem?_eq_getElem (by omega)] at e
  rw [List.getElem?_eq_getElem (by omega), List.getElem?_eq_getElem (by omega)]
  exact congrArg some e))
 have O : OrdD its.length lt := ⟨fun i j k hi hj hk h1 h2 => ltL_tr ((klen i hi).trans (klen j hj).symm) ((klen j hj).trans (klen k hk).symm) h1 h2, fun i j hi hj hij f => ltL_tot ((klen i hi).trans (klen j hj).symm) (kne i j hi hj hij) f⟩
 have fin : ∀ (h' : Heap) (D : Addr) (c : Nat) (pa : Array Nat), (∀ b o, b ≠ X.env.locals -> s.heap.get? b = some o -> h'.get? b = some o) -> h'.Ns X.env.locals m -> (∀ b o, s.heap.get? b = some o -> b ≠ D) -> Pm its.length pa -> (pa.toList.Pairwise fun i j => lt i j = true) ->
   h'.get? D = some (listOf (pa.toList.map fun i => its.getD i Value.none).toArray c) -> ∃ v H', Inv X pins σ H' { s with heap := h' } /\ RelV v (.ref D) /\ Q v H' := by
  intro h' D c pa k hm' hD hp srt new
  have inb : ∀ i ∈ pa.toList, i < its.length := fun i hi => List.mem_range.mp (hp.mem_iff.mp hi)
  have py : (pa.toList.map fun i => ys.getD i V.non).Perm ys := pm_map V.non (by rw [hl2]; exact hp)
  have hpk : Pm kvs.length pa := by rw [<- hl1, hl2]; exact hp
  have pk : (pa.toList.map fun i => kvs.getD i (([], []) : List Str × List V)).Perm kvs := pm_map _ hpk
  have pp : KeyedV H mm (pa.toList.map fun i => ys.getD i V.non) (pa.toList.map fun i => kvs.getD i ([], [])) := paired_map fun i hi => getD_pair pr V.non ([], []) i (by have := inb i hi; omega)
  have ek : (pa.toList.map fun i => kvs.getD i ([], [])).map (·.1) = pa.toList.map fun i => (kvs.map (·.1)).getD i [] := by
   rw [List.map_map]
   refine List.map_congr_left fun i hi => ?_
   have : i < kvs.length := by have := inb i hi; omega
   show (kvs.getD i ([], [])).1 = _
   rw [List.getD_eq_getElem?_getD, List.getD_eq_getElem?_getD, List.getElem?_map, List.getElem?_eq_getElem this]; rfl
  have rel : Vals (pa.toList.map fun i => ys.getD i V.non) (pa.toList.map fun i => its.getD i Value.none) := vals_maps (fun i => by
   by_cases hi : i < ys.length
   ·obtain ⟨u, hu, ru⟩ := rv.get (show ys[i]? = some ys[i] from List.getElem?_eq_getElem hi)
    rw [List.getD_eq_getElem?_getD, List.getD_eq_getElem?_getD, hu, List.getElem?_eq_getElem hi]; exact ru
   ·rw [List.getD_eq_getElem?_getD, List.getD_eq_getElem?_getD, List.getElem?_eq_none (by omega), List.getElem?_eq_none (by omega)]; trivial) pa.toList
  obtain ⟨hn, I'⟩ := Inv.sorted (t' := s.toks) I hm hm' k hD new rel (by rw [py.length_eq]; exact hz)
  refine ⟨.ref D, _, I', rfl, q D _ _ hn py pp pk ?_⟩
  rw [ek, List.pairwise_map]; exact srt
 refine Calls.call_function_entry kind_sorted plain_sorted entry_sorted (args_sorted1 _) ?_
 unfold Builtin.«sorted»
 refine wpAny_bind (m := checkCount "sorted" 1 1 _) (wpAny_pure (wpAny_bind (col _ _ _ fun h1 k1 => ?_)))
 refine wpAny_bind (wpAny_newList ?_ (by rw [sizeLine_eq]; omega))
 have at1 : (h1.push (seqObj "list" its.toArray 0)).get? h1.objs.size = some (seqObj "list" its.toArray 0) := Heap.get?_push_size _ rfl
 have hD : ∀ b o, s.heap.get? b = some o -> b ≠ h1.objs.size := fun b o e => Nat.ne_of_lt (Heap.lt_size (k1 b o e))
 refine wpAny_bind (wpAny_holding (wpAny_call_entry slot_list_sort ⟨_, at1, rfl⟩ entry_list_sort ?_ (args_list_sort _)))
 have keep : ∀ b o, s.heap.get? b = some o -> (h1.push (seqObj "list" its.toArray 0)).get? b = some o := fun b o e => Heap.get?_push_of_some _ (k1 b o e)
 by_cases h2 : its.length < 2
 ·refine sort_idle at1 h2 fun c g kg new => ⟨_, rfl, wpAny_pure ⟨_, rfl, ?_⟩⟩
  refine fin g _ c (List.range its.length).toArray (fun b o _ e => kg b o (hD b o e) (keep b o e)) (hm.at' fun o e => kg _ o (hD _ o e) (keep _ o e)) hD (List.Perm.refl _) ?_ ?_
  ·show (List.range its.length).Pairwise _
   have : its.length = 0 \/ its.length = 1 := by omega
   rcases this with z | z <;> rw [z]
   ·exact List.Pairwise.nil
   ·exact List.pairwise_singleton _ _
  ·have : (List.range its.length).map (fun i => its.getD i Value.none) = its := by
    apply List.ext_getElem
    ·simp
    ·intro i h1 h2; simp [List.getD, h2]
   show g.get? h1.objs.size = some (listOf ((List.range its.length).map fun i => its.getD i Value.none).toArray c)
   rw [this]; exact new
 ·have h2 : 2 <= its.length := by omega
  obtain ⟨g0, hg0, hg1⟩ : ∃ g0 : Heap, g0.objs.size = 0 /\ ∀ b, g0.get? b = none := ⟨{ s.heap with objs := #[] }, rfl, fun b => Heap.get?_none_of_le (Nat.zero_le _)⟩
  have F : Fr g0 X.env.locals s.heap m := ⟨hm, fun b o e => (by rw [hg1] at e; cases e), by rw [hg0]; exact Nat.zero_le _⟩
  have N := news_all (g := g0) (L := X.env.locals) (h := s.heap)
  have hLo : ∃ o, s.heap.get? X.env.locals = some o := let ⟨o, _, _, e, _⟩ := hm; ⟨o, e⟩
  obtain ⟨oL, eL⟩ := hLo
  refine kat_list_sort (s := { s with heap := h1.push (seqObj "list" its.toArray 0) }) (F.kept keep) (N.grown keep) at1 (Ne.symm (hD _ _ eL)) (hg1 _) (fun p hp => hD p.1 p.2 (of_mem_allNews hp).2.2) h2 (by omega) fun e1 h' F' N' => ?_
  have kp : ∀ b o, b ≠ X.env.locals -> s.heap.get? b = some o -> h'.get? b = some o := fun b o n e => (N' (b, o) (List.mem_cons_of_mem _ (mem_allNews n (hg1 b) e))).1
  have tk : ∀ {a : Addr} {zs : Array Value}, a ≠ X.env.locals -> IsTup s.heap a zs -> IsTup h' a zs := fun n ⟨o, ho, r⟩ => ⟨o, kp _ o n ho, r⟩
  have ft : ∀ (vs : List Value), (∀ v ∈ vs, ∃ a tu ru ks, v = Value.ref a /\ IsTup h' a (tu ++ ru).toArray /\ StrsAre tu ks /\ ks.length = mm) -> ∃ fs, fs.length = vs.length /\ KatTups h' vs fs /\ ∀ f ∈ fs, ∃ k t, f = Value.str k t := by
   intro vs
   induction vs with
   | nil => intro _; exact ⟨[], rfl, KatTups.nil, fun f hf => (by cases hf)⟩
   | cons v vs ih =>
    intro hv
    obtain ⟨fs, f1, f2, f3⟩ := ih fun v' h' => hv v' (List.mem_cons_of_mem _ h')
    obtain ⟨a, tu, ru, ks, rfl, ⟨o, ho, hc, n, hd⟩, st, hkm⟩ := hv v List.mem_cons_self
    cases st with
    | nil => simp at hkm; omega
    | cons k t r =>
     refine ⟨.str k t :: fs, by rw [List.length_cons, List.length_cons, f1], KatTups.cons ho hc hd (by simp) f2, fun f hf => ?_⟩
     rcases List.mem_cons.mp hf with z | z
     ·exact ⟨k, t, z⟩
     ·exact f3 f z
  obtain ⟨fs, hf1, hf2, hf3⟩ := ft its fun v hv => by
   obtain ⟨i, hi, rfl⟩ := List.getElem_of_mem hv
   obtain ⟨ks, a, tu, ru, _, g2, g3, g4, g5, g6⟩ := at_ i hi
   rw [List.getElem?_eq_getElem hi] at g2
   exact ⟨a, tu, ru, ks, Option.some.inj g2, tk g3 g4, g5, g6⟩
  refine kat_kind (T := .type "str") hf2 (by omega) (fun f hf => ?_) (by decide) ?_
  ·obtain ⟨k, t, rfl⟩ := hf3 f hf
   exact Looks.of_pure rfl
  ·refine (ordD_sort O h2).wp (fun i j C hi hj hij hC => ?_) fun pa hp => ?_
   ·obtain ⟨k, a, tu, ru, g1, g2, g3, g4, g5, g6⟩ := at_ i hi
    obtain ⟨k', a', tu', ru', g1', g2', g3', g4', g5', g6'⟩ := at_ j hj
    unfold kas_ask
    rw [List.getD_eq_getElem?_getD, List.getD_eq_getElem?_getD, g2, g2']
    have ei : (kvs.map (·.1)).getD i [] = k := by rw [List.getD_eq_getElem?_getD, g1]; rfl
    have ej : (kvs.map (·.1)).getD j [] = k' := by rw [List.getD_eq_getElem?_getD, g1']; rfl
    have el : lt i j = ltL k k' := by show ltL ((kvs.map (·.1)).getD i []) ((kvs.map (·.1)).getD j []) = _; rw [ei, ej]
    have ne := kne i j hi hj hij
    rw [ei, ej] at ne
    rw [el] at hC
    obtain ⟨ox, hx, _, nx, dx⟩ := tk g3 g4
    obtain ⟨oy, hy, _, ny, dy⟩ := tk g3' g4'
    exact kat_lt hx dx hy dy (lex_texts 0 g5 g5' (g6.trans g6'.symm) ne hC)
   ·refine KasFin.intro F' N' (UpdF.head fun p hp => ?_) fun h'' c F'' N'' => ?_
    ·exact hD p.1 p.2 (of_mem_allNews hp).2.2
    ·refine ⟨_, rfl, wpAny_pure ⟨_, rfl, ?_⟩⟩
     exact fin h'' _ c pa (fun b o n e => (N'' (b, o) (List.mem_cons_of_mem _ (mem_allNews n (hg1 b) e))).1) F''.ns hD hp.1 (asc_pw hp.1.size hp.2) (N'' _ List.mem_cons_self).1
end
end L2
namespace HS
open PySem PySem.Spec PyProof.Rows PySem.W
section
variable {P : Program} {w : World} {A : Around} {E : Value -> Shared -> Prop} {s : Shared}
theorem idx_loop {vs : List Value} {ys : List Str} {y : Str} {t : Tok} {j : Nat} {Q : Option PySem.Fin × Unit -> Shared -> Prop} (st : StrsAre vs ys) (hj : ys[j]? = some y) (hno : ∀ m, m < j -> ys[m]? ≠ some y) (q : ∀ tk, Q (some (.done (.ret (.int j tk))), ()) { s with toks := s.toks + 1 }) :
  ∀ (k i : Nat), i <= j -> j < i + k -> wpAny (model P w) A (forIn (m := Sem) (List.range' i k) ((none, ()) : Option PySem.Fin × Unit) fun (i : Nat) __s => match vs.toArray[i]? with
      | some y' => do
       let b <- eqBool y' (.str y t)
       if b = true then do
         let r <- retInt (i : Int)
         pure (ForInStep.done (some r, ()))
        else pure (ForInStep.yield (none, ()))
      | _ => pure (ForInStep.yield (none, ()))) Q E s
 | 0, i, h1, h2 => absurd h2 (by omega)
 | k + 1, i, h1, h2 => by
  rw [List.range'_succ, List.forIn_cons]
  have hlen := strs_len st
  have hjl : j < ys.length := (List.getElem?_eq_some_iff.mp hj).1
  have hi : i < vs.length := by omega
  obtain ⟨tk, ev⟩ := L2.strs_at st i vs[i] (List.getElem?_eq_getElem hi)
  have hiy : i < ys.length := by omega
  have e1 : vs.toArray[i]? = some (.str ys[i] tk) := by
   rw [List.getElem?_toArray, List.getElem?_eq_getElem hi, ev]; simp [hiy]
  rw [e1]
  dsimp only
  refine wpAny_bind (wpAny_bind (wpAny_eqBool_str ?_))
  by_cases e : ys[i] = y
  ·rw [decide_eq_true e, if_pos rfl]
   have : i = j := by
    by_cases z : i < j
    ·exact absurd (by rw [List.getElem?_eq_getElem hiy, e]) (hno i z)
    ·omega
   subst this
   refine wpAny_bind ?_; unfold retInt
   exact wpAny_bind (wpAny_mkInt (wpAny_pure (wpAny_pure (wpAny_pure (q _)))))
  ·rw [decide_eq_false e, if_neg Bool.false_ne_true]
   refine wpAny_pure ?_
   refine idx_loop st hj hno q k (i + 1) ?_ (by omega)
   by_cases z : i = j
   ·subst z
    rw [List.getElem?_eq_getElem hiy] at hj
    exact absurd (Option.some.inj hj) e
   ·omega
theorem index_tup {l : Addr} {vs : List Value} {ys : List Str} {y : Str} {t : Tok} {j : Nat} {Q : Value -> Shared -> Prop} (ht : IsTup s.heap l vs.toArray) (st : StrsAre vs ys) (hj : ys[j]? = some y) (hno : ∀ m, m < j -> ys[m]? ≠ some y) (q : ∀ tk, Q (.int j tk) { s with toks := s.toks + 1 }) :
  wpAny (model P w) A (call (.builtin "tuple.index") [.ref l, .str y t]) Q E s := by
 obtain ⟨o, ho, hc, n, hd⟩ := ht
 have hjl : j < ys.length := (List.getElem?_eq_some_iff.mp hj).1
 have hlen := strs_len st
 refine wpAny_call_entry PySem.F.slot_tuple_index ⟨o, ho, hc⟩ PySem.F.entry_tuple_index ?_ (PySem.F.args_tuple_index_2 _ _)
 unfold Builtin.«tuple.index»
 refine wpAny_bind (wpAny_pure ?_)
 dsimp only
 refine wpAny_bind ?_; unfold Builtin.Tuple.tupleItemsOf seqItems?
 refine wpAny_bind (wpAny_bind (wpAny_load ho ?_))
 rw [hd]
 refine wpAny_pure (wpAny_pure ?_)
 refine wpAny_bind (wpAny_pure (wpAny_bind (wpAny_pure ?_)))
 rw [Std.Legacy.Range.forIn_eq_forIn_range']
 refine wpAny_bind ?_
 have e2 : ([0:min vs.toArray.size vs.toArray.size] : Std.Legacy.Range).size = vs.length := by simp [Std.Legacy.Range.size]
 rw [e2]
 refine idx_loop st hj hno (fun tk => ?_) vs.length 0 (Nat.zero_le _) (by omega)
 exact wpAny_pure ⟨_, rfl, q tk⟩
end
end HS
namespace L2
open PySem PySem.Spec PyProof.Rows PySem.W HS
section
variable {X : Cx}
def rIndexT (K : Frag) : V -> List V -> Hp -> VK -> Prop := fun x vs H Q => ∃ (l : Addr) (ys : List Str) (y : Str) (j : Nat), x = .ref l /\ vs = [.str y] /\ SqT K H l (ys.map V.str) /\ ys[j]? = some y /\ (∀ m, m < j -> ys[m]? ≠ some y) /\ Q (.int j) H
theorem mt_indexT : MtM X "tuple.index" (rIndexT X.K) := by
 intro pins s σ H x vs v us Q I rx rv h
 obtain ⟨l, ys, y, j, rfl, rfl, hH, hj, hno, q⟩ := h
 cases rx
 obtain ⟨u, rfl, t, rfl⟩ := rv.one
 obtain ⟨its, r, pl, hz⟩ := I.tuple hH
 exact index_tup pl (strsAre_of r) hj hno fun tk => ⟨.int j, H, I.tok _, ⟨tk, rfl⟩, q⟩
end
end L2
namespace L2
open PySem PySem.W PySem.Spec PyProof.Rows
end L2
namespace L2
open PySem PySem.W
theorem erase_filter {κ : Type} [DecidableEq κ] {β : Type} {k : κ} : ∀ {xs : List (κ × β)} {j : Nat} {p : β}, (xs.map (·.1)).Nodup -> xs[j]? = some (k, p) -> xs.eraseIdx j = xs.filter fun x => !decide (x.1 = k)
 | [], j, p, _, h => by simp at h
 | x :: xs, 0, p, nd, h => by
  simp only [List.getElem?_cons_zero, Option.some.injEq] at h
  subst h
  rw [List.map_cons, List.nodup_cons] at nd
  rw [List.eraseIdx_zero, List.tail_cons, List.filter_cons_of_neg (by simp)]
  refine (List.filter_eq_self.mpr fun y hy => ?_).symm
  have : y.1 ≠ k := fun e => nd.1 (e ▸ List.mem_map.mpr ⟨y, hy, rfl⟩)
  simpa using this
 | x :: xs, j + 1, p, nd, h => by
  simp only [List.getElem?_cons_succ] at h
  rw [List.map_cons, List.nodup_cons] at nd
  have hne : x.1 ≠ k := fun e => nd.1 (e ▸ List.mem_map.mpr ⟨(k, p), List.mem_of_getElem? h, rfl⟩)
  rw [List.eraseIdx_cons_succ, List.filter_cons_of_pos (by simpa using hne), erase_filter nd.2 h]
theorem erase_map {α β : Type} (f : α -> β) : ∀ (xs : List α) (j : Nat), (xs.map f).eraseIdx j = (xs.eraseIdx j).map f
 | [], _ => rfl
 | _ :: _, 0 => rfl
 | x :: xs, j + 1 => by
  show f x :: (xs.map f).eraseIdx j = f x :: (xs.eraseIdx j).map f
  rw [erase_map f xs j]
section
variable {prog : Program} {w : World} {A : Around} {s : Shared} {E : Value -> Shared -> Prop} {κ : Type} [DecidableEq κ] {knd : HeapKind prog w κ}
theorem takeOut_heap {d a : Addr} {xs : List (κ × Addr × Value)} {k : κ} {p : Addr × Value} {Q : Option DictEntry -> Shared -> Prop} (hu : knd.room A) (hkey : knd.is s.heap k a) (hm : s.heap.DictOfH knd d xs) (hp : atKey xs k = some p) (hsz : xs.length <= sizeLine)
  (h : ∀ h', h'.DictOfH knd d (xs.filter fun x => !decide (x.1 = k)) -> Heap.SameBut d s.heap h' -> Q (some (entryOfKey knd (k, p))) { s with heap := h', toks := s.toks + knd.draws k }) :
  wpAny (model prog w) A (Builtin.Dict.takeOut d (.ref a)) Q E s := by
 obtain ⟨o, es, ep, ho, hc, hd, he, his, hn⟩ := hm
 unfold Builtin.Dict.takeOut
 try with_reducible refine wpAny_holding ?_
 refine wpAny_bind (knd.pyHash hu hkey (wpAny_bind (wpAny_dictFind_heap (s := { s with toks := s.toks + knd.draws k }) hu hkey ho hd he his hn ?_ ?_)))
 ·intro hno
  rw [atKey_none_of_get hno] at hp
  exact nomatch hp
 ·intro j q hj
  have e1 := atKey_of_get hn hj
  rw [hp] at e1
  cases e1
  refine wpAny_bind (wpAny_dictEntries (s := { s with toks := s.toks + knd.draws k }) ho hd ?_)
  rw [entry_at he j, hj]
  have hes : es.size <= sizeLine := by have e := size_of_entries he; omega
  refine wpAny_bind (wpAny_updateDictKeys (hz := hes) (s := { s with toks := s.toks + knd.draws k }) ho hd (wpAny_pure (h _ ⟨_, _, ep + 1, Heap.get?_update_self _ ho (Obj.isFreed_of_dict (Obj.data_mapDictKeys hd _)), hc.mapDictKeys _, Obj.data_mapDictKeys hd _, ?_, ?_, ?_⟩ (Heap.SameBut.update ..))))
  ·have e2 : (es.eraseIdxIfInBounds j).toList = es.toList.eraseIdx j := by simp
   rw [e2, he, <- erase_filter hn hj]
   exact erase_map _ _ _
  ·intro x hx
   exact knd.keeps (his x (List.mem_filter.mp hx).1) ho hd (Heap.SameBut.update ..)
  ·exact hn.sublist (List.Sublist.map _ List.filter_sublist)
theorem meets_pop_heap {d a : Addr} {k : κ} :
  MeetsIn prog w (Builtin.«dict.pop» ⟨[.ref d, .ref a], []⟩) (fun A R s => ∃ (xs : List (κ × Addr × Value)) (p : Addr × Value), knd.room A.in1 /\ knd.is s.heap k a /\ s.heap.DictOfH knd d xs /\ xs.length <= sizeLine /\ atKey xs k = some p /\
   ∀ h', h'.DictOfH knd d (xs.filter fun x => !decide (x.1 = k)) -> Heap.SameBut d s.heap h' -> R (.ok (.ret p.2)) { s with heap := h', toks := s.toks + knd.draws k }) :=
 .of_wp fun A R s ⟨xs, p, hu, hkey, hm, hsz, hp, h⟩ => by
  unfold Builtin.«dict.pop»
  refine wpAny_bind ?_
  unfold Builtin.Dict.keyAndDefault
  refine wpAny_bind (wpAny_notOrdered_dict hm.typeIs ?_)
  show wpAny _ _ (pure (d, Value.ref a, none)) _ _ s
  refine wpAny_pure ?_
  obtain ⟨o, es, ep, ho, hc, hd, he, his, hn⟩ := id hm
  have hne : es.isEmpty = false := by
   have e := size_of_entries he
   have : 0 < xs.length := by
    cases xs with
    | nil => exact nomatch hp
    | cons _ _ => exact Nat.succ_pos _
   exact decide_eq_false (by omega)
  refine wpAny_bind ?_
  refine wpAny_dictEntries ho hd (wpAny_bind (wpAny_pure ?_))
  rw [hne]
  simp only [Bool.false_eq_true, if_false]
  refine wpAny_bind (takeOut_heap hu hkey hm hp hsz fun h' hm' hs' => ?_)
  simp only [Option.isNone_some, Bool.false_eq_true, if_false]
  exact wpAny_bind (wpAny_letGo (wpAny_pure ⟨_, rfl, h h' hm' hs'⟩))
end
theorem KT.drop {H : Hp} {kvs : List (List Key × V)} {xs : List (List Key × Addr × Value)} (r : KT H kvs xs) (k : List Key) : KT H (dropK kvs k) (xs.filter fun x => !decide (x.1 = k)) := by
 unfold dropK
 induction r with
 | nil => exact .nil
 | @cons p q ps qs h t ih =>
  rw [List.filter_cons, List.filter_cons]
  by_cases e : p.1 = k
  ·have a : ¬ decide (p.1 ≠ k) = true := by simp [e]
   have b : ¬ (!decide (q.1 = k)) = true := by simp [h.1.symm.trans e]
   rw [if_neg a, if_neg b]; exact ih
  ·have e' : ¬ q.1 = k := fun z => e (h.1.trans z)
   have a : decide (p.1 ≠ k) = true := by simp [e]
   have b : (!decide (q.1 = k)) = true := by simp [e']
   rw [if_pos a, if_pos b]; exact .cons h ih
section
variable {X : Cx}
theorem mt_popT (hu : X.A.units + 1 < cLine) : MtR X "dict.pop" (fun x xs H Q => ∃ a kvs k b v, x = .ref a /\ xs = [.ref b] /\ H a = some (.dT kvs) /\ H b = some (.tup (k.map kV)) /\ valV kvs k = some v /\ Q v (upd H a (.dT (dropK kvs k)))) := by
 intro pins s σ H x xs v us Q I rx r h
 obtain ⟨a, kvs, k, b, v0, rfl, rfl, e, eb, l, q⟩ := h
 cases rx
 obtain ⟨u, rfl, ru⟩ := vals1 r
 cases ru
 obtain ⟨z, hd, ys, rel, dd⟩ := dt_of I.hok e
 obtain ⟨w', hw, rw'⟩ := RelO.some_of (v := v0) (o := (atKey ys k).map (·.2)) (by rw [<- l]; exact rel.val k)
 obtain ⟨p, hp, hp2⟩ := Option.map_eq_some_iff.mp hw
 refine call_meetsIn PySem.F.slot_dict_pop dd.typeIs PySem.F.entry_dict_pop (PySem.F.args_dict_pop_2 _ _) (meets_pop_heap (knd := tupleKind (mixKind X.prog X.w)) (k := k))
  ⟨ys, p, tupleKind_room_in1 hu, key_of I.hok eb, dd, by rw [<- Paired.length rel]; exact z, hp, fun h' dd' hs => ?_⟩
 obtain ⟨o', es, ep, hq, h2, h3, h4, _, h5⟩ := dd'
 refine ⟨v0, _, d_write (ob := .dT (dropK kvs k)) I (by rw [e]; exact True.intro) hs ⟨o', hq⟩ ⟨Nat.le_trans (dropK_le kvs k) z, hd, _, (rel.drop k).keeps fun c ys ec => ?_, o', es, ep, hq, h2, h3, h4, h5⟩, by rw [hp2]; exact rw', q⟩
 rw [upd_ne (ne_of ec e (fun z => nomatch z))]
 exact ec
end
end L2
namespace L2
open PySem PySem.W PySem.Spec PyProof.Rows
def RawD (h : Heap) (d : Addr) (es : Array DictEntry) (ep : Nat) : Prop := ∃ o, h.get? d = some o /\ o.ExactDict /\ o.data = .dict es ep
theorem RawD.ty {s : Shared} {d : Addr} {es : Array DictEntry} {ep : Nat} (x : RawD s.heap d es ep) : s.TypeIs (.ref d) "dict" := let ⟨o, e, c, _⟩ := x; ⟨o, e, c.1⟩
section
variable {P : Program} {w : World} {A : Around} {E : Value -> Shared -> Prop} {s : Shared}
theorem iter_raw {d : Addr} {es : Array DictEntry} {ep : Nat} {Q : Value -> Shared -> Prop} (hd : (d == sysModules) = false) (x : RawD s.heap d es ep)
  (q : Q (.ref s.heap.objs.size) { s with heap := s.heap.push { cls := .type "dict_keyiterator", data := .fields #[.ref d, .int 0 0, .int es.size 0, .int ep 0] } }) : wpAny (model P w) A (pyIter (.ref d)) Q E s := by
 have hT := x.ty
 obtain ⟨o, ho, hx, hdat⟩ := x
 refine wpAny_pyIter_slot hT F.slot_dict_iter (wpAny_call_entry F.slot_dict_iter hT F.entry_dict_iter ?_ (F.args_dict_iter_1 _))
 unfold Builtin.«dict.__iter__»
 refine wpAny_bind ?_
 unfold Builtin.Dict.dictSlotNone
 refine wpAny_bind (wpAny_notOrdered_dict hT ?_)
 show wpAny _ _ (pure (Value.ref d)) _ _ s
 refine wpAny_pure ?_
 show wpAny _ _ (Builtin.Dict.showsAll d >>= _) _ _ s
 unfold Builtin.Dict.showsAll
 rw [if_neg (by rw [hd]; exact Bool.false_ne_true)]
 refine wpAny_bind (wpAny_pure (wpAny_bind (wpAny_dictEntries ho hdat (wpAny_bind (wpAny_dictEpoch ho hdat ?_)))))
 exact wpAny_bind (wpAny_newObj_type (wpAny_pure ⟨_, rfl, "dict_keyiterator", _, ⟨_, Heap.get?_push_size _ rfl, rfl⟩, F.slot_dict_keyiterator_next.lookup, q⟩))
theorem next_raw {it d : Addr} {i ep : Nat} {es : Array DictEntry} {e : DictEntry} {Q : Option Value -> Shared -> Prop} (hit : s.heap.IsKeyIter it d i es.size ep) (x : RawD s.heap d es ep) (hx : es[i]? = some e)
  (q : ∀ h', h'.IsKeyIter it d (i + 1) es.size ep -> Heap.SameBut it s.heap h' -> Q (some e.key) { s with heap := h' }) : wpAny (model P w) A (pyNext (.ref it)) Q E s := by
 obtain ⟨o, ho, hc, hd⟩ := id hit
 obtain ⟨od, hod, hcd, hdd⟩ := id x
 unfold pyNext
 refine wpAny_bind (wpAny_attempt (wpAny_callSpecial?_slot (name := Str.ofString "__next__") hit.typeIs F.slot_dict_keyiterator_next
  (wpAny_call_entry F.slot_dict_keyiterator_next hit.typeIs F.entry_dict_keyiterator_next ?_ (F.args_dict_keyiterator_next_1 _))))
 refine wpAny_bind (wpAny_pure (wpAny_bind (wpAny_bind ?_)))
 first | refine wpAny_bind (wpAny_typeNameOfWhole_keyiter hit.typeIs (wpAny_pure ?_)) | refine wpAny_bind (wpAny_typeNameOf_keyiter hit.typeIs (wpAny_pure ?_))
 refine wpAny_bind (wpAny_fieldsOf ho hd ?_)
 simp only [show Builtin.Dict_items.ownsTuple "dict_keyiterator" = false by decide, Bool.false_eq_true, if_false]
 show wpAny _ _ (if (Value.ref d == Value.none) = true then _ else _) _ _ s
 rw [if_neg (show ¬ ((Value.ref d == Value.none) = true) from Bool.false_ne_true)]
 refine wpAny_bind (wpAny_pure (wpAny_bind (wpAny_dictEntries hod hdd ?_)))
 rw [if_neg (by simp)]
 refine wpAny_bind (wpAny_pure (wpAny_bind (wpAny_dictEpoch hod hdd ?_)))
 rw [if_neg (by simp)]
 refine wpAny_pure ?_
 simp only [show ¬ ((i : Int) < 0) from by omega, if_false, Int.toNat_natCast, hx]
 refine wpAny_bind ?_
 first | refine wpAny_bind (wpAny_typeNameOfWhole_keyiter hit.typeIs (wpAny_pure ?_)) | refine wpAny_bind (wpAny_typeNameOf_keyiter hit.typeIs (wpAny_pure ?_))
 refine wpAny_bind (wpAny_isOneOf_keyiter hit.typeIs ?_)
 show wpAny _ _ (setField (.ref it) 1 (rawInt ((i : Int) + 1)) >>= _) _ _ s
 refine wpAny_bind (wpAny_setField ho hd (by simp) ?_)
 have hit' : (s.heap.update it (Obj.mapFields (·.setIfInBounds 1 (rawInt ((i : Int) + 1))))).IsKeyIter it d (i + 1) es.size ep :=
  ⟨_, Heap.get?_update_self _ ho (Obj.isFreed_of_fields (Obj.data_mapFields hd _)), (Obj.cls_mapFields ..).trans hc, by rw [Obj.data_mapFields hd]; simp [rawInt]⟩
 refine wpAny_bind (wpAny_holding (wpAny_bind (wpAny_isOneOf_keyiter (s := { s with heap := s.heap.update it (Obj.mapFields (·.setIfInBounds 1 (rawInt ((i : Int) + 1)))) }) hit'.typeIs ?_)))
 show wpAny _ _ (pure e.key) _ _ _
 exact wpAny_pure (wpAny_pure ⟨_, rfl, wpAny_pure (q _ hit' (Heap.SameBut.update ..))⟩)
theorem stop_raw {it d : Addr} {ep : Nat} {es : Array DictEntry} {Q : Option Value -> Shared -> Prop} (hh : A.handled = none) (hit : s.heap.IsKeyIter it d es.size es.size ep) (x : RawD s.heap d es ep)
  (q : ∀ h', Heap.ExtBut it s.heap h' -> Q none { s with heap := h' }) : wpAny (model P w) A (pyNext (.ref it)) Q E s := by
 obtain ⟨o, ho, hc, hd⟩ := id hit
 obtain ⟨od, hod, hcd, hdd⟩ := id x
 unfold pyNext
 refine wpAny_bind (wpAny_attempt (wpAny_callSpecial?_slot (name := Str.ofString "__next__") hit.typeIs F.slot_dict_keyiterator_next
  (wpAny_call_entry F.slot_dict_keyiterator_next hit.typeIs F.entry_dict_keyiterator_next ?_ (F.args_dict_keyiterator_next_1 _))))
 refine wpAny_bind (wpAny_pure (wpAny_bind (wpAny_bind ?_)))
 first | refine wpAny_bind (wpAny_typeNameOfWhole_keyiter hit.typeIs (wpAny_pure ?_)) | refine wpAny_bind (wpAny_typeNameOf_keyiter hit.typeIs (wpAny_pure ?_))
 refine wpAny_bind (wpAny_fieldsOf ho hd ?_)
 simp only [show Builtin.Dict_items.ownsTuple "dict_keyiterator" = false by decide, Bool.false_eq_true, if_false]
 show wpAny _ _ (if (Value.ref d == Value.none) = true then _ else _) _ _ s
 rw [if_neg (show ¬ ((Value.ref d == Value.none) = true) from Bool.false_ne_true)]
 refine wpAny_bind (wpAny_pure (wpAny_bind (wpAny_dictEntries hod hdd ?_)))
 rw [if_neg (by simp)]
 refine wpAny_bind (wpAny_pure (wpAny_bind (wpAny_dictEpoch hod hdd ?_)))
 rw [if_neg (by simp)]
 refine wpAny_pure ?_
 simp only [show ¬ ((es.size : Int) < 0) from by omega, if_false, Int.toNat_natCast, Array.getElem?_eq_none (Nat.le_refl es.size)]
 refine wpAny_bind ?_
 first | refine wpAny_bind (wpAny_typeNameOfWhole_keyiter hit.typeIs (wpAny_pure ?_)) | refine wpAny_bind (wpAny_typeNameOf_keyiter hit.typeIs (wpAny_pure ?_))
 show wpAny _ _ (setField (.ref it) 0 .none >>= _) _ _ s
 refine wpAny_bind (wpAny_setField ho hd (by simp) ?_)
 show wpAny _ _ (newExc (.type "StopIteration") [] >>= _) _ _ _
 refine wpAny_bind ?_
 simp only [newExc, newTuple]
 refine wpAny_bind (wpAny_newObj_type ?_ (by size_fits))
 refine wpAny_bind (m := firstArgMember _ _) (wpAny_of_eq (a := Value.none) (by first | rfl | (simp only [firstArgMember]; rfl)) ?_)
 refine wpAny_newObj_type ?_ (by size_fits)
 simp only [raiseNew]
 refine wpAny_bind (wpAny_handled ?_)
 rw [show A.in1.handled = none from hh]
 refine wpAny_bind (wpAny_pure (wpAny_throw ?_))
 refine wpAny_bind (wpAny_isInstance (T := "StopIteration") (b := true) ⟨_, Heap.get?_push_size _ rfl, rfl⟩ isSubtype_stop ?_)
 exact wpAny_pure (q _ (((Heap.SameBut.update ..).extBut.push _).push _))
end
def Itu (d : Addr) (o : Obj) (kvs : List (List Key × V)) : It := ⟨fun i H => H d = some (.frz o (.dT kvs)) /\ i < kvs.length, fun i H v H' => H' = H /\ ∃ kv b, kvs[i]? = some kv /\ v = .ref b /\ H b = some (.tup (kv.1.map kV)), fun i H => H d = some (.frz o (.dT kvs)) /\ kvs.length <= i⟩
theorem Paired.get {α β : Type} {F : α -> β -> Prop} : ∀ {l : List α} {m : List β}, Paired F l m -> ∀ {i : Nat} {a : α}, l[i]? = some a -> ∃ b, m[i]? = some b /\ F a b
 | _, _, .nil, i, a, h => by cases h
 | _, _, .cons r t, 0, a, h => by cases h; exact ⟨_, rfl, r⟩
 | _, _, .cons r t, i + 1, a, h => Paired.get t (by simpa using h)
theorem frzT_at {X : Cx} {pins : List (Addr × Obj)} {σ : St} {H : Hp} {s : Shared} {d : Addr} {o : Obj} {kvs : List (List Key × V)} {es : Array DictEntry} {ep : Nat} (I : Inv X pins σ H s) (hd : H d = some (.frz o (.dT kvs))) (hdt : o.data = .dict es ep) :
  s.heap.get? d = some o /\ o.ExactDict /\ es.size = kvs.length /\ ∀ (i : Nat) (kv : List Key × V), kvs[i]? = some kv -> ∃ (b : Addr) (e : DictEntry), es[i]? = some e /\ e.key = .ref b /\ H b = some (.tup (kv.1.map kV)) := by
 obtain ⟨h1, z, y, xs, r, o', es', ep', h2, h3, h4, h5, h6⟩ := (show ObjOk X.prog X.w H s.heap d (.frz o (.dT kvs)) from I.hok d _ hd)
 rw [h1] at h2
 cases h2
 rw [hdt] at h4
 cases h4
 refine ⟨h1, h3, by rw [size_of_entries h5]; exact (Paired.length r).symm, fun i kv hk => ?_⟩
 obtain ⟨x, hx, e1, e2, e3⟩ := Paired.get r hk
 exact ⟨x.2.1, _, by rw [entry_at h5, hx]; rfl, rfl, e2⟩
theorem turn_dT {P : Program} {w : World} {K : Frag} {tg : Expr} (d it : Addr) (hne : d ≠ it) (o : Obj) (kvs : List (List Key × V)) (es : Array DictEntry) (ep : Nat) (hdt : o.data = .dict es ep) :
  Turn P w K tg (Itu d o kvs) [it] it (fun i h => i <= kvs.length /\ h.IsKeyIter it d i es.size ep) where
 mem := by simp
 obj := fun i h st b hb => by
  obtain rfl : b = it := by simpa using hb
  obtain ⟨_, o, e, c, d⟩ := st
  exact ⟨o, e, fun v z => by rw [d] at z; cases z⟩
 keep := fun i h h' st k => by
  obtain ⟨l, o, e, r⟩ := st
  exact ⟨l, o, k it (by simp) _ e, r⟩
 item := by
  intro X hP hw hK hc i pins s σ H E I hf st hg
  subst hP hw hK
  obtain ⟨f0, f1, f2, f3, f4, f5⟩ := hf it (by simp)
  obtain ⟨g1, g2, g3, g4⟩ := frzT_at I hg.1 hdt
  have hil : i < kvs.length := hg.2
  have hki : kvs[i]? = some kvs[i] := List.getElem?_eq_getElem hil
  obtain ⟨b, e, he, hk, hb⟩ := g4 i _ hki
  refine next_raw st.2 ⟨o, g1, g2, hdt⟩ he fun h' st' sb => ?_
  have I1 : Inv X pins σ H { s with heap := h' } := I.turned (t' := s.toks) (fun b o hb e => sb.extBut b o (by simpa using hb) e) f0 f1 f3 f4 f5
  obtain ⟨ob, e0, cl, dt⟩ := id st'
  exact ⟨_, rfl, go_of (s := { s with heap := h' }) e0 cl dt (by decide) ⟨.ref b, H, I1, hk, ⟨rfl, kvs[i], b, hki, rfl, hb⟩, ⟨hg.2, st'⟩, fun b hb => (hf b hb).1⟩⟩
 done := by
  intro X hP hw hK hc i pins s σ H E I hf st hg
  subst hP hw hK
  obtain ⟨f0, f1, f2, f3, f4, f5⟩ := hf it (by simp)
  obtain ⟨g1, g2, g3, g4⟩ := frzT_at I hg.1 hdt
  have ei : i = es.size := by rw [g3]; exact Nat.le_antisymm st.1 hg.2
  have st2 := st.2
  rw [ei] at st2
  exact stop_raw (I.ok.hd hc) st2 ⟨o, g1, g2, hdt⟩ fun h' eb => ⟨rfl, I.turned (t' := s.toks) (fun b o hb e => eb b o (by simpa using hb) e) f0 f1 f3 f4 f5⟩
 self := fun A i s Q E st h => wpAny_pyIter_keyiter st.2 h
section
variable {X : Cx} {tg : Expr}
theorem Inv.freezeT {pins : List (Addr × Obj)} {σ : List (Option V)} {H : Hp} {s : Shared} {d : Addr} {kvs : List (List Key × V)} {o : Obj} (I : Inv X pins σ H s) (hd : H d = some (.dT kvs)) (ho : s.heap.get? d = some o) : Inv X pins σ (upd H d (.frz o (.dT kvs))) s := by
 have ok : ObjOk X.prog X.w H s.heap d (.dT kvs) := I.hok d _ hd
 have nd : ∀ {b : Addr} {u : HO}, H b = some u -> u ≠ .dT kvs -> b ≠ d := fun e n z => by rw [z, hd] at e; exact n (Option.some.inj e).symm
 refine I.un (h' := s.heap) (t' := s.toks) ⟨fun b ob q _ _ _ => q, fun b ob q _ _ _ => ⟨ob.slots, q⟩, fun b ob q n _ => ?_, fun b ob q _ => ⟨ob, q⟩, fun b xs e => ?_, fun b ob u e => ?_, fun b ps e => ⟨#[], ?_⟩⟩ fun b u e => ?_
 ·rw [upd_ne (fun z => by rw [z, hd] at n; cases n)]; exact n
 ·rw [upd_ne (nd e (by intro z; cases z))]; exact e
 ·rw [upd_ne (nd e (by intro z; cases z))]; exact e
 ·rw [upd_ne (nd e (by intro z; cases z)), e]; simp
 ·by_cases hb : b = d
  ·subst hb
   rw [upd_same] at e
   cases e
   exact ⟨ho, ok.stay (fun _ _ _ q => q) (fun c q => by rw [upd_ne (nd q (by intro z; cases z))]; exact q) fun c xs q => by rw [upd_ne (nd q (by intro z; cases z))]; exact q⟩
  ·rw [upd_ne hb] at e
   exact (I.hok b u e).stay (fun _ _ _ q => q) (fun c q => by rw [upd_ne (nd q (by intro z; cases z))]; exact q) fun c xs q => by rw [upd_ne (nd q (by intro z; cases z))]; exact q
def iDictT (te : TE) : TI := fun σ H R => te σ H fun v H1 => ∃ d kvs, v = .ref d /\ H1 d = some (.dT kvs) /\ ∀ o, R (Itu d o kvs) (upd H1 d (.frz o (.dT kvs)))
theorem pi_dictT {e : Expr} {te : TE} (he : PE X e te) : PI X tg e (iDictT te) := by
 intro pins s σ H R I h
 refine thn (he pins s σ H _ I h) fun v s1 ⟨y, H1, I1, r1, d, kvs, ey, e1, q⟩ => ?_
 subst ey
 cases r1
 obtain ⟨z, hs, xs, r, o, es, ep, ho, hx, hdt, h4, h5⟩ := (show ObjOk X.prog X.w H1 s1.heap d (.dT kvs) from I1.hok d _ e1)
 have hsz : es.size = kvs.length := by rw [size_of_entries h4]; exact (Paired.length r).symm
 refine iter_raw hs ⟨o, ho, hx, hdt⟩ ?_
 have hne : d ≠ s1.heap.objs.size := Nat.ne_of_lt (Heap.lt_size ho)
 have I2 : Inv X pins σ H1 { s1 with heap := s1.heap.push { cls := .type "dict_keyiterator", data := .fields #[.ref d, .int 0 0, .int es.size 0, .int ep 0] } } := I1.kept (t' := s1.toks) fun b ob z => Heap.get?_push_of_some _ z
 have st : 0 <= kvs.length /\ Heap.IsKeyIter (s1.heap.push { cls := .type "dict_keyiterator", data := .fields #[.ref d, .int 0 0, .int es.size 0, .int ep 0] }) s1.heap.objs.size d 0 es.size ep := ⟨Nat.zero_le _, _, Heap.get?_push_size _ rfl, rfl, rfl⟩
 have hfr : H1 s1.heap.objs.size = none := I1.hok.fresh (Nat.le_refl _)
 refine ⟨s1.heap.objs.size, [s1.heap.objs.size], _, _, _, rfl, I2.freezeT e1 (Heap.get?_push_of_some _ ho), turn_dT d s1.heap.objs.size hne o kvs es ep hdt, st, fun b hb => ?_, q o⟩
 obtain rfl : b = s1.heap.objs.size := by simpa using hb
 exact I1.fpOk (Nat.le_refl _) (by rw [upd_ne (Ne.symm hne)]; exact hfr)
theorem Inv.thawT {pins : List (Addr × Obj)} {σ : List (Option V)} {H : Hp} {s : Shared} {d : Addr} {kvs : List (List Key × V)} {o : Obj} (I : Inv X pins σ H s) (hd : H d = some (.frz o (.dT kvs))) (h0 : ∀ o u, X.H₀ d ≠ some (.frz o u)) : Inv X pins σ (upd H d (.dT kvs)) s := by
 obtain ⟨_, ok⟩ := (show ObjOk X.prog X.w H s.heap d (.frz o (.dT kvs)) from I.hok d _ hd)
 have nd : ∀ {b : Addr} {u : HO}, H b = some u -> u ≠ .frz o (.dT kvs) -> b ≠ d := fun e n z => by rw [z, hd] at e; exact n (Option.some.inj e).symm
 have nn : ∀ {b : Addr}, H b = none -> upd H d (.dT kvs) b = none := fun {b} e => by rw [upd_ne (fun z => by rw [z, hd] at e; cases e)]; exact e
 refine ⟨I.ok, I.os, I.bare, ⟨I.base.keep, I.base.slot, fun b ob e n hx => nn (I.base.free b ob e n hx), I.base.there, fun b xs e => ?_, fun b ob u e => ?_, fun b ps e => ?_⟩, I.loc, I.cell, nn I.free, fun x c e => nn (I.freeC x c e), fun p hp => ?_, fun b u e => ?_, I.len⟩
 ·rw [upd_ne (nd (I.base.tups b xs e) (by intro z; cases z))]; exact I.base.tups b xs e
 ·have hb : b ≠ d := fun z => h0 ob u (z ▸ e)
  rw [upd_ne hb]; exact I.base.frzs b ob u e
 ·obtain ⟨more, e2⟩ := I.base.tbls b ps e
  exact ⟨more, by rw [upd_ne (nd e2 (by intro z; cases z))]; exact e2⟩
 ·obtain ⟨a1, a2, a3⟩ := I.pin p hp
  exact ⟨a1, nn a2, a3⟩
 ·by_cases hb : b = d
  ·subst hb
   rw [upd_same] at e
   cases e
   exact ok.stay (fun _ _ _ q => q) (fun c q => by rw [upd_ne (nd q (by intro z; cases z))]; exact q) fun c xs q => by rw [upd_ne (nd q (by intro z; cases z))]; exact q
  ·rw [upd_ne hb] at e
   exact (I.hok b u e).stay (fun _ _ _ q => q) (fun c q => by rw [upd_ne (nd q (by intro z; cases z))]; exact q) fun c xs q => by rw [upd_ne (nd q (by intro z; cases z))]; exact q
def tThaw (H0 : Hp) (t : TE) : TE := fun σ H Q => t σ H fun v H' => ∃ d o kvs, H' d = some (.frz o (.dT kvs)) /\ (∀ o u, H0 d ≠ some (.frz o u)) /\ Q v (upd H' d (.dT kvs))
theorem pe_thaw {e : Expr} {te : TE} (he : PE X e te) : PE X e (tThaw X.H₀ te) := by
 intro pins s σ H Q I h
 exact thn (he pins s σ H _ I h) fun v s1 ⟨y, H1, I1, r1, d, o, kvs, e1, h0, q⟩ => ⟨y, _, I1.thawT e1 h0, r1, q⟩
end
theorem comp_dictT {d : Addr} {o : Obj} {kvs : List (List Key × V)} {g : TG} {ti : TT} {te : TE} {τ0 : St} {Q : VK} {p : Addr} {H1 : Hp} (Pv : Nat -> List V -> St -> Hp -> Prop) (h0 : Pv 0 [] τ0 (upd H1 p (.lst []))) (hl : ∀ i ys τ H, Pv i ys τ H -> H p = some (.lst ys) /\ H d = some (.frz o (.dT kvs)))
  (hs : ∀ i kv b ys τ H, kvs[i]? = some kv -> H b = some (.tup (kv.1.map kV)) -> Pv i ys τ H -> g (.ref b) τ H fun τ4 H4 => ti τ4 H4 fun c H5 => if c = true then te τ4 H5 fun y H6 => H6 p = some (.lst ys) /\ ys.length < sizeLine /\ ∃ m', m' < kvs.length - i /\ CW Pv kvs.length (i + 1) m' (ys ++ [y]) τ4 (upd H6 p (.lst (ys ++ [y]))) else ∃ m', m' < kvs.length - i /\ CW Pv kvs.length (i + 1) m' ys τ4 H5)
  (hd : ∀ ys τ H, Pv kvs.length ys τ H -> Q (.ref p) H) : CompW (Itu d o kvs) g ti te τ0 Q p H1 := by
 refine ⟨CW Pv kvs.length, ⟨kvs.length, by simp, Nat.zero_le _, h0⟩, ?_⟩
 rintro i m ys τ H ⟨rfl, hi, pv⟩
 obtain ⟨hp, hq⟩ := hl i ys τ H pv
 refine ⟨hp, ?_⟩
 by_cases hlt : i < kvs.length
 ·refine .inr ⟨⟨hq, hlt⟩, fun x H3 y3 => ?_⟩
  obtain ⟨e3, kv, b, hkv, ex, hb⟩ := y3
  subst e3
  subst ex
  exact hs i kv b ys τ _ hkv hb pv
 ·have e : i = kvs.length := by omega
  subst e
  exact .inl ⟨⟨hq, Nat.le_refl _⟩, hd ys τ H pv⟩
end L2
namespace L2
open PySem PySem.W PySem.Spec PyProof.Rows
end L2
namespace L2
open PySem PySem.Spec PyProof.Rows PySem.W HT
end L2
namespace L2
open PySem PySem.W PySem.Spec PyProof.Rows
end L2
namespace L2
open PySem PySem.Spec PyProof.Rows PySem.W HS
structure CompForm (e tg iter : Expr) (ifs : List Expr) (emit : Value -> Env -> Sem Unit) : Prop where
 cl : clausesOf e = [⟨tg, iter, ifs, 0⟩]
 turn : ∀ it acc env, compTurn e 0 it acc env = (do
   standAt iter.pos
   match <- pyNext it with
   | none => pure (.done .next)
   | some v =>
    letOwnedTupleGo tg it v
    assign tg env v
    let mut ok := true
    for c in ifs do
     if ok then ok <- isTrue c env (eval c env)
    if ok then emit acc env
    again (.compLoop e 0 it acc env))
 loop : ∀ (prog : Program) (w : World) (A : Around) it acc env, A.under (.compLoop e 0 it acc env) = A /\ (model prog w).den (.compLoop e 0 it acc env) = (compTurn e 0 it acc env).onRaise (fun x => do noteFrame x env; theTreesLotGoes x)
 begin_ : ∀ (prog : Program) (w : World) (A : Around) it acc env, A.under (.compStart e 0 it acc env) = A /\ (model prog w).den (.compStart e 0 it acc env) = (compStart e 0 it acc env).onRaise (fun x => do noteFrame x env; standAt theWindowsPlace)
def emitDict (k v : Expr) (acc : Value) (env : Env) : Sem Unit := do
 let kv <- eval k env
 let vv <- holding [kv] (eval v env)
 match acc with
 | .ref d => do
  standAt { k.pos with endLine := v.pos.endLine, endCol := v.pos.endCol }
  holding [kv, vv] (dictSet d kv vv)
 | _ => unsupported "internal:dictcomp"
theorem form_dict {k v tg iter : Expr} {ifs : List Expr} {scope : Scope} {pos : Pos} : CompForm (.DictComp k v [⟨tg, iter, ifs, 0⟩] scope pos) tg iter ifs (emitDict k v) := ⟨rfl, fun _ _ _ => rfl, fun _ _ _ _ _ _ => ⟨rfl, rfl⟩, fun _ _ _ _ _ _ => ⟨rfl, rfl⟩⟩
theorem code_compLoopG {prog : Program} {w : World} {A : Around} {R : Result -> Shared -> Prop} {s : Shared} {e tg iter : Expr} {ifs : List Expr} {emit : Value -> Env -> Sem Unit} {it acc : Value} {env : Env} (F : CompForm e tg iter ifs emit) (I : Nat -> Shared -> Prop)
  (turn : ∀ n s, I n s -> wpAny (model prog w) A (pyNext it) (fun r s1 => match r with
   | none => R (.ok .next) s1
   | some v => wpAny (model prog w) A (letOwnedTupleGo tg it v) (fun _ s2 => wpAny (model prog w) A (assign tg env v) (fun _ s3 =>
     wpAny (model prog w) A (forIn ifs true fun c r => if r = true then do let ok <- isTrue c env (eval c env); pure (ForInStep.yield ok) else pure (ForInStep.yield r)) (fun ok s4 =>
      if ok = true then wpAny (model prog w) A (emit acc env) (fun _ s6 => ∃ m, m < n /\ I m s6) (fun _ _ => False) s4
      else ∃ m, m < n /\ I m s4) (fun _ _ => False) s3) (fun _ _ => False) s2) (fun _ _ => False) s1) (fun _ _ => False) s)
  (n : Nat) (h : I n s) :
  codeAny (model prog w) A (.compLoop e 0 it acc env) R s := by
 refine codeAny_loop rfl I (fun n s hI => ?_) n h
 rw [(F.loop prog w A it acc env).1, (F.loop prog w A it acc env).2]
 refine wpAny_noted (wpAny_noRaise ?_)
 rw [F.turn]
 refine wpAny_bind (wpAny_standAt (wpAny_bind (thn (turn n s hI) fun r s1 h1 => ?_)))
 cases r with
 | none => exact wpAny_pure h1
 | some v =>
  refine wpAny_bind (thn h1 fun _ s2 h2 => wpAny_bind (thn h2 fun _ s3 h3 => wpAny_bind (thn h3 fun ok s4 h4 => ?_)))
  cases ok with
  | false => exact wpAny_pure ⟨rfl, h4⟩
  | true => exact wpAny_bind (thn h4 fun x s5 h5 => wpAny_pure ⟨rfl, h5⟩)
theorem code_compStartG {prog : Program} {w : World} {A : Around} {R : Result -> Shared -> Prop} {s : Shared} {e tg iter : Expr} {ifs : List Expr} {emit : Value -> Env -> Sem Unit} {it acc : Value} {env : Env} (F : CompForm e tg iter ifs emit)
  (h0 : codeAny (model prog w) A (.compLoop e 0 it acc env) R s)
  (h : wpAny (model prog w) A (pyIter it) (fun it' s' => codeAny (model prog w) A (.compLoop e 0 it' acc env) R s')
   (notedBy (model prog w) A env fun x s' => R (.error x) s') s) :
  codeAny (model prog w) A (.compStart e 0 it acc env) R s := by
 refine codeAny_of_tree ?_
 rw [(F.begin_ prog w A it acc env).1, (F.begin_ prog w A it acc env).2]
 refine wpAny_notedAt ?_
 unfold compStart
 rw [F.cl]
 show wpAny _ _ (ask >>= _) _ _ s
 refine wpAny_bind (wpAny_askSetting (wpAny_ite ?_))
 split
 ·first
   | exact wpAny_bind (wpAny_pure (wpAny_pure (And.intro rfl h0)))
   | exact wpAny_pure (And.intro rfl h0)
 ·first
   | exact wpAny_bind (wpAny_rule (wpAny_bind (wpAny_standAt (wpAny_bind (wpAny_mono h (fun it' s' h' => wpAny_pure (And.intro rfl h')) fun _ _ x => x)))))
   | (refine wpAny_bind (wpAny_rule ?_); show wpAny _ _ (standAt iter.pos >>= _) _ _ s; exact wpAny_bind (wpAny_standAt (wpAny_bind (wpAny_mono h (fun it' s' h' => wpAny_pure (And.intro rfl h')) fun _ _ x => x))))
def CompWG (J : It) (g : TG) (ti : TT) (tem : Addr -> St -> Hp -> (Hp -> Prop) -> Prop) (τ0 : St) (Q : VK) (p : Addr) (H1 : Hp) : Prop :=
 ∃ W : Nat -> Nat -> St -> Hp -> Prop, (∃ m, W 0 m τ0 H1) /\ ∀ i m τ H2, W i m τ H2 ->
  ((J.stop i H2 /\ Q (.ref p) H2) \/ (J.go i H2 /\ ∀ x H3, J.yld i H2 x H3 -> g x τ H3 fun τ4 H4 => ti τ4 H4 fun b H5 =>
   if b = true then tem p τ4 H5 fun H6 => ∃ m', m' < m /\ W (i + 1) m' τ4 H6
   else ∃ m', m' < m /\ W (i + 1) m' τ4 H5))
def PEm (X : Cx) (emit : Value -> Env -> Sem Unit) (tem : Addr -> St -> Hp -> (Hp -> Prop) -> Prop) : Prop :=
 ∀ (pins : List (Addr × Obj)) (s : Shared) (σ : St) (H : Hp) (p : Addr) (Q : Hp -> Prop), Inv X pins σ H s -> tem p σ H Q -> wpAny (model X.prog X.w) X.A (emit (.ref p) X.env) (fun _ s' => ∃ H', Inv X pins σ H' s' /\ Q H') X.xe s
structure NewAcc (X : Cx) (newAcc : Sem Value) (start : Addr -> HO) : Prop where
 run : ∀ (pins : List (Addr × Obj)) (s : Shared) (σ : St) (H : Hp) (E : Value -> Shared -> Prop) (Q : Value -> Shared -> Prop), Inv X pins σ H s ->
  (∀ s', Inv X pins σ (upd H s.heap.objs.size (start s.heap.objs.size)) s' -> (∀ b o, s.heap.get? b = some o -> s'.heap.get? b = some o) -> Q (.ref s.heap.objs.size) s') -> wpAny (model X.prog X.w) X.A newAcc Q E s
def tCompG (wi : TI) (ixs : List (Option Nat)) (g : TG) (ti : TT) (tem : Addr -> St -> Hp -> (Hp -> Prop) -> Prop) (start : Addr -> HO) : TE := fun σ H Q => wi σ H fun J H1 => ∀ p, H1 p = none -> CompWG J g ti tem (pick ixs σ) Q p (upd H1 p (start p))
section
variable {X : Cx} {pins : List (Addr × Obj)} {σ : St} {H2 : Hp} {s2 : Shared} {N' : List Str} {ixs : List (Option Nat)} {scope : Scope} {e tg elt iter : Expr} {ifs : List Expr} {pos : Pos} {emit : Value -> Env -> Sem Unit} {tem : Addr -> St -> Hp -> (Hp -> Prop) -> Prop}
theorem comp_coreG {J : It} {fp : List Addr} {it : Addr} {tn : Nat -> Heap -> Prop} {g : TG} {ti : TT} {Q : VK} {E : Value -> Shared -> Prop} {RR : Value -> Addr -> Result -> Shared -> Prop} {newAcc : Sem Value} {start : Addr -> HO} (F : CompForm e tg iter ifs emit) (hc : X.calm = true) (S : CompScope X.N X.env.scope N' ixs scope)
  (I2 : Inv X pins σ H2 s2) (T : Turn X.prog X.w X.K tg J fp it tn) (st : tn 0 s2.heap) (hf : ∀ b ∈ fp, FpOk X pins H2 b) (hnew : NewAcc X newAcc start)
  (hb : ∀ s H fp, PG (cxComp X N' scope s H fp) tg g /\ PIfs (cxComp X N' scope s H fp) ifs ti /\ PEm (cxComp X N' scope s H fp) emit tem)
  (hw : ∀ p, H2 p = none -> CompWG J g ti tem (pick ixs σ) Q p (upd H2 p (start p))) (hR : ∀ acc C s', CompEnd X pins σ Q acc C s' -> RR acc C (.ok .next) s') :
  wpAny (model X.prog X.w) X.A newAcc (fun acc s3 => wpAny (model X.prog X.w) X.A (newFunctionEnv scope X.env.globals (closL X.env.cells scope.names []) [] X.env.qual none .none (some X.env)) (fun cenv s4 =>
   codeAny (model X.prog X.w) X.A (.compStart e 0 (.ref it) acc { cenv with scope := relabel scope X.env }) (RR acc cenv.locals) s4) E s3) E s2 := by
 refine hnew.run pins s2 σ H2 E _ I2 fun s3 I3 get3 => ?_
 have hp := hw s2.heap.objs.size I2.fresh
 generalize eH : upd H2 s2.heap.objs.size (start s2.heap.objs.size) = H3 at I3 hp
 have flt : ∀ b ∈ fp, b < s2.heap.objs.size := fun b hb => let ⟨_, e, _⟩ := T.obj _ _ st b hb; Heap.lt_size e
 have st3 : tn 0 s3.heap := T.keep _ _ _ st fun b _ o e => get3 b o e
 have hf3 : ∀ b ∈ fp, FpOk X pins H3 b := fun b hb => ⟨by rw [<- eH, upd_ne (Nat.ne_of_lt (flt b hb))]; exact (hf b hb).1, (hf b hb).2⟩
 have ho3 : ∀ b ∈ fp, ∃ o, s3.heap.get? b = some o := fun b hb => let ⟨o, e, _⟩ := T.obj _ _ st3 b hb; ⟨o, e⟩
 refine newEnv_comp fun h4 hn hk hcl hpw => ?_
 have I4 : Inv (cxComp X N' scope s3 H3 fp) [] (pick ixs σ) H3 { s3 with heap := h4 } := inv_comp I3 S hf3 ho3 hn hk hcl hpw
 have st4 : tn 0 ({ s3 with heap := h4 } : Shared).heap := T.keep _ _ _ st3 fun b _ o e => hk b o e
 obtain ⟨hG, hI, hE⟩ := hb s3 H3 fp
 obtain ⟨W, ⟨m0, w0⟩, turn⟩ := hp
 have stat : ∀ {H' : Hp}, (∀ b ∈ fp, H' b = none) -> ∀ b ∈ fp, FpOk (cxComp X N' scope s3 H3 fp) [] H' b := fun hn b hb =>
  ⟨hn b hb, (I4.ok.exf b hb).1, I4.ok.exfs b hb, .inl hb, fun x c e => (I4.ok.exf b hb).2 x c e, fun p hp => absurd (show p ∈ ([] : List (Addr × Obj)) from hp) (by simp)⟩
 have loop : codeAny (model X.prog X.w) X.A (.compLoop e 0 (.ref it) (.ref s2.heap.objs.size) (compEnv2 scope s3.heap.objs.size X.env))
   (RR (.ref s2.heap.objs.size) s3.heap.objs.size) { s3 with heap := h4 } := by
  refine code_compLoopG F (fun n s' => ∃ i τ H', Inv (cxComp X N' scope s3 H3 fp) [] τ H' s' /\ tn i s'.heap /\ (∀ b ∈ fp, H' b = none) /\ W i n τ H') ?_ m0 ⟨0, _, H3, I4, st4, fun b hb => (hf3 b hb).1, w0⟩
  rintro n s5 ⟨i, τ, H5, I5, st5, fr5, w5⟩
  have w5 := turn i n τ H5 w5
  rcases w5 with ⟨stop, qn⟩ | ⟨go, step⟩
  ·refine thn (T.done (cxComp X N' scope s3 H3 fp) rfl rfl rfl hc i [] s5 τ H5 _ I5 (stat fr5) st5 stop) fun r s6 ⟨hr, I6⟩ => ?_
   subst hr
   refine hR _ _ _ ⟨_, H5, rfl, ?_, ?_, ?_, qn⟩
   ·exact I3.call' (s' := s6) (ch := fp) I6.os I6.base I6.hok I6.bare fun b hb => ⟨(hf3 b hb).2.2.2.1, (hf3 b hb).2.1, (hf3 b hb).2.2.2.2.1, (hf3 b hb).2.2.2.2.2⟩
   ·exact I3.fpOk (Nat.le_refl _) I6.free
   ·obtain ⟨m, hm, _⟩ := I6.loc
    exact ⟨m, hm⟩
  ·refine thn (T.item (cxComp X N' scope s3 H3 fp) rfl rfl rfl hc i [] s5 τ H5 _ I5 (stat fr5) st5 go) fun r s6 ⟨u, hr, h6⟩ => ?_
   subst hr
   refine thn h6 fun _ s7 ⟨x, H7, I7, r7, y7, st7, fr7⟩ => ?_
   have I7' := I7.pinned (stat fr7) (T.obj _ _ st7)
   refine thn (hG _ s7 τ H7 x u _ I7' r7 (step x H7 y7)) fun _ s8 ⟨τ8, H8, I8, q8⟩ => ?_
   refine thn (hI _ s8 τ8 H8 _ I8 q8) fun b s9 ⟨H9, I9, q9⟩ => ?_
   have again : ∀ {τ' : St} {H' : Hp} {s' : Shared} {m' : Nat}, Inv (cxComp X N' scope s3 H3 fp) ([] ++ pinsAt fp s7.heap) τ' H' s' -> m' < n -> W (i + 1) m' τ' H' ->
     ∃ m, m < n /\ ∃ i τ H', Inv (cxComp X N' scope s3 H3 fp) [] τ H' s' /\ tn i s'.heap /\ (∀ b ∈ fp, H' b = none) /\ W i m τ H' := fun {τ' H' s' m'} I' hm w' => by
    refine ⟨m', hm, i + 1, τ', H', I'.unpinned, T.keep _ _ _ st7 fun b hb o e => (I'.pin (b, o) (List.mem_append_right _ (List.mem_append_right _ (mem_pinsAt hb e)))).1, fun b hb => ?_, w'⟩
    obtain ⟨o, e, d⟩ := T.obj _ _ st7 b hb
    exact (I'.pin (b, o) (List.mem_append_right _ (List.mem_append_right _ (mem_pinsAt hb e)))).2.1
   cases b with
   | false =>
    obtain ⟨m', hm, w'⟩ := q9
    exact again I9 hm w'
   | true => exact thn (hE _ s9 τ8 H9 _ _ I9 q9) fun _ s10 ⟨H10, I10, m', hm, w'⟩ => again I10 hm w'
 exact code_compStartG F loop (T.self X.A 0 _ _ _ st4 loop)
theorem pe_compG {wi : TI} {g : TG} {ti : TT} {newAcc : Sem Value} {start : Addr -> HO} (F : CompForm e tg iter ifs emit) (hev : eval e X.env = comprehension e scope X.env pos newAcc false (eval iter X.env)) (hnew : NewAcc X newAcc start) (hc : X.calm = true) (S : CompScope X.N X.env.scope N' ixs scope) (hi : PI X tg iter wi)
  (hb : ∀ s H fp, PG (cxComp X N' scope s H fp) tg g /\ PIfs (cxComp X N' scope s H fp) ifs ti /\ PEm (cxComp X N' scope s H fp) emit tem)
  (hs : ∀ x, foldedSetIterable iter X.env x = pure x := by intro _; rfl) : PE X e (tCompG wi ixs g ti tem start) := by
 intro pins s σ H Q I h
 rw [hev]
 refine wpAny_comprehension_free (use := none) F.cl hs (closureFor_eq fun n hn => comp_free I S hn) S.kind (fun x hx hl => lookup_of_mem S.keys (by rw [<- hl]; exact hx)) ?_
 refine thn (hi pins s σ H _ I h) fun v s1 h1 => thn h1 fun itv s2 h2 => ?_
 obtain ⟨it, fp, tn, J, H2, e, I2, T, st2, f2, hw⟩ := h2
 subst e
 refine comp_coreG (RR := fun acc C => compPost (model X.prog X.w) X.A X.xe none (EP X pins σ Q) acc C) F hc S I2 T st2 f2 hnew hb hw ?_
 rintro acc C s' ⟨p, H', rfl, I', fC, ⟨m, hm⟩, q⟩
 refine ⟨m, hm, fun h' hs' => ⟨.ref p, H', ?_, rfl, q⟩⟩
 exact I'.turned (it := C) (t' := s'.toks) (fun b o hb e => (hs'.2 b hb).trans e) fC.1 fC.2.1 fC.2.2.2.1 fC.2.2.2.2.1 fC.2.2.2.2.2
end
section
variable {X : Cx} {elt k v : Expr} {te tk tv : TE}
def tmDT (tk tv : TE) (p : Addr) (σ : St) (H : Hp) (Q : Hp -> Prop) : Prop := tk σ H fun y H1 => tv σ H1 fun z H2 => ∃ kvs ks b, y = .ref b /\ H2 b = some (.tup (ks.map kV)) /\ H2 p = some (.dT kvs) /\ kvs.length < sizeLine /\ Q (upd H2 p (.dT (putK kvs ks z)))
theorem em_dT (hu : X.A.units + 1 < cLine) (hk : PE X k tk) (hv : PE X v tv) : PEm X (emitDict k v) (tmDT tk tv) := by
 intro pins s σ H p Q I h
 unfold emitDict
 refine wpAny_bind (thn (hk pins s σ H _ I h) fun u s1 ⟨y, H1, I1, ry, q1⟩ => wpAny_bind (wpAny_holding (thn (hv pins s1 σ H1 _ I1 q1) fun r s2 ⟨z, H2, I2, rz, kvs, ks, b, ey, eb, e, l, q⟩ => ?_)))
 subst ey
 cases (show u = Value.ref b from ry)
 refine wpAny_bind (wpAny_standAt (wpAny_holding ?_))
 obtain ⟨zz, hd, xs, rel, dd⟩ := dt_of I2.hok e
 have hz : xs.length <= sizeLine := by rw [<- Paired.length rel]; exact zz
 have hl : (putK kvs ks z).length <= sizeLine := by have := length_putK kvs ks z; omega
 refine wpAny_dictSet_heap (hsz := hz) (knd := tupleKind (mixKind X.prog X.w)) (k := ks) (show X.A.units < cLine by omega) (key_of I2.hok eb) dd fun h' dd' hs => ⟨_, ?_, q⟩
 obtain ⟨qo, es, ep, hq, h2, h3, h4, _, h5⟩ := dd'
 refine d_write I2 (by rw [e]; exact True.intro) hs ⟨qo, hq⟩ ⟨hl, hd, _, (rel.put ks eb rz).keeps fun c ys ec => ?_, qo, es, ep, hq, h2, h3, h4, h5⟩
 rw [upd_ne (ne_of ec e (fun z => nomatch z))]
 exact ec
theorem new_dT : NewAcc X (newDict) (fun _ => .dT []) := ⟨fun pins s σ H E Q I h => by
 refine wpAny_newObj_type ?_
 exact h _ (I.laid (a := s.heap.objs.size) (o := .dT []) (t' := s.toks) (fun _ _ q => Heap.get?_push_of_some _ q) (Nat.le_refl _) (dt_empty s.heap I.big)) fun b o e => Heap.get?_push_of_some _ e⟩
variable {N' : List Str} {ixs : List (Option Nat)} {scope : Scope} {tg iter : Expr} {ifs : List Expr} {pos : Pos} {wi : TI} {g : TG} {ti : TT}
theorem pe_dcompT (hc : X.calm = true) (S : CompScope X.N X.env.scope N' ixs scope) (hi : PI X tg iter wi)
  (hb : ∀ s H fp, PG (cxComp X N' scope s H fp) tg g /\ PIfs (cxComp X N' scope s H fp) ifs ti /\ PEm (cxComp X N' scope s H fp) (emitDict k v) (tmDT tk tv))
  (hs : ∀ x, foldedSetIterable iter X.env x = pure x := by intro _; rfl) : PE X (.DictComp k v [⟨tg, iter, ifs, 0⟩] scope pos) (tCompG wi ixs g ti (tmDT tk tv) fun _ => .dT []) :=
 pe_compG form_dict rfl new_dT hc S hi hb hs
end
def CWG (Pv : Nat -> St -> Hp -> Prop) (n i m : Nat) (τ : St) (H : Hp) : Prop := m = n - i /\ i <= n /\ Pv i τ H
theorem cwg_next {Pv : Nat -> St -> Hp -> Prop} {n i : Nat} {τ : St} {H : Hp} (h : i < n) (p : Pv (i + 1) τ H) : ∃ m', m' < n - i /\ CWG Pv n (i + 1) m' τ H := ⟨n - (i + 1), by omega, rfl, h, p⟩
theorem compG_tup {K : Frag} {a : Addr} {xs : List V} {g : TG} {ti : TT} {tem : Addr -> St -> Hp -> (Hp -> Prop) -> Prop} {τ0 : St} {Q : VK} {p : Addr} {H1 : Hp} (Pv : Nat -> St -> Hp -> Prop) (h0 : Pv 0 τ0 H1) (hl : ∀ i τ H, Pv i τ H -> SqT K H a xs)
  (hs : ∀ i x τ H, xs[i]? = some x -> Pv i τ H -> g x τ H fun τ4 H4 => ti τ4 H4 fun b H5 => if b = true then tem p τ4 H5 fun H6 => ∃ m', m' < xs.length - i /\ CWG Pv xs.length (i + 1) m' τ4 H6 else ∃ m', m' < xs.length - i /\ CWG Pv xs.length (i + 1) m' τ4 H5)
  (hd : ∀ τ H, Pv xs.length τ H -> Q (.ref p) H) : CompWG (Itt K a) g ti tem τ0 Q p H1 := by
 refine ⟨CWG Pv xs.length, ⟨xs.length, by simp, Nat.zero_le _, h0⟩, ?_⟩
 rintro i m τ H ⟨rfl, hi, pv⟩
 have hq := hl i τ H pv
 by_cases hlt : i < xs.length
 ·refine .inr ⟨⟨xs, xs[i], hq, by simp [hlt]⟩, fun x H3 y3 => ?_⟩
  obtain ⟨e3, ex⟩ := y3
  subst e3
  exact hs i x τ _ (ex xs hq) pv
 ·have e : i = xs.length := by omega
  subst e
  exact .inl ⟨⟨xs, hq, Nat.le_refl _⟩, hd τ H pv⟩
end L2
namespace L2
open PySem PySem.Spec PyProof.Rows
abbrev fnR (oc : Value) (od : Option Addr) (x q : Str) (st : Stmt) (dv kV doc pm : Value) (an : Option Addr) (cd ct : Value) (sl : Array (Option Value)) : Obj := ⟨oc, od, .func (PySem.W.fnOf x q (defArgs st) (defBody st) (defScope st) dv kV doc pm an cd ct), sl⟩
structure FunD (K : PySem.W.Frag) (x qual : Str) (st : Stmt) (dv : Value) (f : Addr) (fd : FuncData) : Prop where
 ex : ∃ (oc : Value) (od : Option Addr) (kV doc pm : Value) (an : Option Addr) (cdv ct : Value) (osl : Array (Option Value)),
  fd = PySem.W.fnOf x qual (defArgs st) (defBody st) (defScope st) dv kV doc pm an cdv ct /\ K.lookup f = some ⟨oc, od, .func fd, osl⟩ /\ PySem.W.codeIn K cdv qual = true
 kp : PySem.W.keepIn K (.ref f) = true
section
variable {P : Program} {w : World} {K : PySem.W.Frag} {mg : Str -> Option Value} {base : Heap}
theorem FunD.ok {x qual : Str} {st : Stmt} {dv : Value} {f : Addr} {fd : FuncData} {N ps : List Str} {k : Nat} {sp : Sp} (F : FunD K x qual st dv f fd) (S : FnScope N ps (defScope st)) (len : ∀ vs H Q E, sp vs H Q E -> vs.length = ps.length)
  (hbody : ∀ (cdv : Value) (A : Around) (outer : List Env) (s : Shared) (H : Hp) (vs : List V) (Q : VK) (E : XK), Room k (A.deeper (envOfC qual (defScope st) s.heap.objs.size f cdv)) -> sp vs H Q E ->
   ∃ t, PSs (cxOf CX0 P w K mg base N qual (defScope st) f cdv A outer s H E).nox (defBody st) t /\ t { nx := fun _ H' => Q .non H', rt := Q } (start N vs) H) : FnOk P w K mg base CX0 (k + 1) f fd ps sp := by
 obtain ⟨oc, od, kV, doc, pm, an, cdv, ct, osl, rfl, lk, hcd⟩ := F.ex
 refine fn_of lk hcd S len fun A outer s H vs Q E hr hsp => ?_
 obtain ⟨t, h, q⟩ := hbody cdv A outer s H vs Q E hr hsp
 exact ⟨t, h.nox, q⟩
theorem FunD.binds {x qual : Str} {st : Stmt} {f T : Addr} {fd : FuncData} {ps : List Str} {items : Array Value} {ds : List Value} {n : Nat} {oc : Value} {od : Option Addr} {osl : Array (Option Value)} (F : FunD K x qual st (.ref T) f fd) (lT : K.lookup T = some ⟨oc, od, .seq items n, osl⟩)
  (h : ∀ (kV doc pm : Value) (an : Option Addr) (cdv ct : Value) (us : List Value), (us ++ ds).length = ps.length -> ∃ k : Option (Array Value) -> Sem (List (Str × Value)), (bindArgs (PySem.W.fnOf x qual (defArgs st) (defBody st) (defScope st) (.ref T) kV doc pm an cdv ct) ⟨us, []⟩ = seqItems? (.ref T) >>= k) /\ k (some items) = pure (ps.zip (us ++ ds))) : Binds K fd ps ds := by
 obtain ⟨oc', od', kV, doc, pm, an, cdv, ct, osl', rfl, lk, hcd⟩ := F.ex
 intro s us KX hl
 obtain ⟨k, h1, h2⟩ := h kV doc pm an cdv ct us hl
 exact .of_defaults (T := T) rfl (KX _ _ lT) rfl h1 h2
theorem funD_mk {x qual : Str} {st : Stmt} {f : Addr} {dv oc : Value} {od an : Option Addr} {osl : Array (Option Value)} {kV doc pm cdv ct : Value} (l : K.lookup f = some ⟨oc, od, .func (PySem.W.fnOf x qual (defArgs st) (defBody st) (defScope st) dv kV doc pm an cdv ct), osl⟩)
  (c : PySem.W.codeIn K cdv qual = true) (k : PySem.W.keepIn K (.ref f) = true) : FunD K x qual st dv f (PySem.W.fnOf x qual (defArgs st) (defBody st) (defScope st) dv kV doc pm an cdv ct) := ⟨⟨oc, od, kV, doc, pm, an, cdv, ct, osl, rfl, l, c⟩, k⟩
end
end L2
namespace L2
open PySem
def wishFrom (k : Nat) : List (List Str) -> Str -> Option (Nat × Str)
 | [], _ => none
 | [] :: rest, n => wishFrom (k + 1) rest n
 | (x :: r) :: rest, n => if n ∈ x :: r /\ x ≠ n then some (k, x) else wishFrom (k + 1) rest n
theorem wishFrom_miss {k : Nat} {r : List Str} {rest : List (List Str)} {n : Str} (h : ¬ (n ∈ r /\ r.head? ≠ some n)) : wishFrom k (r :: rest) n = wishFrom (k + 1) rest n := by
 cases r with
 | nil => rfl
 | cons x r => exact if_neg fun z => h ⟨z.1, by simpa using z.2⟩
theorem wishFrom_hit {k : Nat} {x : Str} {r : List Str} {rest : List (List Str)} {n : Str} (h : n ∈ x :: r /\ x ≠ n) : wishFrom k ((x :: r) :: rest) n = some (k, x) := by
 exact if_pos h
def freeFrom (all : List (List Str)) : List (List Str) -> Option Str
 | [] => none
 | [] :: rest => freeFrom all rest
 | (x :: _) :: rest => if (wishFrom 0 all x).isNone then some x else freeFrom all rest
def leastFree (rest : List (List Str)) : Option Str := freeFrom rest rest
def without (n : Str) (rest : List (List Str)) : List (List Str) := rest.map fun r => r.filter fun y => !decide (y = n)
def total (rest : List (List Str)) : Nat := (rest.map List.length).sum
def mergeG : Nat -> List (List Str) -> Option (List Str)
 | 0, _ => some []
 | k + 1, rest => if (rest.any fun r => !r.isEmpty) = true then (match leastFree rest with | none => none | some n => (mergeG k (without n rest)).map (n :: ·)) else some []
theorem freeFrom_head {all : List (List Str)} {n : Str} : ∀ {rest : List (List Str)}, freeFrom all rest = some n -> ∃ r ∈ rest, r.head? = some n
 | [], h => by cases h
 | [] :: rest, h => let ⟨r, hr, e⟩ := freeFrom_head (rest := rest) h; ⟨r, List.mem_cons_of_mem _ hr, e⟩
 | (x :: t) :: rest, h => by
  have h : (if (wishFrom 0 all x).isNone then some x else freeFrom all rest) = some n := h
  split at h
  ·cases h; exact ⟨n :: t, List.mem_cons_self, rfl⟩
  ·obtain ⟨r, hr, e⟩ := freeFrom_head (rest := rest) h
   exact ⟨r, List.mem_cons_of_mem _ hr, e⟩
theorem total_without_le (n : Str) : ∀ rest : List (List Str), total (without n rest) <= total rest
 | [] => Nat.le_refl _
 | r :: rest => by
  have h1 := total_without_le n rest
  have h2 := List.length_filter_le (fun y => !decide (y = n)) r
  simp only [total, without, List.map_cons, List.sum_cons] at *
  omega
theorem total_without_lt {n : Str} : ∀ {rest : List (List Str)}, (∃ r ∈ rest, n ∈ r) -> total (without n rest) < total rest
 | [], ⟨_, h, _⟩ => by simp at h
 | r :: rest, ⟨q, hq, hn⟩ => by
  have h1 := total_without_le n rest
  have h2 := List.length_filter_le (fun y => !decide (y = n)) r
  rcases List.mem_cons.mp hq with rfl | hq
  ·have h3 : (q.filter fun y => !decide (y = n)).length < q.length := by
    exact List.length_filter_lt_length_iff_exists.mpr ⟨n, hn, by simp⟩
   simp only [total, without, List.map_cons, List.sum_cons] at *
   omega
  ·have h3 := total_without_lt ⟨q, hq, hn⟩
   simp only [total, without, List.map_cons, List.sum_cons] at *
   omega
theorem le_total {r : List Str} : ∀ {rest : List (List Str)}, r ∈ rest -> r.length <= total rest
 | [], h => by simp at h
 | q :: rest, h => by
  have e : total (q :: rest) = q.length + total rest := by simp [total]
  rcases List.mem_cons.mp h with rfl | h
  ·omega
  ·have := le_total h
   omega
theorem total_pos {rest : List (List Str)} (h : (rest.any fun r => !r.isEmpty) = true) : 0 < total rest := by
 obtain ⟨r, hr, e⟩ := List.any_eq_true.mp h
 have h1 : 0 < r.length := by cases r with
  | nil => simp at e
  | cons _ _ => simp
 have h2 : r.length <= total rest := le_total hr
 omega
def RowsV (H : Hp) (vs : List V) (rows : List (List Str)) : Prop := Paired (fun y r => ∃ a, y = V.ref a /\ H a = some (.tup (r.map V.str))) vs rows
theorem RowsV.same {H H' : Hp} {vs : List V} {rows : List (List Str)} (h : RowsV H vs rows) (s : Same H H') : RowsV H' vs rows := Paired.imp' (fun _ _ ⟨a, e, q⟩ => ⟨a, e, s _ _ q⟩) h
theorem RowsV.length {H : Hp} {vs : List V} {rows : List (List Str)} (h : RowsV H vs rows) : vs.length = rows.length := Paired.length h
theorem RowsV.get {H : Hp} : ∀ {vs : List V} {rows : List (List Str)} {i : Nat} {v : V}, RowsV H vs rows -> vs[i]? = some v -> ∃ a r, v = V.ref a /\ rows[i]? = some r /\ H a = some (.tup (r.map V.str))
 | _, _, i, v, .nil, e => by simp at e
 | _, _, 0, v, .cons p _, e => by
  obtain ⟨a, rfl, q⟩ := p
  simp at e; subst e
  exact ⟨a, _, rfl, rfl, q⟩
 | _, _, i + 1, v, .cons _ t, e => by
  obtain ⟨a, r, e1, e2, q⟩ := RowsV.get (i := i) t (by simpa using e)
  exact ⟨a, r, e1, by simpa using e2, q⟩
theorem RowsV.append {H : Hp} {vs : List V} {rows : List (List Str)} {a : Addr} {r : List Str} : RowsV H vs rows -> H a = some (.tup (r.map V.str)) -> RowsV H (vs ++ [.ref a]) (rows ++ [r])
 | .nil, q => .cons ⟨a, rfl, q⟩ .nil
 | .cons p t, q => .cons p (RowsV.append t q)
end L2
namespace K35
open PySem L2 PySem.W
def top (i : Nat) : Stmt := PySem.Challenge.pw_parentlines_k35_whole_found_behind_one_a.main.body.getD i (.Pass ⟨0, 0, 0, 0⟩)
abbrev sIsName : Stmt := top 8
abbrev sCheckN : Stmt := top 9
abbrev sMerged : Stmt := top 11
abbrev sLeast : Stmt := top 12
abbrev sWish : Stmt := top 13
abbrev sIsKind : Stmt := top 16
abbrev sCheckK : Stmt := top 17
abbrev sLines : Stmt := top 18
abbrev sLineFrom : Stmt := top 19
abbrev sPot : Stmt := top 28
abbrev sDigit : Stmt := top 29
abbrev sNames : Stmt := top 30
abbrev sLMerged : Stmt := top 31
abbrev sLLine : Stmt := top 32
abbrev sLParents : Stmt := top 33
abbrev sLFamily : Stmt := top 34
abbrev sFamTup : Stmt := top 35
abbrev sNumber : Stmt := top 36
abbrev sStep : Stmt := top 37
abbrev sEntry : Stmt := top 38
abbrev sBookTup : Stmt := top 40
abbrev sLaw : Stmt := top 44
abbrev sFoundAt : Stmt := top 21
abbrev sFindsIn : Stmt := top 22
abbrev sIsBehind : Stmt := top 23
abbrev sCheckB : Stmt := top 24
abbrev sByPlace : Stmt := top 25
abbrev sFinds : Stmt := top 26
abbrev sBook : Stmt := top 39
abbrev sDue : Stmt := top 42
abbrev sGone : Stmt := top 41
abbrev sHolds : Stmt := top 43
abbrev sInit : Stmt := inClass sFinds 0
abbrev sLook : Stmt := inClass sFinds 1
abbrev sWalk : Stmt := inClass sFinds 2
structure Blt (mg : Str -> Option Value) : Prop where
 len : mg "len" = none
 max : mg "max" = none
 min : mg "min" = none
 abs : mg "abs" = none
 range : mg "range" = none
 any : mg "any" = none
 all : mg "all" = none
 list : mg "list" = none
 tuple : mg "tuple" = none
 enu : mg "enumerate" = none
theorem at0 {y : Str} {r : List Str} : atI ((y :: r).map V.str) 0 = some (V.str y) := (show atI ((y :: r).map V.str) ((0 : Nat) : Int) = some (V.str y) from atI_nat rfl)
theorem same_new {H : Hp} {q : Addr} {o : HO} (hq : H q = none) : Same H (upd H q o) := fun b u e => by rw [upd_ne (ne_of_none e hq)]; exact e
theorem for_enum {K : Frag} {a : Addr} {xs : List V} {g : TG} {tb : TS} {D : Ends} {σ : St} {H : Hp} (Pv : Nat -> St -> Hp -> Prop) (h0 : Pv 0 σ H) (hl : ∀ i σ H, i <= xs.length -> Pv i σ H -> SqL K H a xs)
  (hs : ∀ i x σ H t, xs[i]? = some x -> Pv i σ H -> H t = none -> g (.ref t) σ (upd H t (.tup [.int i, x])) fun σ2 H2 => tb { D with nx := Pv (i + 1), ct := Pv (i + 1), bk := D.nx } σ2 H2) (hd : ∀ σ H, Pv xs.length σ H -> D.nx σ H) :
  ∃ W : Nat -> Nat -> St -> Hp -> Prop, (∃ m, W 0 m σ H) /\ ∀ i m σ H, W i m σ H ->
   ((Ite K a).stop i H /\ D.nx σ H) \/ ((Ite K a).go i H /\ ∃ N : St -> Hp -> Prop, (∀ σ' H', N σ' H' -> ∃ m', m' < m /\ W (i + 1) m' σ' H') /\ ∀ x H', (Ite K a).yld i H x H' -> g x σ H' fun σ2 H2 => tb { D with nx := N, ct := N, bk := D.nx } σ2 H2) := by
 refine ⟨fun i m σ H => m = xs.length - i /\ i <= xs.length /\ Pv i σ H, ⟨xs.length, by simp, Nat.zero_le _, h0⟩, ?_⟩
 rintro i m σ H ⟨rfl, hi, p⟩
 have q := hl i σ H hi p
 by_cases hlt : i < xs.length
 ·refine .inr ⟨⟨xs, xs[i], q, by simp [hlt]⟩, Pv (i + 1), fun σ' H' p' => ⟨xs.length - (i + 1), by omega, rfl, hlt, p'⟩, fun x H' y => ?_⟩
  obtain ⟨t, v, ht, rfl, hv, rfl⟩ := y
  exact hs i v σ _ t (hv xs q) p ht
 ·have e : i = xs.length := by omega
  subst e
  exact .inl ⟨⟨xs, q, Nat.le_refl _⟩, hd σ H p⟩
section
variable {P : Program} {w : World} {K : Frag} {mg : Str -> Option Value} {base : Heap} {f : Addr} {fd : FuncData}
@[irreducible] def spWish : Sp := fun vs H Q _ => ∃ (l : Addr) (ws : List V) (rows : List (List Str)) (n : Str), vs = [.ref l, .str n] /\ H l = some (.lst ws) /\ RowsV H ws rows /\
 (wishFrom 0 rows n = none -> ∀ H', Same H H' -> Q .non H') /\ (∀ i x, wishFrom 0 rows n = some (i, x) -> ∀ p H', H p = none -> Same H H' -> H' p = some (.tup [.int i, .str x, .str n]) -> Q (.ref p) H')
theorem scWish : FnScope ["rest", "name", "at", "row"] ["rest", "name"] (defScope sWish) := ⟨rfl, rfl, rfl, by decide +kernel, rfl, by decide +kernel, by decide +kernel⟩
theorem ok_wish (F : Fun K "wish_against" "wish_against" sWish f fd) (B : Blt mg) : FnOk P w K mg base CX0 1 f fd ["rest", "name"] spWish := by
 refine F.ok scWish (fun vs H Q E h => ?_) (fun cdv A outer s H vs Q E hr h => ?_)
 ·unfold spWish at h; obtain ⟨l, ws, rows, n, rfl, _⟩ := h; rfl
 ·unfold spWish at h
  obtain ⟨l, ws, rows, n, rfl, hl, hR, qn, qs⟩ := h
  refine ⟨_, pss_cons (ps_for PassesOwn.never rfl (pi_enum rfl B.enu (pa_cons (pv 0) pa_nil)) (pg_tup rfl (pgs_cons (pg_name (i := 2) scWish.nd rfl (Or.inl rfl)) (pgs_cons (pg_name (i := 3) scWish.nd rfl (Or.inl rfl)) pgs_nil)))
    (pss_one (ps_if (PW.pt (pw_and (pt_cmpR op_in_seq (pv 1) (pv 3) rfl) (pw_and1 (pt_cmpR op_ne (pe_ix ix_tup (pv 3) pe_int (fun _ _ => rfl)) (pv 1) (nomark _)))))
     (pss_one (ps_ret (pe_tup (pa_cons (pv 2) (pa_cons (pe_ix ix_tup (pv 3) pe_int (fun _ _ => rfl)) (pa_cons (pv 1) pa_nil)))))) pss_nil)))
   (pss_one (ps_ret pe_non)), ?_⟩
  refine ⟨_, rfl, l, rfl, ⟨_, SqL.of hl⟩, for_enum (xs := ws) (fun i σ H1 => ∃ v2 v3 : Option V, σ = [some (.ref l), some (.str n), v2, v3] /\ Same H H1 /\ wishFrom i (rows.drop i) n = wishFrom 0 rows n) ⟨none, none, rfl, Same.refl _, by simp⟩ (fun i σ H1 _ ⟨_, _, _, z, _⟩ => SqL.of (z _ _ hl)) ?_ ?_⟩
  ·rintro i x σ H1 t hx ⟨v2, v3, rfl, S1, hw⟩ ht
   obtain ⟨a, r, rfl, hri, har⟩ := hR.get hx
   have S2 : Same H (upd H1 t (.tup [.int i, .ref a])) := S1.trans (same_new ht)
   have ha2 := S2 _ _ har
   have hdr : rows.drop i = r :: rows.drop (i + 1) := by
    have hi := (List.getElem?_eq_some_iff.mp hri)
    obtain ⟨hi1, rfl⟩ := hi
    exact List.drop_eq_getElem_cons hi1
   rw [hdr] at hw
   refine ⟨t, _, rfl, SqT.of upd_same, rfl, _, _, rfl, _, _, rfl, rfl, ?_⟩
   refine ⟨_, rfl, _, rfl, a, _, rfl, .inr (SqT.of ha2), rfl, flat_strs _, _, rfl, ?_⟩
   rw [if_neg Bool.false_ne_true, inV_strs]
   refine ite2 (fun hin => ?_) (fun hin => ?_)
   ·have hin' : n ∈ r := by simpa using hin
    cases r with
    | nil => simp at hin'
    | cons y r =>
     refine ⟨_, rfl, a, _, 0, .str y, rfl, rfl, SqT.of ha2, at0, _, rfl, rfl, _, rfl, ?_⟩
     refine ite2 (fun hne => ?_) (fun hne => ?_)
     ·have hne' : y ≠ n := fun z => by subst z; simp at hne
      refine ⟨_, rfl, _, rfl, a, _, 0, .str y, rfl, rfl, SqT.of ha2, at0, _, rfl, by show 3 <= sizeLine; rw [sizeLine_eq]; decide, fun p hp => ?_⟩
      rw [wishFrom_hit ⟨hin', hne'⟩] at hw
      exact qs i y hw.symm p _ (S2.free hp) (S2.trans (same_new hp)) upd_same
     ·have hy : y = n := by
       by_cases z : y = n
       ·exact z
       ·exact absurd (by simp [z]) hne
      refine ⟨_, _, rfl, S2, ?_⟩
      rw [<- hw, wishFrom_miss fun z => z.2 (by rw [hy]; rfl)]
   ·refine ⟨_, _, rfl, S2, ?_⟩
    rw [<- hw, wishFrom_miss fun z => hin (by simpa using z.1)]
  ·rintro σ H1 ⟨v2, v3, rfl, S1, hw⟩
   rw [hR.length, List.drop_length] at hw
   exact qn hw.symm H1 S1
theorem wish_sp {l : Addr} {ws : List V} {rows : List (List Str)} {n : Str} {H : Hp} {Q : VK} {E : XK} (hl : H l = some (.lst ws)) (hR : RowsV H ws rows) (qn : wishFrom 0 rows n = none -> ∀ H', Same H H' -> Q .non H')
  (qs : ∀ i x, wishFrom 0 rows n = some (i, x) -> ∀ p H', H p = none -> Same H H' -> H' p = some (.tup [.int i, .str x, .str n]) -> Q (.ref p) H') : spWish [.ref l, .str n] H Q E := by
 unfold spWish; exact ⟨l, ws, rows, n, rfl, hl, hR, qn, qs⟩
end
end K35
namespace K35
open PySem L2 PySem.W
section
variable {P : Program} {w : World} {K : Frag} {mg : Str -> Option Value} {base : Heap} {f : Addr} {fd : FuncData}
def optV : Option Str -> V
 | none => .non
 | some n => .str n
@[irreducible] def spLeast : Sp := fun vs H Q _ => ∃ (l : Addr) (ws : List V) (rows : List (List Str)), vs = [.ref l] /\ H l = some (.lst ws) /\ RowsV H ws rows /\ ∀ H', Same H H' -> Q (optV (leastFree rows)) H'
theorem scLeast : FnScope ["rest", "row"] ["rest"] (defScope sLeast) := ⟨rfl, rfl, rfl, by decide +kernel, rfl, by decide +kernel, by decide +kernel⟩
theorem ok_least {fW : Addr} {fdW : FuncData} (F : Fun K "least_free" "least_free" sLeast f fd) (B : Blt mg) (FW : Fun K "wish_against" "wish_against" sWish fW fdW) (bW : Binds K fdW ["rest", "name"] []) (mW : mg "wish_against" = some (.ref fW)) :
  FnOk P w K mg base CX0 2 f fd ["rest"] spLeast := by
 have GW : FnOk P w K mg base CX0 1 fW fdW ["rest", "name"] spWish := ok_wish FW B
 refine F.ok scLeast (fun vs H Q E h => ?_) (fun cdv A outer s H vs Q E hr h => ?_)
 ·unfold spLeast at h; obtain ⟨l, ws, rows, rfl, _⟩ := h; rfl
 ·unfold spLeast at h
  obtain ⟨l, ws, rows, rfl, hl, hR, q⟩ := h
  have hr1 : Room 1 _ := hr
  refine ⟨_, pss_cons (ps_for PassesOwn.never rfl (pi_list (pv 0)) (pg_name (i := 1) scLeast.nd rfl (Or.inl rfl))
    (pss_one (ps_if (PW.pt (pw_and (pt_truth (pv 1) (fun _ => rfl)) (pw_and1 (pt_cmpR op_isN (pe_call GW hr1 rfl mW FW.kp bW .nil pass0 (pa_cons (pv 0) (pa_cons (pe_ix ix_tup (pv 1) pe_int (fun _ _ => rfl)) pa_nil))) pe_non (nomark _)))))
     (pss_one (ps_ret (pe_ix ix_tup (pv 1) pe_int (fun _ _ => rfl)))) pss_nil)))
   (pss_one (ps_ret pe_non)), ?_⟩
  refine ⟨_, rfl, l, rfl, ⟨_, SqL.of hl⟩, for_list (xs := ws) (fun i σ H1 => ∃ v1 : Option V, σ = [some (.ref l), v1] /\ Same H H1 /\ freeFrom rows (rows.drop i) = leastFree rows) ⟨none, rfl, Same.refl _, by simp [leastFree]⟩ (fun i σ H1 _ ⟨_, _, z, _⟩ => SqL.of (z _ _ hl)) ?_ ?_⟩
  ·rintro i x σ H1 hx ⟨v1, rfl, S1, hw⟩
   obtain ⟨a, r, rfl, hri, har⟩ := hR.get hx
   have ha1 := S1 _ _ har
   have hdr : rows.drop i = r :: rows.drop (i + 1) := by
    obtain ⟨hi1, rfl⟩ := List.getElem?_eq_some_iff.mp hri
    exact List.drop_eq_getElem_cons hi1
   rw [hdr] at hw
   refine ⟨_, rfl, !(r.map V.str).isEmpty, .inr (.inl ⟨_, SqT.of ha1, rfl⟩), ?_⟩
   cases r with
   | nil => exact ⟨_, rfl, S1, hw⟩
   | cons y r =>
    have hw : (if (wishFrom 0 rows y).isNone then some y else freeFrom rows (rows.drop (i + 1))) = leastFree rows := hw
    refine ⟨_, rfl, _, rfl, a, _, 0, .str y, rfl, rfl, SqT.of ha1, at0, ?_⟩
    refine wish_sp (S1 _ _ hl) (hR.same S1) (fun en H2 S2 => ?_) (fun j z es p H2 hp S2 h2 => ?_)
    ·refine ⟨rfl, _, rfl, ?_⟩
     refine ⟨_, rfl, a, _, 0, .str y, rfl, rfl, SqT.of (S2 _ _ ha1), at0, ?_⟩
     rw [en] at hw
     have e : leastFree rows = some y := hw.symm
     have := q H2 (S1.trans S2)
     rw [e] at this
     exact this
    ·refine ⟨rfl, _, rfl, ?_⟩
     rw [es] at hw
     exact ⟨_, rfl, S1.trans S2, hw⟩
  ·rintro σ H1 ⟨v1, rfl, S1, hw⟩
   rw [hR.length, List.drop_length] at hw
   have e : leastFree rows = none := hw.symm
   have := q H1 S1
   rw [e] at this
   exact this
theorem least_sp {l : Addr} {ws : List V} {rows : List (List Str)} {H : Hp} {Q : VK} {E : XK} (hl : H l = some (.lst ws)) (hR : RowsV H ws rows) (q : ∀ H', Same H H' -> Q (optV (leastFree rows)) H') : spLeast [.ref l] H Q E := by
 unfold spLeast; exact ⟨l, ws, rows, rfl, hl, hR, q⟩
end
end K35
namespace K35
open PySem L2 PySem.W
end K35
namespace K35
open PySem L2 PySem.W
def forBody (s : Stmt) : List Stmt := match s with | .For _ _ b _ _ => b | _ => []
def whileBody (s : Stmt) : List Stmt := match s with | .While _ b _ _ => b | _ => []
def bodyAt (l : List Stmt) (i : Nat) : Stmt := l.getD i (.Pass ⟨0, 0, 0, 0⟩)
def asgV (s : Stmt) : Expr := match s with | .Assign _ v _ => v | _ => .Constant .none 0 ⟨0, 0, 0, 0⟩
def retV (s : Stmt) : Expr := match s with | .Return (some v) _ => v | _ => .Constant .none 0 ⟨0, 0, 0, 0⟩
def arg0 (e : Expr) : Expr := match e with | .Call _ (a :: _) _ _ => a | _ => .Constant .none 0 ⟨0, 0, 0, 0⟩
def subV (e : Expr) : Expr := match e with | .Subscript a _ _ => a | _ => .Constant .none 0 ⟨0, 0, 0, 0⟩
def eltOf (e : Expr) : Expr := match e with | .ListComp x _ _ _ => x | _ => .Constant .none 0 ⟨0, 0, 0, 0⟩
def compSc (e : Expr) : Scope := match e with | .ListComp _ _ sc _ => sc | _ => { kind := .function, names := [], isGenerator := false, isCoroutine := false }
theorem boot_tuple : bootBuiltins "tuple" = some (.type "tuple") := by decide +kernel
theorem boot_list : bootBuiltins "list" = some (.type "list") := by decide +kernel
section
variable {P : Program} {w : World} {K : Frag} {mg : Str -> Option Value} {base : Heap} {f : Addr} {fd : FuncData}
structure Small (rows : List (List Str)) : Prop where
 few : rows.length <= 10
 short : ∀ r ∈ rows, r.length <= 20
 nm : ∀ r ∈ rows, ∀ n ∈ r, Nm n
theorem few_of {ps hs : List Str} (nd : ps.Nodup) (h : ∀ n ∈ ps, n ∈ hs) : ps.length <= hs.length := by
 by_cases z : ps.length <= hs.length
 ·exact z
 ·obtain ⟨y, hy, hn⟩ := pigeon (found := hs) nd (by omega)
  exact absurd (h y hy) hn
end
end K35
namespace K35
open PySem L2 PySem.W
theorem total_zero {rest : List (List Str)} (h : total rest = 0) : (rest.any fun r => !r.isEmpty) = false := by
 cases e : rest.any fun r => !r.isEmpty with
 | false => rfl
 | true => have := total_pos e; omega
theorem least_mem {rest : List (List Str)} {n : Str} (h : leastFree rest = some n) : ∃ r ∈ rest, n ∈ r := by
 obtain ⟨r, hr, e⟩ := freeFrom_head h
 exact ⟨r, hr, List.mem_of_head? e⟩
theorem merge_fuel : ∀ (k : Nat) (r : List (List Str)), total r <= k -> ∀ j, total r <= j -> mergeG k r = mergeG j r
 | 0, r, h, j, _ => by
  have z := total_zero (show total r = 0 by omega)
  cases j with
  | zero => rfl
  | succ j => unfold mergeG; rw [if_neg (by rw [z]; exact Bool.false_ne_true)]
 | k + 1, r, h, 0, hj => by
  have z := total_zero (show total r = 0 by omega)
  unfold mergeG; rw [if_neg (by rw [z]; exact Bool.false_ne_true)]
 | k + 1, r, h, j + 1, hj => by
  unfold mergeG
  split
  ·cases e : leastFree r with
   | none => rfl
   | some n =>
    have := total_without_lt (least_mem e)
    show Option.map _ _ = Option.map _ _
    rw [merge_fuel k (without n r) (by omega) j (by omega)]
  ·rfl
theorem merge_stop {r : List (List Str)} (h : (r.any fun r => !r.isEmpty) = false) : mergeG (total r) r = some [] := by
 cases total r with
 | zero => rfl
 | succ k => unfold mergeG; rw [if_neg (by rw [h]; exact Bool.false_ne_true)]
theorem merge_none {r : List (List Str)} (h : (r.any fun r => !r.isEmpty) = true) (e : leastFree r = none) : mergeG (total r) r = none := by
 have := total_pos h
 cases q : total r with
 | zero => omega
 | succ k => unfold mergeG; rw [if_pos h, e]
theorem merge_some {r : List (List Str)} {n : Str} (h : (r.any fun r => !r.isEmpty) = true) (e : leastFree r = some n) : mergeG (total r) r = (mergeG (total (without n r)) (without n r)).map (n :: ·) := by
 have := total_without_lt (least_mem e)
 cases q : total r with
 | zero => omega
 | succ k =>
  show (if (r.any fun r => !r.isEmpty) = true then _ else _) = _
  rw [if_pos h, e]
  show Option.map _ _ = _
  rw [merge_fuel k (without n r) (by omega) _ (Nat.le_refl _)]
theorem relabel_cell {env : Env} : ∀ {names : List (Str × NameKind)} {x : Str}, names.lookup x = some .cell ->
  (names.map fun (n, k) => if (k == NameKind.free && env.scope.kind == .function && env.kindOf n == some .cell) then (n, NameKind.cell) else (n, k)).lookup x = some .cell
 | [], _, h => by simp at h
 | (n, k0) :: r, x, h => by
  have ih := @relabel_cell env r x
  show List.lookup x ((if (k0 == NameKind.free && env.scope.kind == .function && env.kindOf n == some .cell) = true then (n, NameKind.cell) else (n, k0)) :: _) = _
  rw [List.lookup_cons] at h
  cases hx : x == n with
  | true =>
   rw [hx] at h
   cases h
   rw [if_neg (by simp), List.lookup_cons, hx]
  | false =>
   rw [hx] at h
   by_cases hc : (k0 == NameKind.free && env.scope.kind == .function && env.kindOf n == some .cell) = true
   ·rw [if_pos hc, List.lookup_cons, hx]; exact ih h
   ·rw [if_neg hc, List.lookup_cons, hx]; exact ih h
theorem nest {N N' : List Str} {ixs : List (Option Nat)} {scO sc : Scope} {env : Env} (kind : sc.kind = .function) (keys : (sc.names.map (·.1)).Nodup) (nd : N'.Nodup) (len : ixs.length = N'.length) (fv : fvOk N N' ixs sc = true)
  (free : ∀ p ∈ sc.names, p.2 = .free -> scO.names.lookup p.1 = some .cell \/ scO.names.lookup p.1 = some .free) : CompScope N (relabel scO env) N' ixs sc :=
 ⟨kind, keys, nd, len, fv_of fv, fun p hp e => by
  rcases free p hp e with z | z
  ·exact .inl (relabel_cell z)
  ·exact lookup_relabel_of z⟩
theorem call_tuple_K {X : Cx} (K : Frag) (h : X.K = K) : CallR X (.type "tuple") (fun xs H Q => ∃ p ys, xs = [.ref p] /\ ((SqL K H p ys /\ ∀ l, H l = none -> Q (.ref l) (upd H l (.tup ys))) \/ (SqT K H p ys /\ Q (.ref p) H))) := by subst h; exact call_tuple_of
theorem boot_any : bootBuiltins "any" = some (.builtin "any") := by decide +kernel
end K35
namespace K35
open PySem L2 PySem.W
abbrev nMerged : List Str := ["rows", "order", "rest", "name"]
theorem scMerged : FnScope nMerged ["rows"] (defScope sMerged) := ⟨rfl, rfl, rfl, by decide +kernel, rfl, by decide +kernel, by decide +kernel⟩
abbrev eOut : Expr := asgV (bodyAt (whileBody (bodyAt (defBody sMerged) 2)) 3)
abbrev scO : Scope := compSc eOut
abbrev scI : Scope := compSc (arg0 (eltOf eOut))
theorem csO : CompScope nMerged (defScope sMerged) ["row", "name"] [none, some 3] scO := ⟨rfl, by decide +kernel, by decide +kernel, rfl, fv_of (by decide +kernel), by decide +kernel⟩
theorem csI {env : Env} : CompScope ["row", "name"] (relabel scO env) ["other", "name"] [none, some 1] scI := nest rfl (by decide +kernel) (by decide +kernel) rfl (by decide +kernel) (by decide +kernel)
theorem ndI : (["other", "name"] : List Str).Nodup := by decide +kernel
theorem rows_keep {H H' : Hp} {vs : List V} {rows : List (List Str)} (h : RowsV H vs rows) (s : ∀ b xs, H b = some (.tup xs) -> H' b = some (.tup xs)) : RowsV H' vs rows := Paired.imp' (fun _ _ ⟨a, e, q⟩ => ⟨a, e, s _ _ q⟩) h
theorem without_small {rest : List (List Str)} {n : Str} (S : Small rest) : Small (without n rest) := by
 refine ⟨by unfold L2.without; rw [List.length_map]; exact S.few, fun r hr => ?_, fun r hr y hy => ?_⟩
 ·obtain ⟨q, hq, rfl⟩ := List.mem_map.mp hr
  exact Nat.le_trans (List.length_filter_le _ _) (S.short q hq)
 ·obtain ⟨q, hq, rfl⟩ := List.mem_map.mp hr
  exact S.nm q hq y (List.mem_filter.mp hy).1
structure MInv (H : Hp) (rows : List (List Str)) (t oa : Addr) (m : Nat) (σ : St) (H1 : Hp) (rest : List (List Str)) (ws : List V) (acc : List Str) (rl : Addr) : Prop where
 st : ∃ v3 : Option V, σ = [some (.ref t), some (.ref oa), some (.ref rl), v3]
 mm : m = total rest
 hoa : H1 oa = some (.lst (acc.map V.str))
 hrl : H1 rl = some (.lst ws)
 rr : RowsV H1 ws rest
 sm : Small rest
 ne : rl ≠ oa
 same : Same H H1
 lim : acc.length + total rest <= 1000
 eq : mergeG (total rows) rows = (mergeG (total rest) rest).map (acc ++ ·)
theorem small_total : ∀ {rows : List (List Str)}, (∀ r ∈ rows, r.length <= 20) -> total rows <= 20 * rows.length
 | [], _ => Nat.zero_le _
 | r :: rows, h => by
  have h1 := small_total fun q hq => h q (List.mem_cons_of_mem _ hq)
  have h2 := h r List.mem_cons_self
  have e : total (r :: rows) = r.length + total rows := by simp [total]
  rw [e, List.length_cons]; omega
theorem pairs_of {K : Frag} {H : Hp} {ws : List V} {rows : List (List Str)} (h : RowsV H ws rows) : Paired (fun y r => ∃ a, y = V.ref a /\ SqT K H a r) ws (rows.map fun r => r.map V.str) := by
 induction h with
 | nil => exact .nil
 | cons p _ ih => obtain ⟨a, e, q⟩ := p; exact .cons ⟨a, e, SqT.of q⟩ ih
theorem any_map (rows : List (List Str)) : ((rows.map fun r => r.map V.str).any fun r => !r.isEmpty) = rows.any fun r => !r.isEmpty := by
 rw [List.any_map]; congr 1; funext r; cases r <;> rfl
section
variable {P : Program} {w : World} {K : Frag} {mg : Str -> Option Value} {base : Heap} {f : Addr} {fd : FuncData}
@[irreducible] def spMerged : Sp := fun vs H Q _ => ∃ (t : Addr) (ws : List V) (rows : List (List Str)) (o : List Str), vs = [.ref t] /\ H t = some (.tup ws) /\ RowsV H ws rows /\ Small rows /\ mergeG (total rows) rows = some o /\
 ∀ p H', H p = none -> Same H H' -> H' p = some (.tup (o.map V.str)) -> Q (.ref p) H'
theorem merged_sp {t : Addr} {ws : List V} {rows : List (List Str)} {o : List Str} {H : Hp} {Q : VK} {E : XK} (ht : H t = some (.tup ws)) (hR : RowsV H ws rows) (hS : Small rows) (hm : mergeG (total rows) rows = some o)
  (q : ∀ p H', H p = none -> Same H H' -> H' p = some (.tup (o.map V.str)) -> Q (.ref p) H') : spMerged [.ref t] H Q E := by
 unfold spMerged; exact ⟨t, ws, rows, o, rfl, ht, hR, hS, hm, q⟩
theorem ok_merged {fL fW : Addr} {fdL fdW : FuncData} (F : Fun K "merged" "merged" sMerged f fd) (Bl : Blt mg)
  (FW : Fun K "wish_against" "wish_against" sWish fW fdW) (bW : Binds K fdW ["rest", "name"] []) (mW : mg "wish_against" = some (.ref fW))
  (FL : Fun K "least_free" "least_free" sLeast fL fdL) (bL : Binds K fdL ["rest"] []) (mL : mg "least_free" = some (.ref fL)) :
  FnOk P w K mg base CX0 3 f fd ["rows"] spMerged := by
 have GL : FnOk P w K mg base CX0 2 fL fdL ["rest"] spLeast := ok_least FL Bl FW bW mW
 refine F.ok scMerged (fun vs H Q E h => ?_) (fun cdv A outer s H vs Q E hr h => ?_)
 ·unfold spMerged at h; obtain ⟨t, ws, rows, o, rfl, _⟩ := h; rfl
 ·unfold spMerged at h
  obtain ⟨t, ws, rows, o, rfl, ht, hR, hS, hm, qs⟩ := h
  have hr2 : Room 2 _ := hr
  refine ⟨_, pss_cons (ps_set (i := 1) scMerged.nd rfl (Or.inl rfl) (pe_lst pa_nil))
   (pss_cons (ps_set (i := 2) scMerged.nd rfl (Or.inl rfl) (pe_callTy call_list_of rfl Bl.list boot_list (pa_cons (pv 0) pa_nil)))
   (pss_cons (ps_while PassesOwn.never (pt_truth (pe_callB (call_anyT rfl) rfl Bl.any boot_any (pa_cons (pv 2) pa_nil)) (fun _ => rfl))
    (pss_cons (ps_set (i := 3) scMerged.nd rfl (Or.inr rfl) (pe_call GL hr2 rfl mL FL.kp bL .nil pass0 (pa_cons (pv 2) pa_nil)))
    (pss_cons (ps_if (pt_cmpR op_isN (pv 3) pe_non (nomark _)) (pss_one ps_never) pss_nil)
    (pss_cons (ps_expr (pe_bm PySem.F.plainAttrs_list PySem.F.slot_list_append PySem.F.type_list_append mt_append (pv 1) (pa_cons (pv 3) pa_nil)))
    (pss_one (ps_setComp (i := 2) rfl csO scMerged.nd rfl rfl (pi_list (pv 2)) (fun s H fp => ⟨pg_name (i := 0) csO.nd rfl (Or.inl rfl), pifs_nil,
     pe_callTy (call_tuple_K K rfl) rfl Bl.tuple boot_tuple (pa_cons (pe_comp rfl csI (pi_tup_K K rfl (pv 0)) (fun s H fp => ⟨pg_name (i := 0) ndI rfl (Or.inl rfl), pifs_one (pt_cmpR op_ne (pv 0) (pv 1) rfl), pv 0⟩)) pa_nil)⟩)))))))
   (pss_one (ps_ret (pe_callTy call_tuple_of rfl Bl.tuple boot_tuple (pa_cons (pv 1) pa_nil)))))), ?_⟩
  refine ⟨Nat.zero_le _, fun oa hoa => ⟨_, rfl, t, ws, rfl, .inr (SqT.of (by rw [upd_ne (ne_of_none ht hoa)]; exact ht)), fun rl hrl => ?_⟩⟩
  have hoa1 : (upd (upd H oa (.lst [])) rl (.lst ws)) oa = some (.lst []) := by rw [upd_ne (ne_of_none upd_same hrl)]; exact upd_same
  have S1 : Same H (upd (upd H oa (.lst [])) rl (.lst ws)) := (same_new hoa).trans (same_new hrl)
  refine ⟨fun m σ H1 => ∃ rest ws' acc rl, MInv H rows t oa m σ H1 rest ws' acc rl, ⟨_, rows, ws, [], rl, ⟨none, rfl⟩, rfl, hoa1, upd_same, hR.same S1, hS, Ne.symm (ne_of_none upd_same hrl), S1, by have := small_total hS.short; have := hS.few; simp only [List.length_nil]; omega, by cases mergeG (total rows) rows <;> rfl⟩, ?_⟩
  rintro m σ H1 ⟨rest, ws', acc, rl, R⟩
  obtain ⟨v3, rfl⟩ := R.st
  refine ⟨_, rfl, rl, ws', _, rfl, SqL.of R.hrl, pairs_of R.rr, _, rfl, ?_⟩
  rw [any_map]
  refine ite2 (fun hA => ?_) (fun hA => ?_)
  ·refine ⟨fun σ' H' => ∃ m', m' < m /\ ∃ rest ws' acc rl, MInv H rows t oa m' σ' H' rest ws' acc rl, fun _ _ z => z, ?_⟩
   refine ⟨_, rfl, least_sp R.hrl R.rr fun H2 S2 => ?_⟩
   have hpos := total_pos hA
   cases e : leastFree rest with
   | none =>
    refine ⟨_, rfl, rfl, _, rfl, ?_⟩
    rw [R.eq, merge_none hA e] at hm
    cases hm
   | some n =>
    refine ⟨_, rfl, rfl, _, rfl, ?_⟩
    have hoa2 : H2 oa = some (.lst (acc.map V.str)) := S2 _ _ R.hoa
    refine ⟨_, rfl, .inl ⟨rfl, _, SqL.of hoa2⟩, _, rfl, oa, _, _, rfl, rfl, hoa2, by have := R.lim; rw [List.length_map, sizeLine_eq]; omega, ?_⟩
    generalize hH3 : upd H2 oa (.lst (acc.map V.str ++ [optV (some n)])) = H3
    have S3 : Same H H3 := fun b o eb => by rw [<- hH3, upd_ne (ne_of_none eb hoa)]; exact S2 _ _ (R.same b o eb)
    have nro : rl ≠ oa := R.ne
    have hrl3 : H3 rl = some (.lst ws') := by rw [<- hH3, upd_ne nro]; exact S2 _ _ R.hrl
    have hR3 : RowsV H3 ws' rest := rows_keep R.rr fun b xs hb => by rw [<- hH3, upd_ne (ne_of (S2 _ _ hb) hoa2 (by intro z; cases z))]; exact S2 _ _ hb
    have hoa3 : H3 oa = some (.lst ((acc ++ [n]).map V.str)) := by rw [<- hH3, upd_same, List.map_append]; rfl
    refine ⟨_, rfl, rl, rfl, ⟨_, SqL.of hrl3⟩, fun a1 ha1 => ?_⟩
    have n1o : a1 ≠ oa := fun z => by rw [z, hoa3] at ha1; cases ha1
    refine comp_list (xs := ws') (fun i ys τ H4 => ∃ t0 : Option V, τ = [t0, some (.str n)] /\ H4 a1 = some (.lst ys) /\ Same H3 H4 /\ RowsV H4 ys (L2.without n (rest.take i))) ⟨none, rfl, upd_same, same_new ha1, .nil⟩ (fun i ys τ H4 ⟨_, _, h1, h2, _⟩ => ⟨h1, SqL.of (h2 _ _ hrl3)⟩) ?_ ?_
    ·rintro i x ys τ H4 hx ⟨t0, rfl, h41, S4, hR4⟩
     obtain ⟨a, r, rfl, hri, har⟩ := hR3.get hx
     have hlt : i < ws'.length := (List.getElem?_eq_some_iff.mp hx).1
     have tk : rest.take (i + 1) = rest.take i ++ [r] := by rw [List.take_succ, hri]; rfl
     refine ⟨_, rfl, a, rfl, ⟨_, SqT.of (S4 _ _ har)⟩, fun b1 hb1 => ?_⟩
     have hab : (upd H4 b1 (.lst [])) a = some (.tup (r.map V.str)) := by rw [upd_ne (ne_of_none (S4 _ _ har) hb1)]; exact S4 _ _ har
     have nab : a ≠ b1 := ne_of_none (S4 _ _ har) hb1
     refine comp_tup (xs := r.map V.str) (fun j zs τ' H5 => ∃ t1 : Option V, τ' = [t1, some (.str n)] /\ zs = ((r.take j).filter fun y => !decide (y = n)).map V.str /\ H5 = upd H4 b1 (.lst zs)) ⟨none, rfl, rfl, rfl⟩ (fun j zs τ' H5 ⟨_, _, _, z⟩ => by rw [z]; exact ⟨upd_same, SqT.of (by rw [upd_ne nab]; exact S4 _ _ har)⟩) ?_ ?_
     ·rintro j x zs τ' H5 hx' ⟨t1, rfl, rfl, rfl⟩
      have hjl : j < (r.map V.str).length := (List.getElem?_eq_some_iff.mp hx').1
      have hjr : j < r.length := by simpa using hjl
      obtain rfl : V.str r[j] = x := by simpa [hjr] using hx'
      have tkj : r.take (j + 1) = r.take j ++ [r[j]] := by rw [List.take_succ, List.getElem?_eq_getElem hjr]; rfl
      refine ⟨_, rfl, _, rfl, rfl, _, rfl, ?_⟩
      refine ite2 (fun hne => ?_) (fun hne => ?_)
      ·have hne' : r[j] ≠ n := fun z => by rw [z] at hne; simp at hne
       refine ⟨_, rfl, upd_same, ?_, cw_next hjl ⟨_, rfl, ?_, by rw [upd_upd]⟩⟩
       ·have h1 := List.length_filter_le (fun y => !decide (y = n)) (r.take j)
        have h2 : (r.take j).length <= r.length := by rw [List.length_take]; omega
        have h3 := R.sm.short r (List.mem_of_getElem? hri)
        rw [List.length_map, sizeLine_eq]; omega
       ·rw [tkj, List.filter_append, List.map_append, List.filter_cons_of_pos (by simpa using hne')]; rfl
      ·have hy : r[j] = n := by
        by_cases z : r[j] = n
        ·exact z
        ·exact absurd (by simp [z]) hne
       refine cw_next hjl ⟨_, rfl, ?_, rfl⟩
       rw [tkj]; simp [hy]
     ·rintro zs τ' H5 ⟨t1, rfl, rfl, rfl⟩
      rw [List.length_map, List.take_length]
      refine ⟨b1, _, rfl, .inl ⟨SqL.of upd_same, fun l hl => ?_⟩⟩
      have n1b : a1 ≠ b1 := ne_of_none h41 hb1
      have Sb : Same H4 (upd (upd H4 b1 (.lst ((r.filter fun y => !decide (y = n)).map V.str))) l (.tup ((r.filter fun y => !decide (y = n)).map V.str))) := (same_new hb1).trans (same_new hl)
      have n1l : a1 ≠ l := ne_of_none (by rw [upd_ne n1b]; exact h41) hl
      refine ⟨Sb _ _ h41, ?_, cw_next hlt ⟨_, rfl, upd_same, fun b o hb => ?_, ?_⟩⟩
      ·have h1 := hR4.length
       have h2 : (L2.without n (rest.take i)).length <= rest.length := by unfold L2.without; rw [List.length_map, List.length_take]; omega
       have h3 := R.sm.few
       rw [sizeLine_eq]; omega
      ·rw [upd_ne (ne_of_none hb ha1)]; exact Sb _ _ (S4 b o hb)
      ·have e1 : L2.without n (rest.take (i + 1)) = L2.without n (rest.take i) ++ [r.filter fun y => !decide (y = n)] := by rw [tk]; unfold L2.without; rw [List.map_append]; rfl
       rw [e1]
       refine RowsV.append (rows_keep hR4 fun b xs hb => ?_) ?_
       ·rw [upd_ne (ne_of hb h41 (by intro z; cases z))]; exact Sb _ _ hb
       ·rw [upd_ne (Ne.symm n1l)]; exact upd_same
    ·rintro ys τ H4 ⟨t0, rfl, h41, S4, hR4⟩
     rw [hR3.length, List.take_length] at hR4
     have lt := total_without_lt (least_mem e)
     refine ⟨_, by rw [R.mm]; exact lt, L2.without n rest, ys, acc ++ [n], a1, ⟨_, rfl⟩, rfl, S4 _ _ hoa3, h41, hR4, without_small R.sm, n1o, S3.trans S4, ?_, ?_⟩
     ·have := R.lim; rw [List.length_append, List.length_singleton]; omega
     ·rw [R.eq, merge_some hA e, Option.map_map]
      congr 1
      funext z
      simp
  ·refine ⟨_, rfl, oa, _, rfl, .inl ⟨SqL.of R.hoa, fun p hp => ?_⟩⟩
   rw [R.eq, merge_stop (by simpa using hA)] at hm
   have e : acc ++ [] = o := Option.some.inj hm
   rw [List.append_nil] at e
   subst e
   exact qs p _ (R.same.free hp) (R.same.trans (same_new hp)) upd_same
end
end K35
namespace K35
open PySem L2
theorem boot_max : bootBuiltins "max" = some (.builtin "max") := by decide +kernel
theorem boot_abs : bootBuiltins "abs" = some (.builtin "abs") := by decide +kernel
section
variable {P : Program} {w : World} {K : PySem.W.Frag} {mg : Str -> Option Value} {base : Heap}
@[irreducible] def spPot (K : PySem.W.Frag) : Sp := fun vs H Q _ => ∃ (a : Addr) (ns : List Int) (k : Int), vs = [.ref a, .int k] /\ SqL K H a (ns.map V.int) /\ 0 <= k /\ k <= 100 /\ ns.length <= 63 /\
 ∀ (p : Addr) (x y : Int), H p = none -> 0 <= x -> 0 <= y -> y < 4294967296 -> Q (.ref p) (upd H p (.lst [.int x, .int y]))
theorem scPot : FnScope ["_law_script", "_law_k", "_law_cell"] ["_law_script", "_law_k"] (defScope sPot) := ⟨rfl, rfl, rfl, by decide +kernel, rfl, by decide +kernel, by decide +kernel⟩
theorem get_int {ns : List Int} {i : Nat} (h : i < ns.length) : ∃ z, (ns.map V.int)[i]? = some (V.int z) := ⟨ns[i], by rw [List.getElem?_map, List.getElem?_eq_getElem h]; rfl⟩
theorem ok_pot {f : Addr} {fd : FuncData} (F : Fun K "_law_pot" "_law_pot" sPot f fd) (B : Blt mg) : FnOk P w K mg base CX0 1 f fd ["_law_script", "_law_k"] (spPot K) := by
 refine F.ok scPot (fun vs H Q E h => ?_) (fun cdv A outer s H vs Q E hr h => ?_)
 ·unfold spPot at h; obtain ⟨a, ns, k, rfl, _⟩ := h; rfl
 ·unfold spPot at h
  obtain ⟨a, ns, k, rfl, hS, k0, k1, hl, q⟩ := h
  refine ⟨_, pss_cons (ps_set (i := 2) scPot.nd rfl (Or.inl rfl) pe_int)
   (pss_cons (ps_if (pt_cmpR op_lt (pv 1) (pe_callB call_len_seq (by rfl) B.len boot_len (pa_cons (pv 0) pa_nil)) (nomark _))
     (pss_one (ps_set (i := 2) scPot.nd rfl (Or.inl rfl) (pe_ix ix_list (pv 0) (pv 1) (fun _ _ => rfl)))) pss_nil)
   (pss_one (ps_ret (pe_lst (pa_cons (pe_callB (call_max2 rfl) (by rfl) B.max boot_max (pa_cons pe_int (pa_cons (pe_op op_sub (pe_callB call_abs (by rfl) B.abs boot_abs (pa_cons (pv 2) pa_nil)) (pe_op op_pow pe_int pe_int)) pa_nil)))
    (pa_cons (pe_op op_add (pe_op op_add (pe_op op_mod (pe_callB call_abs (by rfl) B.abs boot_abs (pa_cons (pv 2) pa_nil)) pe_int) (pe_op op_mul pe_int (pv 1))) pe_int) pa_nil)))))), ?_⟩
  refine ⟨_, rfl, _, rfl, a, _, rfl, .inl hS, _, _, rfl, rfl, _, rfl, ?_⟩
  have abs0 : ∀ c : Int, 0 <= (if c < 0 then -c else c) := fun c => by split <;> omega
  have fin : ∀ c : Int, ∀ p, H p = none -> Q (.ref p) (upd H p (.lst [.int (if (if c < 0 then -c else c) - 10 ^ (18 : Int).toNat > 0 then (if c < 0 then -c else c) - 10 ^ (18 : Int).toNat else 0), .int ((if c < 0 then -c else c) % 2147483587 + 101 * k + 3)])) := fun c p hp => by
   have h1 := Int.emod_nonneg (if c < 0 then -c else c) (show (2147483587 : Int) ≠ 0 by decide)
   have h2 := Int.emod_lt_of_pos (if c < 0 then -c else c) (show (0 : Int) < 2147483587 by decide)
   refine q p _ _ hp ?_ (by omega) (by omega)
   generalize (if c < 0 then -c else c) - 10 ^ (18 : Int).toNat = d
   split <;> omega
  have tail : ∀ c : Int, ∃ (x : V), ([some (.ref a), some (.int k), some (.int c)] : St)[2]? = some (some x) := fun c => ⟨_, rfl⟩
  refine ite2 (fun hk => ?_) (fun hk => ?_)
  ·have hk' : k < ((ns.map V.int).length : Int) := of_decide_eq_true hk
   rw [List.length_map] at hk'
   obtain ⟨z, hz⟩ := get_int (ns := ns) (i := k.toNat) (by omega)
   refine ⟨_, rfl, _, rfl, a, _, _, _, rfl, rfl, hS, (by rw [show k = ((k.toNat : Nat) : Int) by omega]; exact atI_nat hz), ?_⟩
   refine ⟨_, rfl, z, rfl, _, _, rfl, rfl, ⟨by decide, by decide, by decide⟩, _, _, rfl, rfl, _, _, rfl, ?_⟩
   refine ⟨_, rfl, z, rfl, _, _, rfl, rfl, (by show (0 : Int) < 2147483587; decide), _, rfl, _, _, rfl, rfl, .inl ⟨by decide, by decide⟩, _, _, rfl, rfl, _, _, rfl, rfl, (by show 2 <= sizeLine; rw [sizeLine_eq]; decide), fun p hp => fin z p hp⟩
  ·refine ⟨_, rfl, 0, rfl, _, _, rfl, rfl, ⟨by decide, by decide, by decide⟩, _, _, rfl, rfl, _, _, rfl, ?_⟩
   refine ⟨_, rfl, 0, rfl, _, _, rfl, rfl, (by show (0 : Int) < 2147483587; decide), _, rfl, _, _, rfl, rfl, .inl ⟨by decide, by decide⟩, _, _, rfl, rfl, _, _, rfl, rfl, (by show 2 <= sizeLine; rw [sizeLine_eq]; decide), fun p hp => fin 0 p hp⟩
@[irreducible] def spDigit : Sp := fun vs H Q _ => ∃ (p : Addr) (m x y : Int), vs = [.ref p, .int m] /\ H p = some (.lst [.int x, .int y]) /\ 0 <= x /\ 0 <= y /\ y < 4294967296 /\ 0 < m /\ m < 4611686018427387904 /\
 ∀ (d x' y' : Int), 0 <= d -> d < m -> 0 <= x' -> 0 <= y' -> y' < 4294967296 -> Q (.int d) (upd H p (.lst [.int x', .int y']))
theorem scDigit : FnScope ["_law_pot_here", "_law_many", "_law_digit_here"] ["_law_pot_here", "_law_many"] (defScope sDigit) := ⟨rfl, rfl, rfl, by decide +kernel, rfl, by decide +kernel, by decide +kernel⟩
theorem ok_digit {f : Addr} {fd : FuncData} (F : Fun K "_law_digit" "_law_digit" sDigit f fd) : FnOk P w K mg base CX0 1 f fd ["_law_pot_here", "_law_many"] spDigit := by
 refine F.ok scDigit (fun vs H Q E h => ?_) (fun cdv A outer s H vs Q E hr h => ?_)
 ·unfold spDigit at h; obtain ⟨p, m, x, y, rfl, _⟩ := h; rfl
 ·unfold spDigit at h
  obtain ⟨p, m, x, y, rfl, hp, x0, y0, y1, m0, m1, q⟩ := h
  refine ⟨_, pss_cons (ps_if (pt_cmpR op_gt (pe_ix ix_list (pv 0) pe_int (fun _ _ => rfl)) pe_int (nomark _))
    (pss_cons (ps_set (i := 2) scDigit.nd rfl (Or.inl rfl) (pe_op op_mod (pe_ix ix_list (pv 0) pe_int (fun _ _ => rfl)) (pv 1)))
    (pss_cons (ps_asg (pe_op op_fdivW (pe_ix ix_list (pv 0) pe_int (fun _ _ => rfl)) (pv 1)) (pg_sub (pv 0) pe_int set_list))
    (pss_one (ps_ret (pv 2))))) pss_nil)
   (pss_cons (ps_asg (pe_op op_mod (pe_op op_add (pe_op op_mul (pe_ix ix_list (pv 0) pe_int (fun _ _ => rfl)) pe_int) pe_int) pe_int) (pg_sub (pv 0) pe_int set_list))
   (pss_one (ps_ret (pe_op op_mod (pe_op op_fdiv (pe_op op_mod (pe_op op_mul (pe_ix ix_list (pv 0) pe_int (fun _ _ => rfl)) (pe_ix ix_list (pv 0) pe_int (fun _ _ => rfl))) pe_int) pe_int) (pv 1))))), ?_⟩
  have hl : SqL K H p [.int x, .int y] := SqL.of hp
  refine ⟨_, rfl, p, _, 0, _, rfl, rfl, hl, rfl, _, _, rfl, rfl, _, rfl, ?_⟩
  refine ite2 (fun hx => ?_) (fun hx => ?_)
  ·refine ⟨_, rfl, p, _, 0, _, rfl, rfl, hl, rfl, _, rfl, _, _, rfl, rfl, m0, ?_⟩
   refine ⟨_, rfl, p, _, 0, _, rfl, rfl, hl, rfl, _, rfl, _, _, rfl, rfl, ⟨m0, by omega⟩, _, rfl, p, _, 0, 0, rfl, rfl, hp, rfl, ?_⟩
   refine ⟨_, rfl, ?_⟩
   exact q _ _ _ (Int.emod_nonneg _ (by omega)) (Int.emod_lt_of_pos _ m0) (Int.ediv_nonneg x0 (by omega)) y0 y1
  ·refine ⟨_, rfl, p, _, 1, _, rfl, rfl, hl, rfl, _, _, rfl, rfl, .inr ⟨by decide, by decide⟩, _, _, rfl, rfl, _, _, rfl, rfl, (by show (0 : Int) < 2147483647; decide), _, rfl, p, _, 1, 1, rfl, rfl, hp, rfl, ?_⟩
   have h1 := Int.emod_nonneg (y * 39373 + 20011) (show (2147483647 : Int) ≠ 0 by decide)
   have h2 := Int.emod_lt_of_pos (y * 39373 + 20011) (show (0 : Int) < 2147483647 by decide)
   refine ⟨_, rfl, p, _, 1, _, rfl, rfl, SqL.of upd_same, rfl, _, rfl, p, _, 1, _, rfl, rfl, SqL.of upd_same, rfl, _, _, rfl, rfl, .inl ⟨Int.lt_of_lt_of_le (by decide) h1, Int.lt_of_lt_of_le h2 (by decide)⟩, _, _, rfl, rfl, (by show (0 : Int) < 2147483563; decide), _, _, rfl, rfl, ⟨by decide, by decide⟩, _, rfl, _, _, rfl, rfl, m0, ?_⟩
   exact q _ x _ (Int.emod_nonneg _ (by omega)) (Int.emod_lt_of_pos _ m0) x0 h1 (by omega)
end
end K35
namespace K35
open PySem L2
def PotOk (p : Addr) (H : Hp) : Prop := ∃ x y : Int, H p = some (.lst [.int x, .int y]) /\ 0 <= x /\ 0 <= y /\ y < 4294967296
structure PotAt (p : Addr) (H H' : Hp) : Prop where
 ok : PotOk p H'
 kp : ∀ b o, H b = some o -> b ≠ p -> H' b = some o
section
variable {p q : Addr} {H H1 H2 : Hp} {o : HO}
theorem PotAt.refl (h : PotOk p H) : PotAt p H H := ⟨h, fun _ _ e _ => e⟩
theorem PotAt.trans (a : PotAt p H H1) (b : PotAt p H1 H2) : PotAt p H H2 := ⟨b.ok, fun c o e n => b.kp c o (a.kp c o e n) n⟩
theorem PotOk.ne (h : PotOk p H) (hq : H q = none) : p ≠ q := let ⟨_, _, e, _⟩ := h; ne_of_none e hq
theorem PotAt.new (a : PotAt p H H1) (hq : H1 q = none) : PotAt p H (upd H1 q o) := by
 refine ⟨?_, fun b u e n => ?_⟩
 ·obtain ⟨x, y, e, r⟩ := id a.ok
  exact ⟨x, y, by rw [upd_ne (a.ok.ne hq)]; exact e, r⟩
 ·rw [upd_ne (ne_of_none (a.kp b u e n) hq)]; exact a.kp b u e n
theorem PotAt.free (a : PotAt p H H1) (hq : H1 q = none) : H q = none := by
 cases e : H q with
 | none => rfl
 | some u =>
  by_cases h : q = p
  ·subst h; obtain ⟨_, _, z, _⟩ := a.ok; rw [z] at hq; cases hq
  ·rw [a.kp q u e h] at hq; cases hq
theorem PotAt.write (a : PotAt p H H1) (hq : H q = none) (hp : p ≠ q) : PotAt p H (upd H1 q o) := by
 refine ⟨?_, fun b u e n => ?_⟩
 ·obtain ⟨x, y, e, r⟩ := id a.ok
  exact ⟨x, y, by rw [upd_ne hp]; exact e, r⟩
 ·rw [upd_ne (ne_of_none e hq)]; exact a.kp b u e n
theorem digit_sp {m : Int} {Q : VK} {E : XK} (h : PotOk p H) (m0 : 0 < m) (m1 : m < 4611686018427387904) (k : ∀ d H', 0 <= d -> d < m -> PotAt p H H' -> Q (.int d) H') : spDigit [.ref p, .int m] H Q E := by
 obtain ⟨x, y, e, x0, y0, y1⟩ := h
 unfold spDigit
 exact ⟨p, m, x, y, rfl, e, x0, y0, y1, m0, m1, fun d x' y' d0 d1 h1 h2 h3 => k d _ d0 d1 ⟨⟨x', y', upd_same, h1, h2, h3⟩, fun b o z n => by rw [upd_ne n]; exact z⟩⟩
end
theorem sum_signs : ∀ cs : List Nat, ((cs.map sign).map (·.length)).sum = cs.length
 | [] => rfl
 | c :: cs => by
  have e : (sign c).length = 1 := rfl
  simp only [List.map_cons, List.sum_cons, sum_signs cs, List.length_cons, e]; omega
abbrev letters : Str := "abcdefghijklmnopqrstuvwxyz"
theorem letter_at {d : Int} (h0 : 0 <= d) (h1 : d < 26) : ∃ c : Nat, atI letters.cps.toList d = some c /\ 97 <= c /\ c <= 122 /\ c = 97 + d.toNat := by
 have all : ∀ i : Nat, i < 26 -> letters.cps.toList[i]? = some (97 + i) := by decide +kernel
 refine ⟨97 + d.toNat, ?_, by omega, by omega, rfl⟩
 rw [show d = ((d.toNat : Nat) : Int) by omega]
 exact atI_nat (all d.toNat (by omega))
section
variable {P : Program} {w : World} {K : PySem.W.Frag} {mg : Str -> Option Value} {base : Heap}
@[irreducible] def spNames : Sp := fun vs H Q _ => ∃ (p : Addr) (m : Nat), vs = [.ref p, .int m] /\ PotOk p H /\ m <= 20 /\
 ∀ (l : Addr) (ys : List Str) (H' : Hp), H l = none -> ys.length = m -> (∀ y ∈ ys, Nm y) -> ys.Nodup -> PotAt p H H' -> H' l = some (.lst (ys.map V.str)) -> Q (.ref l) H'
abbrev nNames : List Str := ["_law_pot_here", "_law_many", "_law_letters", "_law_found", "_law_k", "_law_size", "_law_name", "_law_some"]
theorem scNames : FnScope nNames ["_law_pot_here", "_law_many"] (defScope sNames) := ⟨rfl, rfl, rfl, by decide +kernel, rfl, by decide +kernel, by decide +kernel⟩
def ifBody (s : Stmt) : List Stmt := match s with | .If _ b _ _ => b | _ => []
abbrev scC1 : Scope := compSc (arg0 (asgV (bodyAt (forBody (bodyAt (defBody sNames) 2)) 1)))
abbrev scC2 : Scope := compSc (asgV (bodyAt (ifBody (bodyAt (forBody (bodyAt (defBody sNames) 2)) 2)) 0))
abbrev scC3 : Scope := compSc (subV (asgV (bodyAt (ifBody (bodyAt (forBody (bodyAt (defBody sNames) 2)) 2)) 1)))
theorem cs1 : CompScope nNames (defScope sNames) ["_law_turn", "_law_letters", "_law_pot_here"] [none, some 2, some 0] scC1 := ⟨rfl, by decide +kernel, by decide +kernel, rfl, fv_of (by decide +kernel), by decide +kernel⟩
theorem cs2 : CompScope nNames (defScope sNames) ["_law_turn", "_law_letters", "_law_name"] [none, some 2, some 6] scC2 := ⟨rfl, by decide +kernel, by decide +kernel, rfl, fv_of (by decide +kernel), by decide +kernel⟩
theorem cs3 : CompScope nNames (defScope sNames) ["_law_one", "_law_found"] [none, some 3] scC3 := ⟨rfl, by decide +kernel, by decide +kernel, rfl, fv_of (by decide +kernel), by decide +kernel⟩
theorem ok_names {f fD : Addr} {fd fdD : FuncData} (F : Fun K "_law_names" "_law_names" sNames f fd) (B : Blt mg) (FD : Fun K "_law_digit" "_law_digit" sDigit fD fdD) (bD : Binds K fdD ["_law_pot_here", "_law_many"] []) (mD : mg "_law_digit" = some (.ref fD)) :
    FnOk P w K mg base CX0 3 f fd ["_law_pot_here", "_law_many"] spNames := by
  have GD : FnOk P w K mg base CX0 1 fD fdD ["_law_pot_here", "_law_many"] spDigit := ok_digit FD
  refine F.ok scNames (fun vs H Q E h => ?_) (fun cdv A outer s H vs Q E hr h => ?_)
  · unfold spNames at h; obtain ⟨p, m, rfl, _⟩ := h; rfl
  · unfold spNames at h
    obtain ⟨p, m, rfl, hp, m1, q⟩ := h
    have hr1 : Room 1 _ := hr.mono (by decide)
    refine ⟨_, pss_cons (ps_set (i := 2) scNames.nd rfl (Or.inr rfl) pe_str)
      (pss_cons (ps_set (i := 3) scNames.nd rfl (Or.inr rfl) (pe_lst pa_nil))
      (pss_cons (ps_for PassesOwn.never rfl (pi_range1 rfl B.range (pa_cons (pv 1) pa_nil)) (pg_name (i := 4) scNames.nd rfl (Or.inl rfl))
        (pss_cons (ps_set (i := 5) scNames.nd rfl (Or.inl rfl) (pe_op op_add pe_int (pe_call GD hr1 rfl mD FD.kp bD .nil pass0 (pa_cons (pv 0) (pa_cons (pe_ix ix_list (pe_lst (pa_cons pe_int (pa_cons pe_int (pa_cons pe_int pa_nil))))
            (pe_call GD hr1 rfl mD FD.kp bD .nil pass0 (pa_cons (pv 0) (pa_cons pe_int pa_nil))) (fun _ _ => rfl)) pa_nil)))))
        (pss_cons (ps_set (i := 6) scNames.nd rfl (Or.inr rfl) (pe_bm PySem.F.plainAttrs_str PySem.F.slot_str_join PySem.F.type_str_join mt_join pe_str
            (pa_cons (pe_comp rfl cs1 (pi_range1 rfl B.range (pa_cons (pv 5) pa_nil)) (fun s H fp => ⟨pg_name (i := 0) cs1.nd rfl (Or.inl rfl), pifs_nil, pe_ix ix_str (pv 1) (pe_call GD hr1 rfl mD FD.kp bD .nil pass0 (pa_cons (pv 2) (pa_cons pe_int pa_nil))) (fun _ _ => rfl)⟩)) pa_nil)))
        (pss_cons (ps_if (pt_cmpR op_in_seq (pv 6) (pv 3) rfl)
            (pss_cons (ps_setComp (i := 7) rfl cs2 scNames.nd rfl rfl (pi_range1 rfl B.range (pa_cons (pe_op op_add (pv 1) pe_int) pa_nil)) (fun s H fp => ⟨pg_name (i := 0) cs2.nd rfl (Or.inl rfl), pifs_nil,
                pe_op op_add_str (pe_op op_add_str (pe_slice sl_str (pv 2) po_none (po_some pe_int)) (pe_ix ix_str (pv 1) (pv 0) (fun _ _ => rfl))) pe_str⟩))
            (pss_one (ps_set (i := 6) scNames.nd rfl (Or.inr rfl) (pe_ix ix_list (pe_comp rfl cs3 (pi_list (pv 7)) (fun s H fp => ⟨pg_name (i := 0) cs3.nd rfl (Or.inl rfl), pifs_one (pt_cmpR (op_notIn_K K rfl) (pv 0) (pv 1) rfl), pv 0⟩)) pe_int (fun _ _ => rfl)))))
            pss_nil)
        (pss_one (ps_expr (pe_bm PySem.F.plainAttrs_list PySem.F.slot_list_append PySem.F.type_list_append mt_append (pv 3) (pa_cons (pv 6) pa_nil))))))))
      (pss_one (ps_ret (pv 3))))), ?_⟩
    refine ⟨Nat.zero_le _, fun l hl => ?_⟩
    have hpl : p ≠ l := hp.ne hl
    have em : ((m : Int)).toNat = m := Int.toNat_natCast m
    refine ⟨_, rfl, (m : Int), rfl, by omega, by omega, for_range (fun i σ H1 => ∃ (ys : List Str) (v4 v5 v6 v7 : Option V), σ = [some (.ref p), some (.int m), some (.str letters), some (.ref l), v4, v5, v6, v7] /\ ys.length = i /\ (∀ y ∈ ys, Nm y) /\ ys.Nodup /\ PotAt p H H1 /\ H1 l = some (.lst (ys.map V.str)))
      ⟨[], none, none, none, none, rfl, rfl, (fun y hy => by simp at hy), List.nodup_nil, (PotAt.refl hp).new hl, upd_same⟩ ?_ ?_⟩
    · rintro i σ H1 hi ⟨ys, v4, v5, v6, v7, rfl, hlen, hnm, hnd, pa, hl1⟩
      rw [em] at hi
      refine ⟨_, rfl, by show 3 <= sizeLine; rw [sizeLine_eq]; decide, fun a hq => ⟨_, rfl, ?_⟩⟩
      have nqp : a ≠ p := Ne.symm (pa.ok.ne hq)
      refine digit_sp (p := p) (m := 3) ((PotAt.refl pa.ok).new hq).ok (by decide) (by decide) fun d H2 d0 d1 pb => ?_
      obtain ⟨mv, hat, mv0, mv1⟩ : ∃ mv : Int, atI [V.int 1, V.int 2, V.int 8] d = some (V.int mv) /\ 0 < mv /\ mv <= 8 := by
        have : d = 0 \/ d = 1 \/ d = 2 := by omega
        rcases this with rfl | rfl | rfl
        · exact ⟨1, rfl, by decide, by decide⟩
        · exact ⟨2, rfl, by decide, by decide⟩
        · exact ⟨8, rfl, by decide, by decide⟩
      refine ⟨a, _, d, _, rfl, rfl, SqL.of (pb.kp a _ upd_same nqp), hat, ?_⟩
      refine digit_sp (p := p) (m := mv) pb.ok mv0 (by omega) fun e H3 e0 e1 pc => ⟨_, _, rfl, rfl, ?_⟩
      have pd : PotAt p H1 H3 := (((PotAt.refl pa.ok).new hq).trans pb).trans pc
      have hl3 : H3 l = some (.lst (ys.map V.str)) := pd.kp l _ hl1 (Ne.symm hpl)
      refine ⟨rfl, _, rfl, 1 + e, rfl, by omega, by omega, fun a1 ha1 => ?_⟩
      have na1 : p ≠ a1 := pc.ok.ne ha1
      refine comp_range (fun i zs τ H4 => ∃ (cs : List Nat) (t0 : Option V), zs = (cs.map sign).map V.str /\ cs.length = i /\ (∀ c ∈ cs, 97 <= c /\ c <= 122) /\ τ = [t0, some (.str letters), some (.ref p)] /\ PotAt p H3 H4 /\ H4 a1 = some (.lst zs))
        ⟨[], none, rfl, rfl, (fun c hc => by simp at hc), rfl, (PotAt.refl pc.ok).new ha1, upd_same⟩ (fun i zs τ H4 ⟨_, _, _, _, _, _, _, z⟩ => z) ?_ ?_
      · rintro j zs τ H4 hj ⟨cs, t0, rfl, hcl, haz, rfl, pe, hz⟩
        refine ⟨_, rfl, _, rfl, digit_sp (p := p) (m := 26) pe.ok (by decide) (by decide) fun d H5 d0 d1 pf => ?_⟩
        obtain ⟨c, hc, c0, c1, _⟩ := letter_at d0 d1
        have hz5 : H5 a1 = _ := pf.kp a1 _ hz (Ne.symm na1)
        refine ⟨letters, d, c, rfl, rfl, (by rw [sizeLine_eq]; decide +kernel), hc, hz5, ?_, cw_next hj ⟨cs ++ [c], _, ?_, ?_, ?_, rfl, ?_, upd_same⟩⟩
        · rw [List.length_map, List.length_map, hcl, sizeLine_eq]; omega
        · rw [List.map_append, List.map_append]; rfl
        · rw [List.length_append, hcl]; rfl
        · intro x hx
          rcases List.mem_append.mp hx with h | h
          · exact haz x h
          · have : x = c := by simpa using h
            rw [this]; exact ⟨c0, c1⟩
        · exact (pe.trans pf).write ((PotAt.refl pc.ok).free ha1) na1
      · rintro zs τ H4 ⟨cs, t0, rfl, hcl, haz, rfl, pe, hz⟩
        have hsl : ((cs.map sign).map (·.length)).sum = cs.length := by
          exact sum_signs cs
        refine ⟨("" : Str), a1, cs.map sign, rfl, rfl, .inl (SqL.of hz), ?_, ?_⟩
        · have : (Str.length ("" : Str)) = 0 := rfl
          rw [hsl, this, hcl]; omega
        rw [join_signs]
        generalize hnme : (⟨cs.toArray⟩ : Str) = nm
        have nmOk : Nm nm := by
          have el : nm.length = cs.length := by rw [<- hnme]; show cs.toArray.size = _; simp
          refine ⟨by omega, by omega, fun c hc => haz c ?_⟩
          rw [<- hnme] at hc; simpa using hc
        have pg : PotAt p H1 H4 := pd.trans pe
        have hl4 : H4 l = some (.lst (ys.map V.str)) := pe.kp l _ hl3 (Ne.symm hpl)
        refine ⟨_, rfl, _, rfl, l, _, rfl, .inl (SqL.of hl4), rfl, flat_strs _, _, rfl, ?_⟩
        rw [if_neg Bool.false_ne_true, inV_strs]
        refine ite2 (fun hin => ?_) (fun hin => ?_)
        · -- some = [..]
          refine ⟨_, rfl, _, _, rfl, rfl, (m : Int) + 1, rfl, by omega, by omega, fun a2 ha2 => ?_⟩
          refine comp_range (fun i zs τ H5 => ∃ t0 : Option V, zs = ((List.range i).map fun j => Txt.slice nm none (some 6) ++ sign (97 + j) ++ ("q" : Str)).map V.str /\ τ = [t0, some (.str letters), some (.str nm)] /\ H5 = upd H4 a2 (.lst zs))
            ⟨none, rfl, rfl, rfl⟩ (fun i zs τ H5 ⟨_, _, _, z⟩ => by rw [z]; exact upd_same) ?_ ?_
          · rintro j zs τ H5 hj ⟨t0, rfl, rfl, rfl⟩
            have hj' : j < m + 1 := by omega
            obtain ⟨c, hc, c0, c1, hce⟩ := letter_at (d := 0 + (j : Int)) (by omega) (by omega)
            have hce' : c = 97 + j := by rw [hce]; omega
            have l1 : (Txt.slice nm none (some 6)).length <= 6 := slice6_len nm
            refine ⟨_, rfl, _, rfl, nm, rfl, by have := nmOk.hi; omega, _, rfl, _, rfl, letters, _, c, rfl, rfl, (by rw [sizeLine_eq]; decide +kernel), hc, _, _, rfl, rfl, ?_, _, _, rfl, rfl, ?_, upd_same, ?_, cw_next hj ⟨_, ?_, rfl, ?_⟩⟩
            · show _ + 1 <= sizeLine; rw [sizeLine_eq]; omega
            · have e1 : (Txt.slice nm none (some 6) ++ (⟨#[c]⟩ : Str)).length = (Txt.slice nm none (some 6)).length + 1 := by
                show (_ ++ #[c] : Array Nat).size = _; rw [Array.size_append]; rfl
              have e2 : (("q" : Str)).length = 1 := by decide +kernel
              show (Txt.slice nm none (some 6) ++ (⟨#[c]⟩ : Str)).length + _ <= sizeLine
              rw [e1, e2, sizeLine_eq]; omega
            · rw [List.length_map, List.length_map, List.length_range, sizeLine_eq]; omega
            · rw [List.range_succ, List.map_append, List.map_append, hce']; rfl
            · rw [upd_upd]
          · rintro zs τ H5 ⟨t0, rfl, rfl, rfl⟩
            have em1 : ((m : Int) + 1).toNat = m + 1 := by omega
            generalize hcd : (List.range ((m : Int) + 1).toNat).map (fun j => Txt.slice nm none (some 6) ++ sign (97 + j) ++ ("q" : Str)) = cands
            have cnd : cands.Nodup := by
              rw [<- hcd]
              refine List.Pairwise.map _ (fun a b hab h => hab ?_) List.nodup_range
              have := cand_inj h
              omega
            have cnm : ∀ y ∈ cands, Nm y := by
              intro y hy
              rw [<- hcd] at hy
              obtain ⟨j, hj, rfl⟩ := List.mem_map.mp hy
              have := List.mem_range.mp hj
              exact cand_nm nmOk.az ⟨by omega, by omega⟩
            have clen : cands.length = m + 1 := by rw [<- hcd, List.length_map, List.length_range, em1]
            have hl5 : upd H4 a2 (.lst (cands.map V.str)) l = some (.lst (ys.map V.str)) := by rw [upd_ne (ne_of_none hl4 ha2)]; exact hl4
            refine ⟨_, rfl, a2, rfl, ⟨_, SqL.of upd_same⟩, fun a3 ha3 => ?_⟩
            refine comp_list (xs := cands.map V.str) (fun i zs τ H6 => ∃ t0 : Option V, zs = ((cands.take i).filter (fun y => !decide (y ∈ ys))).map V.str /\ τ = [t0, some (.ref l)] /\ H6 = upd (upd H4 a2 (.lst (cands.map V.str))) a3 (.lst zs))
              ⟨none, rfl, rfl, rfl⟩ (fun i zs τ H6 ⟨_, _, _, z⟩ => by rw [z]; exact ⟨upd_same, SqL.of (by rw [upd_ne (ne_of_none upd_same ha3)]; exact upd_same)⟩) ?_ ?_
            · rintro j x zs τ H6 hx ⟨t0, rfl, rfl, rfl⟩
              rw [List.getElem?_map] at hx
              obtain ⟨y, hy, rfl⟩ := Option.map_eq_some_iff.mp hx
              have hjl : j < (cands.map V.str).length := by rw [List.length_map]; exact (List.getElem?_eq_some_iff.mp hy).1
              have tk : cands.take (j + 1) = cands.take j ++ [y] := by rw [List.take_succ, hy]; rfl
              have hl6 : (upd (upd H4 a2 (.lst (cands.map V.str))) a3 (.lst (((cands.take j).filter (fun y => !decide (y ∈ ys))).map V.str))) l = some (.lst (ys.map V.str)) := by rw [upd_ne (ne_of_none hl5 ha3)]; exact hl5
              refine ⟨_, rfl, _, rfl, l, _, rfl, .inl (SqL.of hl6), rfl, flat_strs _, _, rfl, ?_⟩
              rw [if_pos rfl, inV_strs]
              refine ite2 (fun hn => ?_) (fun hn => ?_)
              · refine ⟨_, rfl, upd_same, ?_, cw_next hjl ⟨_, ?_, rfl, ?_⟩⟩
                · have h1 := List.length_filter_le (fun y => !decide (y ∈ ys)) (cands.take j)
                  have h2 : (cands.take j).length <= cands.length := by rw [List.length_take]; omega
                  rw [List.length_map, sizeLine_eq]; omega
                · rw [tk, List.filter_append, List.map_append, List.filter_cons, if_pos hn]; rfl
                · rw [upd_upd]
              · refine cw_next hjl ⟨_, ?_, rfl, rfl⟩
                rw [tk, List.filter_append, List.filter_cons, if_neg hn, List.filter_nil, List.append_nil]
            · rintro zs τ H6 ⟨t0, rfl, rfl, rfl⟩
              rw [List.length_map, List.take_length]
              obtain ⟨y0, hy0, hyn⟩ := pigeon (found := ys) cnd (by omega)
              have hmem : y0 ∈ cands.filter (fun y => !decide (y ∈ ys)) := List.mem_filter.mpr ⟨hy0, by simpa using hyn⟩
              cases hf : cands.filter (fun y => !decide (y ∈ ys)) with
              | nil => rw [hf] at hmem; simp at hmem
              | cons z1 zr =>
                have hz1 : z1 ∈ cands.filter (fun y => !decide (y ∈ ys)) := by rw [hf]; exact List.mem_cons_self
                obtain ⟨zc, zn⟩ := List.mem_filter.mp hz1
                have zn' : z1 ∉ ys := by simpa using zn
                have hl6 : (upd (upd H4 a2 (.lst (cands.map V.str))) a3 (.lst ((z1 :: zr).map V.str))) l = some (.lst (ys.map V.str)) := by rw [upd_ne (ne_of_none hl5 ha3)]; exact hl5
                have ph : PotAt p H (upd (upd H4 a2 (.lst (cands.map V.str))) a3 (.lst ((z1 :: zr).map V.str))) := ((pa.trans pg).new ha2).new ha3
                refine ⟨a3, _, 0, V.str z1, rfl, rfl, SqL.of upd_same, (show atI ((z1 :: zr).map V.str) ((0 : Nat) : Int) = some (V.str z1) from atI_nat rfl), ?_⟩
                refine ⟨_, rfl, .inl ⟨rfl, _, SqL.of hl6⟩, _, rfl, l, _, _, rfl, rfl, hl6, ?_, ?_⟩
                · rw [List.length_map, sizeLine_eq]; omega
                · refine ⟨ys ++ [z1], _, _, _, _, rfl, by rw [List.length_append, hlen]; rfl, ?_, ?_, ?_, ?_⟩
                  · intro y hy
                    rcases List.mem_append.mp hy with h | h
                    · exact hnm y h
                    · have : y = z1 := by simpa using h
                      rw [this]; exact cnm z1 zc
                  · rw [List.nodup_append]
                    exact ⟨hnd, by simp, fun a ha b hb => by have : b = z1 := by simpa using hb
                                                             rw [this]; exact fun h => zn' (h ▸ ha)⟩
                  · exact ph.write hl hpl
                  · rw [upd_same, List.map_append]; rfl
        · have hn' : nm ∉ ys := by simpa using hin
          have ph : PotAt p H H4 := pa.trans pg
          refine ⟨_, rfl, .inl ⟨rfl, _, SqL.of hl4⟩, _, rfl, l, _, _, rfl, rfl, hl4, ?_, ?_⟩
          · rw [List.length_map, sizeLine_eq]; omega
          · refine ⟨ys ++ [nm], _, _, _, _, rfl, by rw [List.length_append, hlen]; rfl, ?_, ?_, ?_, ?_⟩
            · intro y hy
              rcases List.mem_append.mp hy with h | h
              · exact hnm y h
              · have : y = nm := by simpa using h
                rw [this]; exact nmOk
            · rw [List.nodup_append]
              exact ⟨hnd, by simp, fun a ha b hb => by have : b = nm := by simpa using hb
                                                       rw [this]; exact fun h => hn' (h ▸ ha)⟩
            · exact ph.write hl hpl
            · rw [upd_same, List.map_append]; rfl
    · rintro σ H1 ⟨ys, v4, v5, v6, v7, rfl, hlen, hnm, hnd, pa, hl1⟩
      rw [em] at hlen
      exact ⟨_, rfl, q l ys H1 hl hlen hnm hnd pa hl1⟩
end
end K35
namespace K35
open PySem L2 PySem.W HT
theorem call_list_K {X : Cx} (K : Frag) (h : X.K = K) : CallR X (.type "list") (fun xs H Q => ∃ p ys, xs = [.ref p] /\ (SqL K H p ys \/ SqT K H p ys) /\ ∀ l, H l = none -> Q (.ref l) (upd H l (.lst ys))) := by subst h; exact call_list_of
theorem call_anyB_K {X : Cx} (K : Frag) (h : X.K = K) (hc : X.calm = true) : CallR X (.builtin "any") (fun xs H Q => ∃ (p : Addr) (bs : List Bool), xs = [.ref p] /\ SqL K H p (bs.map V.bl) /\ Q (.bl (bs.any id)) H) := by subst h; exact call_anyB hc
theorem sl_list_K {X : Cx} (K : Frag) (h : X.K = K) : SlR X (rSlL K) := by subst h; exact sl_list
def RowsA (av : Addr -> Prop) (H : Hp) (vs : List V) (rows : List (List Str)) : Prop := Paired (fun y r => ∃ a, y = V.ref a /\ av a /\ H a = some (.lst (r.map V.str))) vs rows
theorem rowsA_get {av : Addr -> Prop} {H : Hp} : ∀ {vs : List V} {rows : List (List Str)} {i : Nat} {v : V}, RowsA av H vs rows -> vs[i]? = some v -> ∃ a r, v = V.ref a /\ rows[i]? = some r /\ av a /\ H a = some (.lst (r.map V.str))
 | _, _, i, v, .nil, e => by simp at e
 | _, _, 0, v, .cons p _, e => by
  obtain ⟨a, rfl, n, q⟩ := p
  simp at e; subst e
  exact ⟨a, _, rfl, rfl, n, q⟩
 | _, _, i + 1, v, .cons _ t, e => by
  obtain ⟨a, r, e1, e2, n, q⟩ := rowsA_get (i := i) t (by simpa using e)
  exact ⟨a, r, e1, by simpa using e2, n, q⟩
theorem rowsA_mono {av av' : Addr -> Prop} {H H' : Hp} {vs : List V} {rows : List (List Str)} (h : RowsA av H vs rows) (f : ∀ a xs, av a -> H a = some (.lst xs) -> av' a /\ H' a = some (.lst xs)) : RowsA av' H' vs rows :=
 Paired.imp' (fun _ _ ⟨a, e, n, q⟩ => ⟨a, e, (f a _ n q).1, (f a _ n q).2⟩) h
theorem rowsA_append {av : Addr -> Prop} {H : Hp} {vs : List V} {rows : List (List Str)} {a : Addr} {r : List Str} : RowsA av H vs rows -> av a -> H a = some (.lst (r.map V.str)) -> RowsA av H (vs ++ [.ref a]) (rows ++ [r])
 | .nil, n, q => .cons ⟨a, rfl, n, q⟩ .nil
 | .cons p t, n, q => .cons p (rowsA_append t n q)
theorem rowsA_length {av : Addr -> Prop} {H : Hp} {vs : List V} {rows : List (List Str)} (h : RowsA av H vs rows) : vs.length = rows.length := Paired.length h
theorem nm_ok {x : Str} (h : Nm x) : PyData.strOk x = true := by
 unfold PyData.strOk
 rw [<- Array.all_toList, List.all_eq_true]; intro c hc; have := (h.az c hc).2; exact decide_eq_true (by omega)
theorem strs_rep (H : Hp) : ∀ xs : List Str, RepAll H (xs.map V.str) (xs.map PyData.str)
 | [] => .nil
 | x :: xs => .cons (.str x) (strs_rep H xs)
theorem strs_lay : ∀ {xs : List Str}, (∀ x ∈ xs, Nm x) -> PyData.canLayAll0 (xs.map PyData.str) = true
 | [], _ => rfl
 | x :: xs, h => by
  show (PyData.strOk x && PyData.canLayAll0 (xs.map PyData.str)) = true
  rw [nm_ok (h x List.mem_cons_self), strs_lay fun y hy => h y (List.mem_cons_of_mem _ hy)]; rfl
theorem strs_depth : ∀ xs : List Str, PyData.depthAll (xs.map PyData.str) = 0
 | [] => rfl
 | x :: xs => by rw [List.map_cons]; simp only [PyData.depthAll, PyData.depth, strs_depth xs, Nat.max_self]
theorem ne_nil {H : Hp} {a b : Addr} {xs : List Str} {Q : VK} (ha : H a = some (.lst (xs.map V.str))) (hb : H b = some (.lst [])) (hn : ∀ x ∈ xs, Nm x) (q : Q (.bl (!xs.isEmpty)) H) : rNeD (.ref a) (.ref b) H Q := by
 refine ⟨.list (xs.map PyData.str), .list [], .lst ha (strs_rep _ _), .lst hb .nil, strs_lay hn, rfl, by show PyData.depthAll _ + 1 <= 60; rw [strs_depth]; decide, ?_⟩
 cases xs with
 | nil => exact q
 | cons x xs => exact q
theorem eq_nil {H : Hp} {a b : Addr} {xs : List Str} {Q : VK} (ha : H a = some (.lst (xs.map V.str))) (hb : H b = some (.lst [])) (hn : ∀ x ∈ xs, Nm x) (q : Q (.bl xs.isEmpty) H) : rEqD (.ref a) (.ref b) H Q := by
 refine ⟨.list (xs.map PyData.str), .list [], .lst ha (strs_rep _ _), .lst hb .nil, strs_lay hn, rfl, by show PyData.depthAll _ + 1 <= 60; rw [strs_depth]; decide, ?_⟩
 cases xs with
 | nil => exact q
 | cons x xs => exact q
theorem cut_from (xs : List V) (k : Nat) : cutV xs (some (k : Int)) none = xs.drop k := by
 unfold cutV; rw [HT.sIx_none, HT.sIx_nat]
 by_cases h : k <= xs.length
 ·rw [Nat.min_eq_left h, List.take_of_length_le (by rw [List.length_drop]; omega)]
 ·rw [Nat.min_eq_right (by omega), List.drop_length, List.drop_of_length_le (by omega)]; simp
def busy (rest : List (List Str)) (x : Str) : Bool := rest.any fun o => decide (x ∈ o.drop 1)
def freeL (all : List (List Str)) : List (List Str) -> List Str
 | [] => []
 | [] :: rest => freeL all rest
 | (x :: _) :: rest => if busy all x then freeL all rest else x :: freeL all rest
theorem wish_none {n : Str} : ∀ {k : Nat} {rest : List (List Str)}, wishFrom k rest n = none ↔ ∀ r ∈ rest, n ∈ r -> r.head? = some n
 | k, [] => by simp [wishFrom]
 | k, [] :: rest => by
  show wishFrom (k + 1) rest n = none ↔ _
  rw [wish_none (k := k + 1) (rest := rest)]; simp
 | k, (x :: r) :: rest => by
  show (if n ∈ x :: r /\ x ≠ n then some (k, x) else wishFrom (k + 1) rest n) = none ↔ _
  by_cases h : n ∈ x :: r /\ x ≠ n
  ·rw [if_pos h]
   constructor
   ·intro z; cases z
   ·intro z
    have := z _ List.mem_cons_self h.1
    exact absurd (by simpa using this) h.2
  ·rw [if_neg h, wish_none (k := k + 1) (rest := rest)]
   constructor
   ·intro z q hq hn
    rcases List.mem_cons.mp hq with rfl | hq
    ·by_cases e : x = n
     ·rw [e]; rfl
     ·exact absurd ⟨hn, e⟩ h
    ·exact z q hq hn
   ·exact fun z q hq => z q (List.mem_cons_of_mem _ hq)
theorem busy_iff {all : List (List Str)} (hnd : ∀ r ∈ all, r.Nodup) (x : Str) : busy all x = false ↔ wishFrom 0 all x = none := by
 rw [wish_none]
 unfold busy
 rw [List.any_eq_false]
 constructor
 ·intro h q hq hx
  have h1 := h q hq
  cases q with
  | nil => simp at hx
  | cons y t =>
   rcases List.mem_cons.mp hx with rfl | hx
   ·rfl
   ·exact absurd (by simpa using hx) h1
 ·intro h r hr
  cases r with
  | nil => simp
  | cons y t =>
   intro hx
   have hx : x ∈ t := by simpa using hx
   obtain rfl : y = x := by simpa using h _ hr (List.mem_cons_of_mem _ hx)
   exact (List.nodup_cons.mp (hnd _ hr)).1 hx
theorem freeL_head {all : List (List Str)} (hnd : ∀ r ∈ all, r.Nodup) : ∀ rest : List (List Str), (freeL all rest).head? = freeFrom all rest
 | [] => rfl
 | [] :: rest => freeL_head hnd rest
 | (x :: t) :: rest => by
  show (if busy all x then freeL all rest else x :: freeL all rest).head? = if (wishFrom 0 all x).isNone then some x else freeFrom all rest
  cases hb : busy all x with
  | false => rw [(busy_iff hnd x).mp hb]; rfl
  | true =>
   have hn : (wishFrom 0 all x).isNone = false := by
    cases z : wishFrom 0 all x with
    | none => rw [(busy_iff hnd x).mpr z] at hb; cases hb
    | some _ => rfl
   rw [hn]
   exact freeL_head hnd rest
theorem freeL_snoc (all : List (List Str)) (r : List Str) : ∀ rest : List (List Str), freeL all (rest ++ [r]) = freeL all rest ++ freeL all [r]
 | [] => rfl
 | [] :: rest => freeL_snoc all r rest
 | (x :: t) :: rest => by
  show (if busy all x then freeL all (rest ++ [r]) else x :: freeL all (rest ++ [r])) = (if busy all x then freeL all rest else x :: freeL all rest) ++ freeL all [r]
  rw [freeL_snoc all r rest]
  split <;> rfl
theorem freeL_len (all : List (List Str)) : ∀ rest : List (List Str), (freeL all rest).length <= rest.length
 | [] => Nat.le_refl _
 | [] :: rest => Nat.le_succ_of_le (freeL_len all rest)
 | (x :: t) :: rest => by
  have := freeL_len all rest
  show (if busy all x then freeL all rest else x :: freeL all rest).length <= rest.length + 1
  split
  ·omega
  ·rw [List.length_cons]; omega
theorem freeL_mem {all : List (List Str)} {n : Str} : ∀ {rest : List (List Str)}, n ∈ freeL all rest -> ∃ r ∈ rest, n ∈ r
 | [], h => by simp [freeL] at h
 | [] :: rest, h => let ⟨r, hr, e⟩ := freeL_mem (rest := rest) h; ⟨r, List.mem_cons_of_mem _ hr, e⟩
 | (x :: t) :: rest, h => by
  have h : n ∈ (if busy all x then freeL all rest else x :: freeL all rest) := h
  split at h
  ·obtain ⟨r, hr, e⟩ := freeL_mem (rest := rest) h
   exact ⟨r, List.mem_cons_of_mem _ hr, e⟩
  ·rcases List.mem_cons.mp h with rfl | h
   ·exact ⟨_, List.mem_cons_self, List.mem_cons_self⟩
   ·obtain ⟨r, hr, e⟩ := freeL_mem (rest := rest) h
    exact ⟨r, List.mem_cons_of_mem _ hr, e⟩
theorem nd_without {n : Str} {rest : List (List Str)} (h : ∀ r ∈ rest, r.Nodup) : ∀ r ∈ L2.without n rest, r.Nodup := by
 intro r hr
 obtain ⟨q, hq, rfl⟩ := List.mem_map.mp hr
 exact (h q hq).filter _
structure LInv (H : Hp) (rows : List (List Str)) (l fa : Addr) (m : Nat) (σ : St) (H1 : Hp) (rest : List (List Str)) (lv : List V) (acc : List Str) (la : Addr) : Prop where
 st : ∃ v3 : Option V, σ = [some (.ref l), some (.ref la), some (.ref fa), v3]
 mm : m = total rest
 hla : H1 la = some (.lst lv)
 rr : RowsA (fun a => a ≠ fa) H1 lv rest
 ne : la ≠ fa
 hfa : H1 fa = some (.lst (acc.map V.str))
 sm : Small rest
 nd : ∀ r ∈ rest, r.Nodup
 same : Same H H1
 lim : acc.length + total rest <= 1000
 eq : mergeG (total rows) rows = (mergeG (total rest) rest).map (acc ++ ·)
abbrev nLM : List Str := ["_law_rows", "_law_left", "_law_found", "_law_free"]
theorem scLM : FnScope nLM ["_law_rows"] (defScope sLMerged) := ⟨rfl, rfl, rfl, by decide +kernel, rfl, by decide +kernel, by decide +kernel⟩
def whileTest (s : Stmt) : Expr := match s with | .While t _ _ _ => t | _ => .Constant .none 0 ⟨0, 0, 0, 0⟩
def compIf (e : Expr) : Expr := match e with | .ListComp _ (⟨_, _, i :: _, _⟩ :: _) _ _ => i | _ => .Constant .none 0 ⟨0, 0, 0, 0⟩
def boolAt (e : Expr) (i : Nat) : Expr := match e with | .BoolOp _ es _ => es.getD i (.Constant .none 0 ⟨0, 0, 0, 0⟩) | _ => .Constant .none 0 ⟨0, 0, 0, 0⟩
def notV (e : Expr) : Expr := match e with | .UnaryOp _ x _ => x | _ => .Constant .none 0 ⟨0, 0, 0, 0⟩
abbrev sW : Stmt := bodyAt (defBody sLMerged) 2
abbrev eA : Expr := asgV (bodyAt (defBody sLMerged) 0)
abbrev eB : Expr := arg0 (whileTest sW)
abbrev eC : Expr := asgV (bodyAt (whileBody sW) 0)
abbrev eD : Expr := arg0 (notV (boolAt (compIf eC) 1))
abbrev eE : Expr := asgV (bodyAt (whileBody sW) 3)
theorem csA : CompScope nLM (defScope sLMerged) ["_law_row"] [none] (compSc eA) := ⟨rfl, by decide +kernel, by decide +kernel, rfl, fv_of (by decide +kernel), by decide +kernel⟩
theorem csB : CompScope nLM (defScope sLMerged) ["_law_row"] [none] (compSc eB) := ⟨rfl, by decide +kernel, by decide +kernel, rfl, fv_of (by decide +kernel), by decide +kernel⟩
theorem csC : CompScope nLM (defScope sLMerged) ["_law_row", "_law_left"] [none, some 1] (compSc eC) := ⟨rfl, by decide +kernel, by decide +kernel, rfl, fv_of (by decide +kernel), by decide +kernel⟩
theorem csD {env : Env} : CompScope ["_law_row", "_law_left"] (relabel (compSc eC) env) ["_law_other", "_law_row"] [none, some 0] (compSc eD) := nest rfl (by decide +kernel) (by decide +kernel) rfl (by decide +kernel) (by decide +kernel)
theorem ndD : (["_law_other", "_law_row"] : List Str).Nodup := by decide +kernel
theorem csE : CompScope nLM (defScope sLMerged) ["_law_row", "_law_free"] [none, some 3] (compSc eE) := ⟨rfl, by decide +kernel, by decide +kernel, rfl, fv_of (by decide +kernel), by decide +kernel⟩
theorem csG {env : Env} : CompScope ["_law_row", "_law_free"] (relabel (compSc eE) env) ["_law_name", "_law_free"] [none, some 1] (compSc (eltOf eE)) := nest rfl (by decide +kernel) (by decide +kernel) rfl (by decide +kernel) (by decide +kernel)
theorem ndG : (["_law_name", "_law_free"] : List Str).Nodup := by decide +kernel
section
variable {P : Program} {w : World} {K : Frag} {mg : Str -> Option Value} {base : Heap} {f : Addr} {fd : FuncData}
@[irreducible] def spLM : Sp := fun vs H Q _ => ∃ (l : Addr) (ws : List V) (rows : List (List Str)), vs = [.ref l] /\ H l = some (.lst ws) /\ RowsA (fun _ => True) H ws rows /\ Small rows /\ (∀ r ∈ rows, r.Nodup) /\
 (mergeG (total rows) rows = none -> ∀ H', Same H H' -> Q .non H') /\ (∀ o, mergeG (total rows) rows = some o -> ∀ p H', H p = none -> Same H H' -> H' p = some (.lst (o.map V.str)) -> Q (.ref p) H')
theorem ok_lm (F : Fun K "_law_merged" "_law_merged" sLMerged f fd) (B : Blt mg) : FnOk P w K mg base CX0 1 f fd ["_law_rows"] spLM := by
 refine F.ok scLM (fun vs H Q E h => ?_) (fun cdv A outer s H vs Q E hr h => ?_)
 ·unfold spLM at h; obtain ⟨l, ws, rows, rfl, _⟩ := h; rfl
 ·unfold spLM at h
  obtain ⟨l, ws, rows, rfl, hl, hR, hS, hnd, qn, qs⟩ := h
  have hu := hr.units
  refine ⟨_, pss_cons (ps_set (i := 1) scLM.nd rfl (Or.inr rfl) (pe_comp rfl csA (pi_list (pv 0)) (fun s H fp => ⟨pg_name (i := 0) csA.nd rfl (Or.inl rfl), pifs_nil, pe_callTy (call_list_K K rfl) rfl B.list boot_list (pa_cons (pv 0) pa_nil)⟩)))
   (pss_cons (ps_set (i := 2) scLM.nd rfl (Or.inl rfl) (pe_lst pa_nil))
   (pss_cons (ps_while PassesOwn.never (pt_truth (pe_callB (call_anyB rfl) rfl B.any boot_any (pa_cons (pe_comp rfl csB (pi_list (pv 1)) (fun s H fp => ⟨pg_name (i := 0) csB.nd rfl (Or.inl rfl), pifs_nil, pe_cmpR (op_neD hu) (pv 0) (pe_lst pa_nil) (nomark _)⟩)) pa_nil)) (fun _ => rfl))
    (pss_cons (ps_set (i := 3) scLM.nd rfl (Or.inr rfl) (pe_comp rfl csC (pi_list (pv 1)) (fun s H fp => ⟨pg_name (i := 0) csC.nd rfl (Or.inr rfl),
      pifs_one (PW.pt (pw_and (pt_cmpR (op_neD hu) (pv 0) (pe_lst pa_nil) (nomark _)) (pw_and1 (pt_not (pt_val (pe_callB (call_anyB_K K rfl rfl) rfl B.any boot_any (pa_cons (pe_comp rfl csD (pi_list_K K rfl (pv 1)) (fun s H fp => ⟨pg_name (i := 0) ndD rfl (Or.inl rfl), pifs_nil, pe_cmpR (op_in_K K rfl) (pe_ix (ix_list_K K rfl) (pv 1) pe_int (fun _ _ => rfl)) (pe_slice (sl_list_K K rfl) (pv 0) (po_some pe_int) po_none) rfl⟩)) pa_nil))))))),
      pe_ix (ix_list_K K rfl) (pv 0) pe_int (fun _ _ => rfl)⟩)))
    (pss_cons (ps_if (pt_cmpR (op_eqD hu) (pv 3) (pe_lst pa_nil) (nomark _)) (pss_one (ps_ret pe_non)) pss_nil)
    (pss_cons (ps_expr (pe_bm PySem.F.plainAttrs_list PySem.F.slot_list_append PySem.F.type_list_append mt_append (pv 2) (pa_cons (pe_ix ix_list (pv 3) pe_int (fun _ _ => rfl)) pa_nil)))
    (pss_one (ps_set (i := 1) scLM.nd rfl (Or.inr rfl) (pe_comp rfl csE (pi_list (pv 1)) (fun s H fp => ⟨pg_name (i := 0) csE.nd rfl (Or.inl rfl), pifs_nil,
      pe_comp rfl csG (pi_list_K K rfl (pv 0)) (fun s H fp => ⟨pg_name (i := 0) ndG rfl (Or.inl rfl), pifs_one (pt_cmpR op_ne (pv 0) (pe_ix (ix_list_K K rfl) (pv 1) pe_int (fun _ _ => rfl)) (nomark _)), pv 0⟩)⟩))))))))
   (pss_one (ps_ret (pv 2))))), ?_⟩
  refine ⟨_, rfl, l, rfl, ⟨_, SqL.of hl⟩, fun la0 hla0 => ?_⟩
  refine comp_list (xs := ws) (fun i ys τ H1 => ∃ t0 : Option V, τ = [t0] /\ H1 la0 = some (.lst ys) /\ Same H H1 /\ RowsA (fun a => a ≠ la0) H1 ys (rows.take i)) ⟨none, rfl, upd_same, same_new hla0, .nil⟩ (fun i ys τ H1 ⟨_, _, z1, z2, _⟩ => ⟨z1, SqL.of (z2 _ _ hl)⟩) ?_ ?_
  ·rintro i x ys τ H1 hx ⟨t0, rfl, h1, S1, hR1⟩
   obtain ⟨a, r, rfl, hri, _, har⟩ := rowsA_get hR hx
   have hlt : i < ws.length := (List.getElem?_eq_some_iff.mp hx).1
   have tk : rows.take (i + 1) = rows.take i ++ [r] := by rw [List.take_succ, hri]; rfl
   refine ⟨_, rfl, a, _, rfl, .inl (SqL.of (S1 _ _ har)), fun c hc => ?_⟩
   have Sc := same_new (o := .lst (r.map V.str)) hc
   have ncl : c ≠ la0 := Ne.symm (ne_of_none h1 hc)
   refine ⟨Sc _ _ h1, ?_, cw_next hlt ⟨_, rfl, upd_same, fun b o hb => ?_, ?_⟩⟩
   ·have h2 := rowsA_length hR1
    have h3 := hS.few
    rw [List.length_take] at h2
    rw [sizeLine_eq]; omega
   ·rw [upd_ne (ne_of_none hb hla0)]; exact Sc _ _ (S1 b o hb)
   ·rw [tk]
    refine rowsA_append (rowsA_mono hR1 fun b xs nb hb => ⟨nb, by rw [upd_ne nb]; exact Sc _ _ hb⟩) ncl ?_
    rw [upd_ne ncl]; exact upd_same
  ·rintro lv0 τ H1 ⟨t0, rfl, h1, S1, hR1⟩
   rw [rowsA_length hR, List.take_length] at hR1
   refine ⟨Nat.zero_le _, fun fa hfa => ?_⟩
   have Sf := same_new (o := .lst []) hfa
   have hfaH : H fa = none := S1.free hfa
   refine ⟨fun m σ H2 => ∃ rest lv acc la, LInv H rows l fa m σ H2 rest lv acc la, ⟨_, rows, lv0, [], la0, ⟨none, rfl⟩, rfl, Sf _ _ h1, rowsA_mono hR1 fun b xs nb hb => ⟨ne_of_none hb hfa, Sf _ _ hb⟩, ne_of_none h1 hfa, upd_same, hS, hnd, S1.trans Sf, by have := small_total hS.short; have := hS.few; simp only [List.length_nil]; omega, by cases mergeG (total rows) rows <;> rfl⟩, ?_⟩
   rintro m σ H2 ⟨rest, lv, acc, la, R⟩
   obtain ⟨v3, rfl⟩ := R.st
   refine ⟨_, rfl, la, rfl, ⟨_, SqL.of R.hla⟩, fun pb hpb => ?_⟩
   refine comp_list (xs := lv) (fun i ys τ H3 => ∃ t0 : Option V, τ = [t0] /\ ys = ((rest.take i).map fun r => !r.isEmpty).map V.bl /\ H3 pb = some (.lst ys) /\ Same H2 H3) ⟨none, rfl, rfl, upd_same, same_new hpb⟩ (fun i ys τ H3 ⟨_, _, _, z1, z2⟩ => ⟨z1, SqL.of (z2 _ _ R.hla)⟩) ?_ ?_
   ·rintro i x ys τ H3 hx ⟨t0, rfl, rfl, h3, S3⟩
    obtain ⟨a, r, rfl, hri, _, har⟩ := rowsA_get R.rr hx
    have hlt : i < lv.length := (List.getElem?_eq_some_iff.mp hx).1
    have tk : rest.take (i + 1) = rest.take i ++ [r] := by rw [List.take_succ, hri]; rfl
    have hrm := List.mem_of_getElem? hri
    refine ⟨_, rfl, Nat.zero_le _, fun z hz => ?_⟩
    have Sz := same_new (o := .lst []) hz
    refine ne_nil (Sz _ _ (S3 _ _ har)) upd_same (R.sm.nm r hrm) ?_
    refine ⟨Sz _ _ h3, ?_, cw_next hlt ⟨_, rfl, by rw [tk, List.map_append, List.map_append]; rfl, upd_same, fun b o hb => by rw [upd_ne (ne_of_none hb hpb)]; exact Sz _ _ (S3 b o hb)⟩⟩
    have h4 := R.sm.few
    rw [List.length_map, List.length_map, List.length_take, sizeLine_eq]; omega
   ·rintro bs τ H3 ⟨t0, rfl, rfl, h3, S3⟩
    rw [rowsA_length R.rr, List.take_length] at h3
    refine ⟨pb, _, rfl, SqL.of h3, _, rfl, ?_⟩
    have ean : ((rest.map fun r => !r.isEmpty).any id) = rest.any fun r => !r.isEmpty := by rw [List.any_map]; rfl
    rw [ean]
    have hla3 := S3 _ _ R.hla
    have hfa3 := S3 _ _ R.hfa
    have rr3 : RowsA (fun a => a ≠ fa) H3 lv rest := rowsA_mono R.rr fun b xs nb hb => ⟨nb, S3 _ _ hb⟩
    have SH3 := R.same.trans S3
    refine ite2 (fun hA => ?_) (fun hA => ?_)
    ·refine ⟨fun σ' H' => ∃ m', m' < m /\ ∃ rest lv acc la, LInv H rows l fa m' σ' H' rest lv acc la, fun _ _ z => z, ?_⟩
     refine ⟨_, rfl, la, rfl, ⟨_, SqL.of hla3⟩, fun pc hpc => ?_⟩
     refine comp_list (xs := lv) (fun i ys τ H4 => ∃ t0 : Option V, τ = [t0, some (.ref la)] /\ ys = (freeL rest (rest.take i)).map V.str /\ H4 pc = some (.lst ys) /\ Same H3 H4) ⟨none, rfl, rfl, upd_same, same_new hpc⟩ (fun i ys τ H4 ⟨_, _, _, z1, z2⟩ => ⟨z1, SqL.of (z2 _ _ hla3)⟩) ?_ ?_
     ·rintro i x ys τ H4 hx ⟨t0, rfl, rfl, h4, S4⟩
      obtain ⟨a, r, rfl, hri, _, har⟩ := rowsA_get rr3 hx
      have hlt : i < lv.length := (List.getElem?_eq_some_iff.mp hx).1
      have tk : rest.take (i + 1) = rest.take i ++ [r] := by rw [List.take_succ, hri]; rfl
      have hrm := List.mem_of_getElem? hri
      have har4 := S4 _ _ har
      refine ⟨_, rfl, Nat.zero_le _, fun z hz => ?_⟩
      have Sz := same_new (o := .lst []) hz
      refine ne_nil (Sz _ _ har4) upd_same (R.sm.nm r hrm) ⟨_, rfl, ?_⟩
      have h5 := Sz _ _ h4
      cases r with
      | nil => exact cw_next hlt ⟨_, rfl, by rw [tk, freeL_snoc]; show _ = (_ ++ []).map _; rw [List.append_nil], h5, S4.trans Sz⟩
      | cons y t =>
       refine ⟨_, rfl, la, rfl, ⟨_, SqL.of (Sz _ _ (S4 _ _ hla3))⟩, fun pd hpd => ?_⟩
       have npd : pc ≠ pd := ne_of_none h5 hpd
       refine comp_list (xs := lv) (fun j ys τ H6 => ∃ t1 : Option V, τ = [t1, some (.ref a)] /\ ys = ((rest.take j).map fun o => decide (y ∈ o.drop 1)).map V.bl /\ H6 pd = some (.lst ys) /\ Same (upd H4 z (.lst [])) H6) ⟨none, rfl, rfl, upd_same, same_new hpd⟩ (fun j ys τ H6 ⟨_, _, _, z1, z2⟩ => ⟨z1, SqL.of (z2 _ _ (Sz _ _ (S4 _ _ hla3)))⟩) ?_ ?_
       ·rintro j x ys τ H6 hxj ⟨t1, rfl, rfl, h6, S6⟩
        obtain ⟨b, o, rfl, hoj, _, hob⟩ := rowsA_get rr3 hxj
        have hjl : j < lv.length := (List.getElem?_eq_some_iff.mp hxj).1
        have tkj : rest.take (j + 1) = rest.take j ++ [o] := by rw [List.take_succ, hoj]; rfl
        have S36 := S4.trans (Sz.trans S6)
        refine ⟨_, rfl, a, _, 0, .str y, rfl, rfl, SqL.of (S36 _ _ har), at0, ?_⟩
        refine ⟨_, rfl, _, rfl, b, _, rfl, SqL.of (S36 _ _ hob), fun p2 hp2 => ?_⟩
        have ec : cutV (o.map V.str) (some 1) none = (o.drop 1).map V.str := by
         rw [show (1 : Int) = ((1 : Nat) : Int) from rfl, cut_from, List.map_drop]
        rw [ec]
        have S7 := same_new (o := .lst ((o.drop 1).map V.str)) hp2
        refine ⟨p2, _, rfl, .inl (SqL.of upd_same), rfl, flat_strs _, ?_⟩
        rw [if_neg Bool.false_ne_true, inV_strs]
        refine ⟨S7 _ _ h6, ?_, cw_next hjl ⟨_, rfl, by rw [tkj, List.map_append, List.map_append]; rfl, upd_same, fun c u hc => by rw [upd_ne (ne_of_none hc hpd)]; exact S7 _ _ (S6 c u hc)⟩⟩
        have h8 := R.sm.few
        rw [List.length_map, List.length_map, List.length_take, sizeLine_eq]; omega
       ·rintro bs2 τ H6 ⟨t1, rfl, rfl, h6, S6⟩
        rw [rowsA_length rr3, List.take_length] at h6
        refine ⟨pd, _, rfl, SqL.of h6, _, rfl, ?_⟩
        have eb : ((rest.map fun o => decide (y ∈ o.drop 1)).any id) = busy rest y := by unfold busy; rw [List.any_map]; rfl
        rw [eb]
        have S46 := Sz.trans S6
        cases hb : busy rest y with
        | true =>
         refine cw_next hlt ⟨_, rfl, ?_, S6 _ _ h5, S4.trans S46⟩
         rw [tk, freeL_snoc]
         show _ = (_ ++ (if busy rest y then freeL rest [] else y :: freeL rest [])).map _
         rw [hb]; show _ = (_ ++ []).map _; rw [List.append_nil]
        | false =>
         refine ⟨_, rfl, a, _, 0, .str y, rfl, rfl, SqL.of (S46 _ _ har4), at0, S6 _ _ h5, ?_, cw_next hlt ⟨_, rfl, ?_, upd_same, fun c u hc => by rw [upd_ne (ne_of_none hc hpc)]; exact S46 _ _ (S4 c u hc)⟩⟩
         ·have h8 := freeL_len rest (rest.take i)
          have h9 := R.sm.few
          rw [List.length_take] at h8
          rw [List.length_map, sizeLine_eq]; omega
         ·rw [tk, freeL_snoc]
          show _ = (_ ++ (if busy rest y then freeL rest [] else y :: freeL rest [])).map _
          rw [hb, List.map_append]; rfl
     ·rintro fr τ H4 ⟨t0, rfl, rfl, h4, S4⟩
      rw [rowsA_length rr3, List.take_length] at h4
      have fnm : ∀ x ∈ freeL rest rest, Nm x := fun x hx => by
       obtain ⟨r, hr, e⟩ := freeL_mem hx
       exact R.sm.nm r hr x e
      have hfh := freeL_head R.nd rest
      refine ⟨_, rfl, Nat.zero_le _, fun z hz => ?_⟩
      have Sz := same_new (o := .lst []) hz
      refine eq_nil (Sz _ _ h4) upd_same fnm ⟨_, rfl, ?_⟩
      have hlf : leastFree rest = (freeL rest rest).head? := hfh.symm
      have SH5 := SH3.trans (S4.trans Sz)
      have h5 := Sz _ _ h4
      have hla5 := Sz _ _ (S4 _ _ hla3)
      have hfa5 := Sz _ _ (S4 _ _ hfa3)
      generalize freeL rest rest = fr at hlf h5 fnm ⊢
      cases fr with
      | nil =>
       refine qn ?_ _ SH5
       rw [R.eq, merge_none hA hlf]; rfl
      | cons n ft =>
       have e : leastFree rest = some n := hlf
       have lt := total_without_lt (least_mem e)
       generalize hG : upd H4 z (.lst []) = G at SH5 h5 hla5 hfa5 Sz ⊢
       have rrG : RowsA (fun a => a ≠ fa) G lv rest := rowsA_mono rr3 fun b xs nb hb => ⟨nb, Sz _ _ (S4 _ _ hb)⟩
       refine ⟨_, rfl, .inl ⟨rfl, _, SqL.of hfa5⟩, _, rfl, pc, _, 0, .str n, rfl, rfl, SqL.of h5, at0, fa, _, _, rfl, rfl, hfa5, by have := R.lim; rw [List.length_map, sizeLine_eq]; omega, ?_⟩
       have npf : pc ≠ fa := Ne.symm (ne_of_none hfa3 hpc)
       have h6 : (upd G fa (.lst (acc.map V.str ++ [.str n]))) pc = some (.lst ((n :: ft).map V.str)) := by rw [upd_ne npf]; exact h5
       have hla6 : (upd G fa (.lst (acc.map V.str ++ [.str n]))) la = some (.lst lv) := by rw [upd_ne R.ne]; exact hla5
       have hfa6 : (upd G fa (.lst (acc.map V.str ++ [.str n]))) fa = some (.lst ((acc ++ [n]).map V.str)) := by rw [upd_same, List.map_append]; rfl
       have SH6 : Same H (upd G fa (.lst (acc.map V.str ++ [.str n]))) := fun b o hb => by rw [upd_ne (ne_of_none hb hfaH)]; exact SH5 b o hb
       have rr6 : RowsA (fun a => a ≠ fa) (upd G fa (.lst (acc.map V.str ++ [.str n]))) lv rest := rowsA_mono rrG fun b xs nb hb => ⟨nb, by rw [upd_ne nb]; exact hb⟩
       generalize upd G fa (.lst (acc.map V.str ++ [.str n])) = G6 at h6 hla6 hfa6 SH6 rr6 ⊢
       refine ⟨_, rfl, la, rfl, ⟨_, SqL.of hla6⟩, fun le hle => ?_⟩
       have nle : le ≠ fa := Ne.symm (ne_of_none hfa6 hle)
       refine comp_list (xs := lv) (fun i ys τ H7 => ∃ t0 : Option V, τ = [t0, some (.ref pc)] /\ H7 le = some (.lst ys) /\ Same G6 H7 /\ RowsA (fun a => a ≠ fa /\ a ≠ le) H7 ys (L2.without n (rest.take i))) ⟨none, rfl, upd_same, same_new hle, .nil⟩ (fun i ys τ H7 ⟨_, _, z1, z2, _⟩ => ⟨z1, SqL.of (z2 _ _ hla6)⟩) ?_ ?_
       ·rintro i x ys τ H7 hx ⟨t0, rfl, h7, S7, hR7⟩
        obtain ⟨a, r, rfl, hri, _, har⟩ := rowsA_get rr6 hx
        have hlt : i < lv.length := (List.getElem?_eq_some_iff.mp hx).1
        have tk : rest.take (i + 1) = rest.take i ++ [r] := by rw [List.take_succ, hri]; rfl
        have hrm := List.mem_of_getElem? hri
        have har7 := S7 _ _ har
        have hpc7 := S7 _ _ h6
        refine ⟨_, rfl, a, rfl, ⟨_, SqL.of har7⟩, fun b1 hb1 => ?_⟩
        have nab : a ≠ b1 := ne_of_none har7 hb1
        have npb : pc ≠ b1 := ne_of_none hpc7 hb1
        have nbl : b1 ≠ le := Ne.symm (ne_of_none h7 hb1)
        have nbf : b1 ≠ fa := Ne.symm (ne_of_none (S7 _ _ hfa6) hb1)
        refine comp_list (xs := r.map V.str) (fun j zs τ' H8 => ∃ t1 : Option V, τ' = [t1, some (.ref pc)] /\ zs = ((r.take j).filter fun y => !decide (y = n)).map V.str /\ H8 = upd H7 b1 (.lst zs)) ⟨none, rfl, rfl, rfl⟩ (fun j zs τ' H8 ⟨_, _, _, z⟩ => by rw [z]; exact ⟨upd_same, SqL.of (by rw [upd_ne nab]; exact har7)⟩) ?_ ?_
        ·rintro j x zs τ' H8 hx' ⟨t1, rfl, rfl, rfl⟩
         have hjl : j < (r.map V.str).length := (List.getElem?_eq_some_iff.mp hx').1
         have hjr : j < r.length := by simpa using hjl
         obtain rfl : V.str r[j] = x := by simpa [hjr] using hx'
         have tkj : r.take (j + 1) = r.take j ++ [r[j]] := by rw [List.take_succ, List.getElem?_eq_getElem hjr]; rfl
         refine ⟨_, rfl, _, rfl, pc, _, 0, .str n, rfl, rfl, SqL.of (by rw [upd_ne npb]; exact hpc7), at0, rfl, _, rfl, ?_⟩
         refine ite2 (fun hne => ?_) (fun hne => ?_)
         ·have hne' : r[j] ≠ n := fun z => by rw [z] at hne; simp at hne
          refine ⟨_, rfl, upd_same, ?_, cw_next hjl ⟨_, rfl, ?_, by rw [upd_upd]⟩⟩
          ·have h1 := List.length_filter_le (fun y => !decide (y = n)) (r.take j)
           have h2 : (r.take j).length <= r.length := by rw [List.length_take]; omega
           have h3 := R.sm.short r hrm
           rw [List.length_map, sizeLine_eq]; omega
          ·rw [tkj, List.filter_append, List.map_append, List.filter_cons_of_pos (by simpa using hne')]; rfl
         ·have hy : r[j] = n := by
           by_cases z : r[j] = n
           ·exact z
           ·exact absurd (by simp [z]) hne
          refine cw_next hjl ⟨_, rfl, ?_, rfl⟩
          rw [tkj]; simp [hy]
        ·rintro zs τ' H8 ⟨t1, rfl, rfl, rfl⟩
         rw [List.length_map, List.take_length]
         have Sb := same_new (o := .lst ((r.filter fun y => !decide (y = n)).map V.str)) hb1
         refine ⟨Sb _ _ h7, ?_, cw_next hlt ⟨_, rfl, upd_same, fun b o hb => ?_, ?_⟩⟩
         ·have h1 := rowsA_length hR7
          have h2 : (L2.without n (rest.take i)).length <= rest.length := by unfold L2.without; rw [List.length_map, List.length_take]; omega
          have h3 := R.sm.few
          rw [sizeLine_eq]; omega
         ·rw [upd_ne (ne_of_none hb hle)]; exact Sb _ _ (S7 b o hb)
         ·have e1 : L2.without n (rest.take (i + 1)) = L2.without n (rest.take i) ++ [r.filter fun y => !decide (y = n)] := by rw [tk]; unfold L2.without; rw [List.map_append]; rfl
          rw [e1]
          refine rowsA_append (rowsA_mono hR7 fun b xs nb hb => ⟨nb, by rw [upd_ne nb.2]; exact Sb _ _ hb⟩) ⟨nbf, nbl⟩ ?_
          rw [upd_ne nbl]; exact upd_same
       ·rintro ys τ H7 ⟨t0, rfl, h7, S7, hR7⟩
        rw [rowsA_length rr6, List.take_length] at hR7
        refine ⟨_, by rw [R.mm]; exact lt, L2.without n rest, ys, acc ++ [n], le, ⟨_, rfl⟩, rfl, h7, rowsA_mono hR7 fun b xs nb hb => ⟨nb.1, hb⟩, nle, S7 _ _ hfa6, without_small R.sm, nd_without R.nd, SH6.trans S7, ?_, ?_⟩
        ·have := R.lim; rw [List.length_append, List.length_singleton]; omega
        ·rw [R.eq, merge_some hA e, Option.map_map]
         congr 1
         funext z
         simp
    ·refine ⟨_, rfl, qs acc ?_ fa H3 hfaH SH3 hfa3⟩
     rw [R.eq, merge_stop (by simpa using hA)]
     show some (acc ++ []) = some acc
     rw [List.append_nil]
end
end K35
namespace K35
open PySem L2 PySem.W HT
structure Blt2 (mg : Str -> Option Value) : Prop where
 isi : mg "isinstance" = none
 str : mg "str" = none
 dict : mg "dict" = none
 sorted : mg "sorted" = none
theorem boot_isi : bootBuiltins "isinstance" = some (.builtin "isinstance") := by decide +kernel
theorem boot_str : bootBuiltins "str" = some (.type "str") := by decide +kernel
theorem boot_dict : bootBuiltins "dict" = some (.type "dict") := by decide +kernel
theorem boot_sorted : bootBuiltins "sorted" = some (.builtin "sorted") := by decide +kernel
theorem boot_all : bootBuiltins "all" = some (.builtin "all") := by decide +kernel
theorem call_allB_K {X : Cx} (K : Frag) (h : X.K = K) (hc : X.calm = true) : CallR X (.builtin "all") (fun xs H Q => ∃ (p : Addr) (bs : List Bool), xs = [.ref p] /\ SqL K H p (bs.map V.bl) /\ Q (.bl (bs.all id)) H) := by subst h; exact call_allB hc
theorem ite_ff {A B : Prop} {k : Bool} (hk : k = false) (h : B) : if k = true then A else B := by subst hk; exact h
theorem ite_tt {A B : Prop} {k : Bool} (hk : k = true) (h : A) : if k = true then A else B := by subst hk; exact h
section
variable {P : Program} {w : World} {K : Frag} {mg : Str -> Option Value} {base : Heap} {f : Addr} {fd : FuncData}
@[irreducible] def spName : Sp := fun vs H Q _ => ∃ x : Str, vs = [.str x] /\ Nm x /\ ∀ H', Same H H' -> Q (.bl true) H'
theorem name_sp {x : Str} {H : Hp} {Q : VK} {E : XK} (h : Nm x) (q : ∀ H', Same H H' -> Q (.bl true) H') : spName [.str x] H Q E := by unfold spName; exact ⟨x, rfl, h, q⟩
theorem scName : FnScope ["thing"] ["thing"] (defScope sIsName) := ⟨rfl, rfl, rfl, by decide +kernel, rfl, by decide +kernel, by decide +kernel⟩
abbrev eSig : Expr := arg0 (retV (bodyAt (defBody sIsName) 1))
theorem csSig : CompScope ["thing"] (defScope sIsName) ["sign"] [none] (compSc eSig) := ⟨rfl, by decide +kernel, by decide +kernel, rfl, fv_of (by decide +kernel), by decide +kernel⟩
theorem ok_name (F : Fun K "is_name" "is_name" sIsName f fd) (B : Blt mg) (B2 : Blt2 mg) : FnOk P w K mg base CX0 1 f fd ["thing"] spName := by
 refine F.ok scName (fun vs H Q E h => ?_) (fun cdv A outer s H vs Q E hr h => ?_)
 ·unfold spName at h; obtain ⟨x, rfl, _⟩ := h; rfl
 ·unfold spName at h
  obtain ⟨x, rfl, hx, q⟩ := h
  have hu := hr.units
  refine ⟨_, pss_cons (ps_if (PW.pt (pw_or (pt_not (pt_val (pe_callB call_isi rfl B2.isi boot_isi (pa_cons (pv 0) (pa_cons (pe_bltn (v := .ty "str") rfl B2.str boot_str rfl) pa_nil)))))
     (pw_or1 (pt_not (pt_chain op_le op_le pe_int (pe_callB call_len_str rfl B.len boot_len (pa_cons (pv 0) pa_nil)) pe_int))))) (pss_one (ps_ret pe_bl)) pss_nil)
   (pss_one (ps_ret (pe_callB (call_allB rfl) rfl B.all boot_all (pa_cons (pe_comp rfl csSig (pi_str (pv 0)) (fun s H fp => ⟨pg_name (i := 0) csSig.nd rfl (Or.inl rfl), pifs_nil, pe_chain op_le_str op_le_str pe_str (pv 0) pe_str⟩)) pa_nil)))), ?_⟩
  have hl1 := hx.lo
  have hl2 := hx.hi
  have hlc : x.cps.size <= 8 := hx.hi
  refine ⟨_, rfl, ⟨_, .inr ⟨"str", rfl⟩⟩, .str x, .ty "str", .type "str", .type "str", true, rfl, rfl, .inl (.str x), rfl, true, rfl, ?_⟩
  refine ⟨_, rfl, x, rfl, by rw [sizeLine_eq]; omega, 1, x.length, rfl, rfl, _, rfl, ?_⟩
  refine ite_tt (decide_eq_true (by omega)) ?_
  refine ⟨x.length, 8, rfl, rfl, _, rfl, ?_⟩
  have e8 : decide ((x.length : Int) <= 8) = true := decide_eq_true (by omega)
  rw [e8]
  refine ⟨_, rfl, x, rfl, fun p hp => ?_⟩
  refine comp_str (fun i ys τ H1 => ∃ t0 : Option V, τ = [t0] /\ ys = (List.replicate i true).map V.bl /\ H1 = upd H p (.lst ys)) ⟨none, rfl, rfl, rfl⟩ (fun i ys τ H1 ⟨_, _, _, z⟩ => by rw [z]; exact upd_same) ?_ ?_
  ·rintro i c ys τ H1 hc ⟨t0, rfl, rfl, rfl⟩
   have hil : i < x.cps.size := by
    obtain ⟨h, _⟩ := Array.getElem?_eq_some_iff.mp hc
    exact h
   have hcz := hx.az c (Array.mem_def.mp (Array.mem_of_getElem? hc))
   have e1 : (!decide ((⟨#[c]⟩ : Str).cps.toList < (Str.ofString "a").cps.toList)) = true := by
    have : ¬ ([c] < [97]) := by simp [List.cons_lt_cons_iff]; omega
    have hA : (Str.ofString "a").cps.toList = [97] := by decide +kernel
    rw [hA]; simpa using this
   have e2 : (!decide ((Str.ofString "z").cps.toList < (⟨#[c]⟩ : Str).cps.toList)) = true := by
    have : ¬ ([122] < [c]) := by simp [List.cons_lt_cons_iff]; omega
    have hA : (Str.ofString "z").cps.toList = [122] := by decide +kernel
    rw [hA]; simpa using this
   refine ⟨_, rfl, _, _, rfl, rfl, _, rfl, ite_tt e1 ⟨_, _, rfl, rfl, upd_same, by rw [List.length_map, List.length_replicate, sizeLine_eq]; omega, cw_next hil ⟨_, rfl, ?_, ?_⟩⟩⟩
   ·rw [e2, List.replicate_succ', List.map_append]; rfl
   ·rw [upd_upd]
  ·rintro ys τ H1 ⟨t0, rfl, rfl, rfl⟩
   refine ⟨p, _, rfl, SqL.of upd_same, ?_⟩
   have : (List.replicate x.cps.size true).all id = true := by simp
   rw [this]
   exact q _ (same_new hp)
@[irreducible] def spKind : Sp := fun vs H Q _ => ∃ (t : Addr) (o : Obj) (ws : List V) (kvs : List (Str × V)) (x : Str), vs = [.ref t, .str x] /\ H t = some (.frz o (.tup ws)) /\ o.dict = none /\ PairsV H ws kvs /\ (kvs.map (·.1)).Nodup /\ Nm x /\ x ∈ kvs.map (·.1) /\ ∀ H', Same H H' -> Q (.bl true) H'
theorem kind_sp {t : Addr} {o : Obj} {ws : List V} {kvs : List (Str × V)} {x : Str} {H : Hp} {Q : VK} {E : XK} (ht : H t = some (.frz o (.tup ws))) (ho : o.dict = none) (hp : PairsV H ws kvs) (nd : (kvs.map (·.1)).Nodup) (hx : Nm x) (hm : x ∈ kvs.map (·.1))
  (q : ∀ H', Same H H' -> Q (.bl true) H') : spKind [.ref t, .str x] H Q E := by unfold spKind; exact ⟨t, o, ws, kvs, x, rfl, ht, ho, hp, nd, hx, hm, q⟩
theorem scKind : FnScope ["family", "thing"] ["family", "thing"] (defScope sIsKind) := ⟨rfl, rfl, rfl, by decide +kernel, rfl, by decide +kernel, by decide +kernel⟩
theorem pair_val : ∀ {kvs : List (Str × V)} {x : Str}, x ∈ kvs.map (·.1) -> (valV (pairKV kvs) (Sum.inr x)).isSome = true
 | [], x, h => by simp at h
 | p :: kvs, x, h => by
  by_cases e : p.1 = x
  ·rw [show pairKV (p :: kvs) = (Sum.inr p.1, p.2) :: pairKV kvs from rfl, valV_pos (by rw [e])]; rfl
  ·rw [show pairKV (p :: kvs) = (Sum.inr p.1, p.2) :: pairKV kvs from rfl, valV_neg (fun z => e (Sum.inr.inj z))]
   refine pair_val ?_
   rcases List.mem_cons.mp h with z | z
   ·exact absurd z.symm e
   ·exact z
theorem ok_kind {fN : Addr} {fdN : FuncData} (F : Fun K "is_kind" "is_kind" sIsKind f fd) (B : Blt mg) (B2 : Blt2 mg) (FN : Fun K "is_name" "is_name" sIsName fN fdN) (bN : Binds K fdN ["thing"] []) (mN : mg "is_name" = some (.ref fN)) :
  FnOk P w K mg base CX0 2 f fd ["family", "thing"] spKind := by
 have GN : FnOk P w K mg base CX0 1 fN fdN ["thing"] spName := ok_name FN B B2
 refine F.ok scKind (fun vs H Q E h => ?_) (fun cdv A outer s H vs Q E hr h => ?_)
 ·unfold spKind at h; obtain ⟨t, o, ws, kvs, x, rfl, _⟩ := h; rfl
 ·unfold spKind at h
  obtain ⟨t, o, ws, kvs, x, rfl, ht, ho, hp, nd, hx, hm, q⟩ := h
  have hu := hr.units
  have hu1 := Nat.lt_of_le_of_lt (Nat.add_le_add_left (show 1 <= 64 by decide) _) hu
  refine ⟨_, pss_one (ps_ret (pe_and (pe_call GN hr rfl mN FN.kp bN .nil pass0 (pa_cons (pv 1) pa_nil)) (pe_one (pe_cmp (pc_din hu1 (pv 1) (pe_callTy (call_dictT rfl) rfl B2.dict boot_dict (pa_cons (pv 0) pa_nil))))))), ?_⟩
  refine ⟨_, rfl, name_sp hx fun H1 S1 => ⟨true, rfl, ?_⟩⟩
  refine ⟨_, rfl, _, rfl, t, o, ws, kvs, rfl, S1 _ _ ht, ho, hp.same S1, nd, fun d hd => ⟨d, _, rfl, DGet.k (k := Sum.inr x) upd_same, ?_⟩⟩
  rw [pair_val hm]
  exact q _ (S1.trans (same_new hd))
@[irreducible] def spCheck : Sp := fun vs H Q _ => ∃ (t : Addr) (o : Obj) (ws : List V) (kvs : List (Str × V)) (x : Str), vs = [.ref t, .str x] /\ H t = some (.frz o (.tup ws)) /\ o.dict = none /\ PairsV H ws kvs /\ (kvs.map (·.1)).Nodup /\ Nm x /\ x ∈ kvs.map (·.1) /\ ∀ H', Same H H' -> Q .non H'
theorem check_sp {t : Addr} {o : Obj} {ws : List V} {kvs : List (Str × V)} {x : Str} {H : Hp} {Q : VK} {E : XK} (ht : H t = some (.frz o (.tup ws))) (ho : o.dict = none) (hp : PairsV H ws kvs) (nd : (kvs.map (·.1)).Nodup) (hx : Nm x) (hm : x ∈ kvs.map (·.1))
  (q : ∀ H', Same H H' -> Q .non H') : spCheck [.ref t, .str x] H Q E := by unfold spCheck; exact ⟨t, o, ws, kvs, x, rfl, ht, ho, hp, nd, hx, hm, q⟩
theorem scCheck : FnScope ["family", "thing"] ["family", "thing"] (defScope sCheckK) := ⟨rfl, rfl, rfl, by decide +kernel, rfl, by decide +kernel, by decide +kernel⟩
theorem ok_check {fK : Addr} {fdK : FuncData} (F : Fun K "check_kind" "check_kind" sCheckK f fd) (FK : Fun K "is_kind" "is_kind" sIsKind fK fdK) (bK : Binds K fdK ["family", "thing"] []) (mK : mg "is_kind" = some (.ref fK)) (GK : FnOk P w K mg base CX0 2 fK fdK ["family", "thing"] spKind) :
  FnOk P w K mg base CX0 3 f fd ["family", "thing"] spCheck := by
 refine F.ok scCheck (fun vs H Q E h => ?_) (fun cdv A outer s H vs Q E hr h => ?_)
 ·unfold spCheck at h; obtain ⟨t, o, ws, kvs, x, rfl, _⟩ := h; rfl
 ·unfold spCheck at h
  obtain ⟨t, o, ws, kvs, x, rfl, ht, ho, hp, nd, hx, hm, q⟩ := h
  refine ⟨_, pss_one (ps_if (pt_not (pt_val (pe_call GK hr rfl mK FK.kp bK .nil pass0 (pa_cons (pv 0) (pa_cons (pv 1) pa_nil))))) pss_never pss_nil), ?_⟩
  exact ⟨_, rfl, _, rfl, kind_sp ht ho hp nd hx hm fun H1 S1 => ⟨true, rfl, q H1 S1⟩⟩
end
end K35
namespace K35
open PySem L2 PySem.W HT
theorem comp_getT {K : Frag} {a d p : Addr} {ps : List Str} {kvs : List (Key × V)} {g : Str -> V} {H : Hp} {Q : VK} (ha : H a = some (.tup (ps.map V.str))) (hd : H d = some (.dK kvs)) (hg : ∀ x ∈ ps, valV kvs (Sum.inr x) = some (g x)) (hp : H p = none) (hs : ps.length <= 100)
  (q : Q (.ref p) (upd H p (.lst (ps.map g)))) : CompW (Itt K a) (gName 0) tTrue (tDGet (tVar 1) (tVar 0)) [none, some (.ref d)] Q p H := by
 have nap : a ≠ p := ne_of_none ha hp
 have ndp : d ≠ p := ne_of_none hd hp
 refine comp_tup (xs := ps.map V.str) (fun j zs τ H2 => ∃ t1 : Option V, τ = [t1, some (.ref d)] /\ zs = (ps.take j).map g /\ H2 = upd H p (.lst zs)) ⟨none, rfl, rfl, rfl⟩ (fun j zs τ H2 ⟨_, _, _, z⟩ => by rw [z]; exact ⟨upd_same, SqT.of (by rw [upd_ne nap]; exact ha)⟩) ?_ ?_
 ·rintro j x zs τ H2 hx ⟨t1, rfl, rfl, rfl⟩
  have hjl : j < (ps.map V.str).length := (List.getElem?_eq_some_iff.mp hx).1
  have hjr : j < ps.length := by simpa using hjl
  obtain rfl : V.str ps[j] = x := by simpa [hjr] using hx
  have tkj : ps.take (j + 1) = ps.take j ++ [ps[j]] := by rw [List.take_succ, List.getElem?_eq_getElem hjr]; rfl
  refine ⟨_, rfl, _, rfl, d, g ps[j], rfl, ?_, upd_same, ?_, cw_next hjl ⟨_, rfl, ?_, by rw [upd_upd]⟩⟩
  ·rw [<- hg _ (List.getElem_mem hjr)]; exact DGet.k (k := Sum.inr ps[j]) (by rw [upd_ne ndp]; exact hd)
  ·rw [List.length_map, List.length_take, sizeLine_eq]; omega
  ·rw [tkj, List.map_append]; rfl
 ·rintro zs τ H2 ⟨t1, rfl, rfl, rfl⟩
  rw [List.length_map, List.take_length]
  exact q
theorem comp_getL {K : Frag} {a d p : Addr} {ps : List Str} {kvs : List (Key × V)} {g : Str -> V} {H : Hp} {Q : VK} (ha : H a = some (.lst (ps.map V.str))) (hd : H d = some (.dK kvs)) (hg : ∀ x ∈ ps, valV kvs (Sum.inr x) = some (g x)) (hp : H p = none) (hs : ps.length <= 100)
  (q : Q (.ref p) (upd H p (.lst (ps.map g)))) : CompW (Itl K a) (gName 0) tTrue (tDGet (tVar 1) (tVar 0)) [none, some (.ref d)] Q p H := by
 have nap : a ≠ p := ne_of_none ha hp
 have ndp : d ≠ p := ne_of_none hd hp
 refine comp_list (xs := ps.map V.str) (fun j zs τ H2 => ∃ t1 : Option V, τ = [t1, some (.ref d)] /\ zs = (ps.take j).map g /\ H2 = upd H p (.lst zs)) ⟨none, rfl, rfl, rfl⟩ (fun j zs τ H2 ⟨_, _, _, z⟩ => by rw [z]; exact ⟨upd_same, SqL.of (by rw [upd_ne nap]; exact ha)⟩) ?_ ?_
 ·rintro j x zs τ H2 hx ⟨t1, rfl, rfl, rfl⟩
  have hjl : j < (ps.map V.str).length := (List.getElem?_eq_some_iff.mp hx).1
  have hjr : j < ps.length := by simpa using hjl
  obtain rfl : V.str ps[j] = x := by simpa [hjr] using hx
  have tkj : ps.take (j + 1) = ps.take j ++ [ps[j]] := by rw [List.take_succ, List.getElem?_eq_getElem hjr]; rfl
  refine ⟨_, rfl, _, rfl, d, g ps[j], rfl, ?_, upd_same, ?_, cw_next hjl ⟨_, rfl, ?_, by rw [upd_upd]⟩⟩
  ·rw [<- hg _ (List.getElem_mem hjr)]; exact DGet.k (k := Sum.inr ps[j]) (by rw [upd_ne ndp]; exact hd)
  ·rw [List.length_map, List.length_take, sizeLine_eq]; omega
  ·rw [tkj, List.map_append]; rfl
 ·rintro zs τ H2 ⟨t1, rfl, rfl, rfl⟩
  rw [List.length_map, List.take_length]
  exact q
def rowsOf (L : Str -> List Str) (ps : List Str) : List (List Str) := ps.map L ++ [ps]
def LnT (H : Hp) (kvs : List (Key × V)) (L : Str -> List Str) (x : Str) : Prop := ∃ a, valV kvs (Sum.inr x) = some (.ref a) /\ H a = some (.tup ((L x).map V.str))
theorem LnT.same {H H' : Hp} {kvs : List (Key × V)} {L : Str -> List Str} {x : Str} (h : LnT H kvs L x) (s : Same H H') : LnT H' kvs L x := let ⟨a, e, q⟩ := h; ⟨a, e, s _ _ q⟩
theorem lnT_fun {H : Hp} {kvs : List (Key × V)} {L : Str -> List Str} {ps : List Str} (h : ∀ x ∈ ps, LnT H kvs L x) : ∃ g : Str -> V, (∀ x ∈ ps, valV kvs (Sum.inr x) = some (g x)) /\ RowsV H (ps.map g) (ps.map L) := by
 refine ⟨fun x => (valV kvs (Sum.inr x)).getD .non, fun x hx => ?_, ?_⟩
 ·obtain ⟨a, e, _⟩ := h x hx; show _ = some ((valV kvs (Sum.inr x)).getD V.non); rw [e]; rfl
 ·induction ps with
  | nil => exact .nil
  | cons x ps ih =>
   obtain ⟨a, e, q⟩ := h x List.mem_cons_self
   exact .cons ⟨a, by show (valV kvs (Sum.inr x)).getD V.non = _; rw [e]; rfl, q⟩ (ih fun y hy => h y (List.mem_cons_of_mem _ hy))
section
variable {P : Program} {w : World} {K : Frag} {mg : Str -> Option Value} {base : Heap} {f : Addr} {fd : FuncData}
@[irreducible] def spLF : Sp := fun vs H Q _ => ∃ (d pa : Addr) (kvs : List (Key × V)) (L : Str -> List Str) (k : Str) (ps o : List Str), vs = [.ref d, .str k, .ref pa] /\ H d = some (.dK kvs) /\ H pa = some (.tup (ps.map V.str)) /\ (∀ x ∈ ps, LnT H kvs L x) /\ Small (rowsOf L ps) /\
 mergeG (total (rowsOf L ps)) (rowsOf L ps) = some o /\ o.length <= 100 /\ ∀ p H', Same H H' -> H' p = some (.tup ((k :: o).map V.str)) -> Q (.ref p) H'
theorem lf_sp {d pa : Addr} {kvs : List (Key × V)} {L : Str -> List Str} {k : Str} {ps o : List Str} {H : Hp} {Q : VK} {E : XK} (hd : H d = some (.dK kvs)) (hpa : H pa = some (.tup (ps.map V.str))) (hl : ∀ x ∈ ps, LnT H kvs L x) (hS : Small (rowsOf L ps))
  (hm : mergeG (total (rowsOf L ps)) (rowsOf L ps) = some o) (ho : o.length <= 100) (q : ∀ p H', Same H H' -> H' p = some (.tup ((k :: o).map V.str)) -> Q (.ref p) H') : spLF [.ref d, .str k, .ref pa] H Q E := by
 unfold spLF; exact ⟨d, pa, kvs, L, k, ps, o, rfl, hd, hpa, hl, hS, hm, ho, q⟩
abbrev nLF : List Str := ["lines", "kind", "parents", "rows", "refusal"]
theorem scLF : FnScope nLF ["lines", "kind", "parents"] (defScope sLineFrom) := ⟨rfl, rfl, rfl, by decide +kernel, rfl, by decide +kernel, by decide +kernel⟩
def binL (e : Expr) : Expr := match e with | .BinOp a _ _ _ => a | _ => .Constant .none 0 ⟨0, 0, 0, 0⟩
abbrev eLF : Expr := binL (arg0 (asgV (bodyAt (defBody sLineFrom) 0)))
theorem csLF : CompScope nLF (defScope sLineFrom) ["parent", "lines"] [none, some 0] (compSc eLF) := ⟨rfl, by decide +kernel, by decide +kernel, rfl, fv_of (by decide +kernel), by decide +kernel⟩
theorem ok_lf {fM : Addr} {fdM : FuncData} (F : Fun K "line_from" "line_from" sLineFrom f fd) (B : Blt mg) (GM : FnOk P w K mg base CX0 3 fM fdM ["rows"] spMerged) (kM : keepIn K (.ref fM) = true) (bM : Binds K fdM ["rows"] []) (mM : mg "merged" = some (.ref fM)) :
  FnOk P w K mg base CX0 4 f fd ["lines", "kind", "parents"] spLF := by
 refine F.ok scLF (fun vs H Q E h => ?_) (fun cdv A outer s H vs Q E hr h => ?_)
 ·unfold spLF at h; obtain ⟨d, pa, kvs, L, k, ps, o, rfl, _⟩ := h; rfl
 ·unfold spLF at h
  obtain ⟨d, pa, kvs, L, k, ps, o, rfl, hd, hpa, hl, hS, hm, hol, q⟩ := h
  have hu := hr.units
  have hu1 := Nat.lt_of_le_of_lt (Nat.add_le_add_left (show 1 <= 64 by decide) _) hu
  refine ⟨_, pss_cons (ps_set (i := 3) scLF.nd rfl (Or.inl rfl) (pe_callTy call_tuple_of rfl B.tuple boot_tuple (pa_cons (pe_op op_cat (pe_comp rfl csLF (pi_tup (pv 2)) (fun s H fp => ⟨pg_name (i := 0) csLF.nd rfl (Or.inl rfl), pifs_nil, pe_dget hu1 (pv 1) (pv 0) (fun _ _ => rfl)⟩)) (pe_lst (pa_cons (pv 2) pa_nil))) pa_nil)))
   (pss_one (ps_tryNo (pss_one (ps_ret (pe_op op_catA (pe_tup (pa_cons (pv 1) pa_nil)) (pe_call GM hr rfl mM kM bM .nil pass0 (pa_cons (pv 3) pa_nil))))) rfl)), ?_⟩
  obtain ⟨g, hg, hR⟩ := lnT_fun hl
  have hpl : ps.length <= 20 := hS.short ps (List.mem_append_right _ List.mem_cons_self)
  refine ⟨_, rfl, pa, rfl, ⟨_, SqT.of hpa⟩, fun c hc => comp_getT hpa hd hg hc (by omega) ?_⟩
  have S1 := same_new (o := .lst (ps.map g)) hc
  refine ⟨_, rfl, by show 1 <= sizeLine; rw [sizeLine_eq]; decide, fun c2 hc2 => ?_⟩
  have S2 := S1.trans (same_new (o := .lst [V.ref pa]) hc2)
  refine ⟨c, c2, _, _, rfl, rfl, by rw [upd_ne (ne_of_none upd_same hc2)]; exact upd_same, upd_same, by rw [List.length_map, sizeLine_eq]; show _ + 1 <= _; omega, fun c3 hc3 => ?_⟩
  have S3 := S2.trans (same_new (o := .lst (ps.map g ++ [V.ref pa])) hc3)
  refine ⟨c3, _, rfl, .inl ⟨SqL.of upd_same, fun r hr => ?_⟩⟩
  have S4 := S3.trans (same_new (o := .tup (ps.map g ++ [V.ref pa])) hr)
  refine ⟨_, rfl, by show 1 <= sizeLine; rw [sizeLine_eq]; decide, fun c4 hc4 => ?_⟩
  have S5 := S4.trans (same_new (o := .tup [V.str k]) hc4)
  refine ⟨_, rfl, merged_sp (rows := rowsOf L ps) (by rw [upd_ne (ne_of_none upd_same hc4)]; exact upd_same) (RowsV.append (hR.same S5) (S5 _ _ hpa)) hS hm fun m H6 hm6 S6 h6 => ?_⟩
  refine ⟨c4, m, _, _, rfl, rfl, S6 _ _ upd_same, h6, by rw [List.length_map, sizeLine_eq]; show 1 + _ <= _; omega, fun p H7 S7 h7 => ?_⟩
  exact q p H7 (S5.trans (S6.trans S7)) h7
end
end K35
namespace K35
open PySem L2 PySem.W HT
def FamV (H : Hp) (vs : List V) (fam : List (Str × List Str)) : Prop := Paired (fun y p => ∃ a b, y = V.ref a /\ H a = some (.tup [.str p.1, .ref b]) /\ H b = some (.tup (p.2.map V.str))) vs fam
theorem FamV.keep {H H' : Hp} {vs : List V} {fam : List (Str × List Str)} (h : FamV H vs fam) (s : ∀ b xs, H b = some (.tup xs) -> H' b = some (.tup xs)) : FamV H' vs fam := Paired.imp' (fun _ _ ⟨a, b, e, q, r⟩ => ⟨a, b, e, s _ _ q, s _ _ r⟩) h
theorem FamV.same {H H' : Hp} {vs : List V} {fam : List (Str × List Str)} (h : FamV H vs fam) (s : Same H H') : FamV H' vs fam := h.keep fun _ _ e => s _ _ e
theorem FamV.length {H : Hp} {vs : List V} {fam : List (Str × List Str)} (h : FamV H vs fam) : vs.length = fam.length := Paired.length h
theorem FamV.append {H : Hp} {vs : List V} {fam : List (Str × List Str)} {a b : Addr} {p : Str × List Str} : FamV H vs fam -> H a = some (.tup [.str p.1, .ref b]) -> H b = some (.tup (p.2.map V.str)) -> FamV H (vs ++ [.ref a]) (fam ++ [p])
 | .nil, q, r => .cons ⟨a, b, rfl, q, r⟩ .nil
 | .cons x t, q, r => .cons x (FamV.append t q r)
theorem FamV.pairs {H : Hp} {vs : List V} {fam : List (Str × List Str)} (h : FamV H vs fam) : ∃ kvs, PairsV H vs kvs /\ kvs.map (·.1) = fam.map (·.1) := by
 induction h with
 | nil => exact ⟨[], .nil, rfl⟩
 | cons p _ ih =>
  obtain ⟨a, b, e, q, r⟩ := p
  obtain ⟨kvs, h1, h2⟩ := ih
  exact ⟨(_, .ref b) :: kvs, .cons ⟨a, e, q⟩ h1, by rw [List.map_cons, List.map_cons, h2]⟩
structure FamOk (fam : List (Str × List Str)) (L : Str -> List Str) : Prop where
 nd : (fam.map (·.1)).Nodup
 few : fam.length <= 8
 nm : ∀ p ∈ fam, Nm p.1
 up : ∀ p ∈ fam, ∀ x ∈ p.2, ∃ q ∈ fam, q.1 = x
 rank : ∃ r : Str -> Nat, ∀ p ∈ fam, ∀ x ∈ p.2, r x < r p.1
 line : ∀ p ∈ fam, Small (rowsOf L p.2) /\ ∃ o, mergeG (total (rowsOf L p.2)) (rowsOf L p.2) = some o /\ L p.1 = p.1 :: o /\ o.length <= 100
theorem FamOk.perm {fam fam' : List (Str × List Str)} {L : Str -> List Str} (h : FamOk fam L) (p : fam'.Perm fam) : FamOk fam' L := by
 have m : ∀ {q}, q ∈ fam' ↔ q ∈ fam := fun {q} => p.mem_iff
 obtain ⟨r, hr⟩ := h.rank
 exact ⟨(p.map _).nodup_iff.mpr h.nd, by rw [p.length_eq]; exact h.few, fun q hq => h.nm q (m.mp hq), fun q hq x hx => let ⟨z, hz, e⟩ := h.up q (m.mp hq) x hx; ⟨z, m.mpr hz, e⟩, ⟨r, fun q hq => hr q (m.mp hq)⟩, fun q hq => h.line q (m.mp hq)⟩
def isDone (kvs : List (Key × V)) (x : Str) : Bool := (valV kvs (Sum.inr x)).isSome
theorem ready_ex {fam rest : List (Str × List Str)} {L : Str -> List Str} (ok : FamOk fam L) {dn : Str -> Bool} (sub : ∀ p ∈ rest, p ∈ fam) (all : ∀ p ∈ fam, dn p.1 = true \/ p ∈ rest) (ne : rest ≠ []) : ∃ p ∈ rest, ∀ x ∈ p.2, dn x = true := by
 obtain ⟨r, hr⟩ := ok.rank
 have key : ∀ n, ∀ p ∈ rest, r p.1 = n -> ∃ q ∈ rest, ∀ x ∈ q.2, dn x = true := by
  intro n
  induction n using Nat.strongRecOn with
  | _ n ih =>
   intro p hp e
   by_cases h : ∀ x ∈ p.2, dn x = true
   ·exact ⟨p, hp, h⟩
   ·simp only [Classical.not_forall] at h
    obtain ⟨x, hx, hnd⟩ := h
    obtain ⟨q, hq, rfl⟩ := ok.up p (sub p hp) x hx
    have lt := hr p (sub p hp) q.1 hx
    rcases all q hq with z | z
    ·exact absurd z hnd
    ·exact ih _ (by omega) q z rfl
 cases rest with
 | nil => exact absurd rfl ne
 | cons p t => exact key _ p List.mem_cons_self rfl
def readyOf (dn : Str -> Bool) (rest : List (Str × List Str)) : List (Str × List Str) := rest.filter fun p => (p.2.map dn).all id
theorem mem_ready {dn : Str -> Bool} {rest : List (Str × List Str)} {p : Str × List Str} : p ∈ readyOf dn rest ↔ p ∈ rest /\ ∀ x ∈ p.2, dn x = true := by
 unfold readyOf
 rw [List.mem_filter, List.all_map, List.all_eq_true]; rfl
theorem filter_two {α : Type} (f : α -> Bool) : ∀ l : List α, (l.filter f).length + (l.filter fun x => !f x).length = l.length
 | [] => rfl
 | x :: l => by
  have ih := filter_two f l
  cases h : f x <;> simp [List.filter_cons, h] <;> omega
theorem rest_less {dn dn' : Str -> Bool} {rest : List (Str × List Str)} (h : ∀ p ∈ readyOf dn rest, dn' p.1 = true) : (rest.filter fun p => !dn' p.1).length + (readyOf dn rest).length <= rest.length := by
 have e : rest.length = (rest.filter fun p => (p.2.map dn).all id).length + (rest.filter fun p => !(p.2.map dn).all id).length := by
  exact (filter_two (fun p : Str × List Str => (p.2.map dn).all id) rest).symm
 have le : (rest.filter fun p => !dn' p.1).length <= (rest.filter fun p => !(p.2.map dn).all id).length := by
  rw [<- List.countP_eq_length_filter, <- List.countP_eq_length_filter]
  refine List.countP_mono_left fun p hp h1 => ?_
  cases z : (p.2.map dn).all id with
  | false => rfl
  | true =>
   have := h p (List.mem_filter.mpr ⟨hp, z⟩)
   rw [this] at h1; cases h1
 unfold readyOf
 omega
theorem comp_inD {K : Frag} {a d p : Addr} {ps : List Str} {kvs : List (Key × V)} {H : Hp} {Q : VK} (ha : H a = some (.tup (ps.map V.str))) (hd : H d = some (.dK kvs)) (hp : H p = none) (hs : ps.length <= 100)
  (q : Q (.ref p) (upd H p (.lst ((ps.map (isDone kvs)).map V.bl)))) : CompW (Itt K a) (gName 0) tTrue (tDIn (tVar 0) (tVar 1)) [none, some (.ref d)] Q p H := by
 have nap : a ≠ p := ne_of_none ha hp
 have ndp : d ≠ p := ne_of_none hd hp
 refine comp_tup (xs := ps.map V.str) (fun j zs τ H2 => ∃ t1 : Option V, τ = [t1, some (.ref d)] /\ zs = ((ps.take j).map (isDone kvs)).map V.bl /\ H2 = upd H p (.lst zs)) ⟨none, rfl, rfl, rfl⟩ (fun j zs τ H2 ⟨_, _, _, z⟩ => by rw [z]; exact ⟨upd_same, SqT.of (by rw [upd_ne nap]; exact ha)⟩) ?_ ?_
 ·rintro j x zs τ H2 hx ⟨t1, rfl, rfl, rfl⟩
  have hjl : j < (ps.map V.str).length := (List.getElem?_eq_some_iff.mp hx).1
  have hjr : j < ps.length := by simpa using hjl
  obtain rfl : V.str ps[j] = x := by simpa [hjr] using hx
  have tkj : ps.take (j + 1) = ps.take j ++ [ps[j]] := by rw [List.take_succ, List.getElem?_eq_getElem hjr]; rfl
  refine ⟨_, rfl, _, rfl, d, _, rfl, DGet.k (k := Sum.inr ps[j]) (by rw [upd_ne ndp]; exact hd), upd_same, ?_, cw_next hjl ⟨_, rfl, ?_, by rw [upd_upd]⟩⟩
  ·rw [List.length_map, List.length_map, List.length_take, sizeLine_eq]; omega
  ·rw [tkj, List.map_append, List.map_append]; rfl
 ·rintro zs τ H2 ⟨t1, rfl, rfl, rfl⟩
  rw [List.length_map, List.take_length]
  exact q
def KeyOk (fam : List (Str × List Str)) (kvs : List (Key × V)) : Prop := (kvs.map (·.1)).Nodup /\ ∀ k ∈ kvs.map (·.1), ∃ p ∈ fam, k = Sum.inr p.1
theorem keys_putK (kvs : List (Key × V)) (k : Key) (v : V) : (k ∈ kvs.map (·.1) /\ (putK kvs k v).map (·.1) = kvs.map (·.1)) \/ (k ∉ kvs.map (·.1) /\ (putK kvs k v).map (·.1) = kvs.map (·.1) ++ [k]) := by
 have e : (kvs.any fun kv => decide (kv.1 = k)) = true ↔ k ∈ kvs.map (·.1) := by
  rw [List.any_eq_true, List.mem_map]
  exact ⟨fun ⟨x, h, d⟩ => ⟨x, h, of_decide_eq_true d⟩, fun ⟨x, h, d⟩ => ⟨x, h, decide_eq_true d⟩⟩
 unfold putK
 by_cases h : k ∈ kvs.map (·.1)
 ·refine .inl ⟨h, ?_⟩
  rw [if_pos (e.mpr h), List.map_map]
  refine List.map_congr_left fun kv _ => ?_
  show (if kv.1 = k then (kv.1, v) else kv).1 = kv.1
  split <;> rfl
 ·refine .inr ⟨h, ?_⟩
  rw [if_neg fun z => h (e.mp z), List.map_append]; rfl
theorem putK_mem {kvs : List (Key × V)} {k j : Key} {v : V} : j ∈ (putK kvs k v).map (·.1) ↔ j = k \/ j ∈ kvs.map (·.1) := by
 rcases keys_putK kvs k v with ⟨h, e⟩ | ⟨h, e⟩
 ·rw [e]; exact ⟨.inr, fun z => z.elim (fun e => e ▸ h) id⟩
 ·rw [e, List.mem_append, List.mem_singleton]; exact Or.comm
theorem putK_nd {kvs : List (Key × V)} {k : Key} {v : V} (h : (kvs.map (·.1)).Nodup) : ((putK kvs k v).map (·.1)).Nodup := by
 rcases keys_putK kvs k v with ⟨_, e⟩ | ⟨hn, e⟩
 ·rw [e]; exact h
 ·rw [e, List.nodup_append]
  exact ⟨h, by simp, fun a ha b hb e => hn (by rw [<- (List.mem_singleton.mp hb), <- e]; exact ha)⟩
theorem KeyOk.put {fam : List (Str × List Str)} {kvs : List (Key × V)} {p : Str × List Str} {v : V} (h : KeyOk fam kvs) (hp : p ∈ fam) : KeyOk fam (putK kvs (Sum.inr p.1) v) := by
 refine ⟨putK_nd h.1, fun k hk => ?_⟩
 rcases putK_mem.mp hk with z | z
 ·exact ⟨p, hp, z⟩
 ·exact h.2 k z
theorem done_mem : ∀ {kvs : List (Key × V)} {x : Str}, isDone kvs x = true -> Sum.inr x ∈ kvs.map (·.1)
 | [], x, h => by cases h
 | (a, b) :: kvs, x, h => by
  by_cases e : a = Sum.inr x
  ·rw [e]; exact List.mem_cons_self
  ·unfold isDone at h; rw [valV_neg e] at h
   exact List.mem_cons_of_mem _ (done_mem h)
theorem perm_of_nd {α : Type} {a b : List α} (ha : a.Nodup) (hb : b.Nodup) (h : ∀ x, x ∈ a ↔ x ∈ b) : a.Perm b := (List.perm_ext_iff_of_nodup ha hb).mpr h
theorem inr_nd {l : List Str} (h : l.Nodup) : (l.map (Sum.inr : Str -> Key)).Nodup := by
 induction l with
 | nil => exact List.nodup_nil
 | cons x l ih =>
  rw [List.nodup_cons] at h
  rw [List.map_cons, List.nodup_cons]
  refine ⟨fun z => ?_, ih h.2⟩
  obtain ⟨y, hy, e⟩ := List.mem_map.mp z
  exact h.1 (Sum.inr.inj e ▸ hy)
theorem KeyOk.perm {fam : List (Str × List Str)} {L : Str -> List Str} {kvs : List (Key × V)} (h : KeyOk fam kvs) (ok : FamOk fam L) (all : ∀ p ∈ fam, isDone kvs p.1 = true) : (kvs.map (·.1)).Perm ((fam.map (·.1)).map Sum.inr) := by
 refine perm_of_nd h.1 (inr_nd ok.nd) fun x => ⟨fun hx => ?_, fun hx => ?_⟩
 ·obtain ⟨p, hp, rfl⟩ := h.2 x hx
  exact List.mem_map.mpr ⟨p.1, List.mem_map.mpr ⟨p, hp, rfl⟩, rfl⟩
 ·obtain ⟨y, hy, rfl⟩ := List.mem_map.mp hx
  obtain ⟨p, hp, rfl⟩ := List.mem_map.mp hy
  exact done_mem (all p hp)
structure WInv (H : Hp) (fam : List (Str × List Str)) (L : Str -> List Str) (t d : Addr) (m : Nat) (σ : St) (H1 : Hp) (kvs : List (Key × V)) (rest : List (Str × List Str)) (wv : List V) (wa : Addr) : Prop where
 st : ∃ v3 v4 v5 : Option V, σ = [some (.ref t), some (.ref d), some (.ref wa), v3, v4, v5]
 mm : m = rest.length
 hd : H1 d = some (.dK kvs)
 hw : H1 wa = some (.lst wv)
 fv : FamV H1 wv rest
 sub : ∀ p ∈ rest, p ∈ fam
 all : ∀ p ∈ fam, isDone kvs p.1 = true \/ p ∈ rest
 ln : ∀ x, isDone kvs x = true -> LnT H1 kvs L x
 same : Same H H1
 lim : kvs.length + rest.length <= 8
 ky : KeyOk fam kvs
section
variable {P : Program} {w : World} {K : Frag} {mg : Str -> Option Value} {base : Heap} {f : Addr} {fd : FuncData}
@[irreducible] def spLines : Sp := fun vs H Q _ => ∃ (t : Addr) (o : Obj) (ws : List V) (fam : List (Str × List Str)) (L : Str -> List Str), vs = [.ref t] /\ H t = some (.frz o (.tup ws)) /\ FamV H ws fam /\ FamOk fam L /\
 ∀ d kvs H', H d = none -> Same H H' -> H' d = some (.dK kvs) -> (∀ p ∈ fam, LnT H' kvs L p.1) -> (kvs.map (·.1)).Perm ((fam.map (·.1)).map Sum.inr) -> Q (.ref d) H'
theorem lines_sp {t : Addr} {o : Obj} {ws : List V} {fam : List (Str × List Str)} {L : Str -> List Str} {H : Hp} {Q : VK} {E : XK} (ht : H t = some (.frz o (.tup ws))) (hf : FamV H ws fam) (ok : FamOk fam L)
  (q : ∀ d kvs H', H d = none -> Same H H' -> H' d = some (.dK kvs) -> (∀ p ∈ fam, LnT H' kvs L p.1) -> (kvs.map (·.1)).Perm ((fam.map (·.1)).map Sum.inr) -> Q (.ref d) H') : spLines [.ref t] H Q E := by unfold spLines; exact ⟨t, o, ws, fam, L, rfl, ht, hf, ok, q⟩
abbrev nLn : List Str := ["family", "lines", "waiting", "ready", "kind", "parents"]
theorem scLn : FnScope nLn ["family"] (defScope sLines) := ⟨rfl, rfl, rfl, by decide +kernel, rfl, by decide +kernel, by decide +kernel⟩
abbrev sLnW : Stmt := bodyAt (defBody sLines) 2
abbrev eLnA : Expr := asgV (bodyAt (whileBody sLnW) 0)
abbrev eLnB : Expr := arg0 (compIf eLnA)
abbrev eLnC : Expr := asgV (bodyAt (whileBody sLnW) 3)
theorem csLnA : CompScope nLn (defScope sLines) ["pair", "lines"] [none, some 1] (compSc eLnA) := ⟨rfl, by decide +kernel, by decide +kernel, rfl, fv_of (by decide +kernel), by decide +kernel⟩
theorem csLnB {env : Env} : CompScope ["pair", "lines"] (relabel (compSc eLnA) env) ["parent", "lines"] [none, some 1] (compSc eLnB) := nest rfl (by decide +kernel) (by decide +kernel) rfl (by decide +kernel) (by decide +kernel)
theorem ndLnB : (["parent", "lines"] : List Str).Nodup := by decide +kernel
theorem csLnC : CompScope nLn (defScope sLines) ["pair", "lines"] [none, some 1] (compSc eLnC) := ⟨rfl, by decide +kernel, by decide +kernel, rfl, fv_of (by decide +kernel), by decide +kernel⟩
theorem ok_lines {fF : Addr} {fdF : FuncData} (F : Fun K "lines_of" "lines_of" sLines f fd) (B : Blt mg) (GF : FnOk P w K mg base CX0 4 fF fdF ["lines", "kind", "parents"] spLF) (kF : keepIn K (.ref fF) = true) (bF : Binds K fdF ["lines", "kind", "parents"] []) (mF : mg "line_from" = some (.ref fF)) :
  FnOk P w K mg base CX0 5 f fd ["family"] spLines := by
 refine F.ok scLn (fun vs H Q E h => ?_) (fun cdv A outer s H vs Q E hr h => ?_)
 ·unfold spLines at h; obtain ⟨t, o, ws, fam, L, rfl, _⟩ := h; rfl
 ·unfold spLines at h
  obtain ⟨t, o, ws, fam, L, rfl, ht, hfam, ok, q⟩ := h
  have hu := hr.units
  have hu1 := Nat.lt_of_le_of_lt (Nat.add_le_add_left (show 1 <= 64 by decide) _) hu
  refine ⟨_, pss_cons (ps_set (i := 1) scLn.nd rfl (Or.inr rfl) pe_dnewK)
   (pss_cons (ps_set (i := 2) scLn.nd rfl (Or.inl rfl) (pe_callTy call_list_of rfl B.list boot_list (pa_cons (pv 0) pa_nil)))
   (pss_cons (ps_while PassesOwn.never (pt_truth (pv 2) (fun _ => rfl))
    (pss_cons (ps_setComp rfl csLnA scLn.nd (i := 3) rfl rfl (pi_list (pv 2)) (fun s H fp => ⟨pg_name (i := 0) csLnA.nd rfl (Or.inl rfl),
      pifs_one (pt_val (pe_callB (call_allB_K K rfl rfl) rfl B.all boot_all (pa_cons (pe_comp rfl csLnB (pi_tup_K K rfl (pe_ix (ix_tup_K K rfl) (pv 0) pe_int (fun _ _ => rfl))) (fun s H fp => ⟨pg_name (i := 0) ndLnB rfl (Or.inl rfl), pifs_nil, pe_cmp (pc_din hu1 (pv 0) (pv 1))⟩)) pa_nil))),
      pv 0⟩))
    (pss_cons (ps_if (pt_not (pt_truth (pv 3) (fun _ => rfl))) (pss_one (ps_ret (pv 1))) pss_nil)
    (pss_cons (ps_for PassesOwn.never rfl (pi_list (pv 3)) (pg_tup rfl (pgs_cons (pg_name (i := 4) scLn.nd rfl (Or.inl rfl)) (pgs_cons (pg_name (i := 5) scLn.nd rfl (Or.inl rfl)) pgs_nil)))
     (pss_one (ps_dput hu1 (pv 1) (pv 4) (pe_call GF hr rfl mF kF bF .nil pass0 (pa_cons (pv 1) (pa_cons (pv 4) (pa_cons (pv 5) pa_nil)))) rfl)))
    (pss_one (ps_setComp rfl csLnC scLn.nd (i := 2) rfl rfl (pi_list (pv 2)) (fun s H fp => ⟨pg_name (i := 0) csLnC.nd rfl (Or.inl rfl),
      pifs_one (pt_cmp (pc_dnotin hu1 (pe_ix (ix_tup_K K rfl) (pv 0) pe_int (fun _ _ => rfl)) (pv 1))), pv 0⟩)))))))
   (pss_one (ps_ret (pv 1))))), ?_⟩
  intro d hd
  have Sd := same_new (o := .dK []) hd
  refine ⟨_, rfl, t, ws, rfl, .inr (.inl (.inr ⟨o, Sd _ _ ht⟩)), fun wa hwa => ?_⟩
  have Sw := Sd.trans (same_new (o := .lst ws) hwa)
  have nwd : d ≠ wa := ne_of_none upd_same hwa
  refine ⟨fun m σ H1 => ∃ kvs rest wv wa, WInv H fam L t d m σ H1 kvs rest wv wa, ⟨_, [], fam, ws, wa, ⟨none, none, none, rfl⟩, rfl, by rw [upd_ne nwd]; exact upd_same, upd_same, hfam.same Sw, fun _ h => h, fun _ h => .inr h, fun x h => (by cases h), Sw, by have := ok.few; rw [List.length_nil]; omega, ⟨List.nodup_nil, fun _ h => (by cases h)⟩⟩, ?_⟩
  rintro m σ H1 ⟨kvs, rest, wv, wa, R⟩
  obtain ⟨v3, v4, v5, rfl⟩ := R.st
  have hlr := R.fv.length
  refine ⟨_, rfl, _, .inl ⟨_, SqL.of R.hw, rfl⟩, ?_⟩
  refine ite2 (fun hne => ?_) (fun hne => ?_)
  ·refine ⟨fun σ' H' => ∃ m', m' < m /\ ∃ kvs rest wv wa, WInv H fam L t d m' σ' H' kvs rest wv wa, fun _ _ z => z, ?_⟩
   refine ⟨_, rfl, wa, rfl, ⟨_, SqL.of R.hw⟩, fun ra hra => ?_⟩
   have hdH : ∀ {b : Addr} {u : HO}, H b = some u -> b ≠ d := fun e => ne_of_none e hd
   have ndr : d ≠ ra := ne_of_none R.hd hra
   refine comp_list (xs := wv) (fun i ys τ H3 => ∃ t0 : Option V, τ = [t0, some (.ref d)] /\ H3 ra = some (.lst ys) /\ Same H1 H3 /\ FamV H3 ys (readyOf (isDone kvs) (rest.take i))) ⟨none, rfl, upd_same, same_new hra, .nil⟩ (fun i ys τ H3 ⟨_, _, z1, z2, _⟩ => ⟨z1, SqL.of (z2 _ _ R.hw)⟩) ?_ ?_
   ·rintro i x ys τ H3 hx ⟨t0, rfl, h3, S3, F3⟩
    have hlt : i < wv.length := (List.getElem?_eq_some_iff.mp hx).1
    obtain ⟨p, hp, a, b, rfl, ha, hb⟩ := pair_at R.fv hx
    have tk : rest.take (i + 1) = rest.take i ++ [p] := by rw [List.take_succ, hp]; rfl
    have hpm := R.sub p (List.mem_of_getElem? hp)
    have hpl : p.2.length <= 20 := (ok.line p hpm).1.short p.2 (List.mem_append_right _ List.mem_cons_self)
    have ha3 := S3 _ _ ha
    have hb3 := S3 _ _ hb
    refine ⟨_, rfl, a, _, 1, .ref b, rfl, rfl, SqT.of ha3, (show atI [V.str p.1, V.ref b] ((1 : Nat) : Int) = some (.ref b) from atI_nat rfl), ?_⟩
    refine ⟨b, rfl, ⟨_, SqT.of hb3⟩, fun c hc => comp_inD hb3 (S3 _ _ R.hd) hc (by omega) ?_⟩
    have Sc := same_new (o := .lst ((p.2.map (isDone kvs)).map V.bl)) hc
    refine ⟨c, _, rfl, SqL.of upd_same, _, rfl, ?_⟩
    refine ite2 (fun hal => ?_) (fun hal => ?_)
    ·refine ⟨_, rfl, Sc _ _ h3, ?_, cw_next hlt ⟨_, rfl, upd_same, fun b o hb => by rw [upd_ne (ne_of_none hb hra)]; exact Sc _ _ (S3 b o hb), ?_⟩⟩
     ·have h1 := F3.length
      have h2 : (readyOf (isDone kvs) (rest.take i)).length <= (rest.take i).length := List.length_filter_le _ _
      have h3 := R.lim
      rw [List.length_take] at h2
      rw [sizeLine_eq]; omega
     ·have e1 : readyOf (isDone kvs) (rest.take (i + 1)) = readyOf (isDone kvs) (rest.take i) ++ [p] := by
       rw [tk]; unfold readyOf; rw [List.filter_append, List.filter_cons_of_pos (by exact hal)]; rfl
      rw [e1]
      refine FamV.append (F3.keep fun b xs hb => ?_) ?_ ?_ (b := b)
      ·rw [upd_ne (ne_of hb h3 (by intro z; cases z))]; exact Sc _ _ hb
      ·rw [upd_ne (ne_of ha3 h3 (by intro z; cases z))]; exact Sc _ _ ha3
      ·rw [upd_ne (ne_of hb3 h3 (by intro z; cases z))]; exact Sc _ _ hb3
    ·refine cw_next hlt ⟨_, rfl, Sc _ _ h3, S3.trans Sc, ?_⟩
     have e1 : readyOf (isDone kvs) (rest.take (i + 1)) = readyOf (isDone kvs) (rest.take i) := by
      rw [tk]; unfold readyOf; rw [List.filter_append, List.filter_cons_of_neg (by exact hal)]; simp
     rw [e1]
     exact F3.same Sc
   ·rintro rv τ H3 ⟨t0, rfl, h3, S3, F3⟩
    rw [hlr, List.take_length] at F3
    have hrl := F3.length
    have hd3 := S3 _ _ R.hd
    have hw3 := S3 _ _ R.hw
    have hf3 : FamV H3 wv rest := R.fv.same S3
    have hne' : rest ≠ [] := fun z => by
     rw [z] at hlr
     have : wv = [] := List.eq_nil_of_length_eq_zero hlr
     rw [this] at hne; cases hne
    obtain ⟨p0, hp0, hp0d⟩ := ready_ex ok R.sub R.all hne'
    have hr0 : p0 ∈ readyOf (isDone kvs) rest := mem_ready.mpr ⟨hp0, hp0d⟩
    generalize hrd : readyOf (isDone kvs) rest = ready at F3 hrl hr0
    have hrne : (!rv.isEmpty) = true := by
     cases rv with
     | nil =>
      have : ready = [] := List.eq_nil_of_length_eq_zero hrl.symm
      rw [this] at hr0; cases hr0
     | cons _ _ => rfl
    refine ⟨_, rfl, _, .inl ⟨_, SqL.of h3, rfl⟩, ?_⟩
    rw [hrne]
    refine ⟨_, rfl, ra, rfl, ⟨_, SqL.of h3⟩, for_list (xs := rv) (fun i σ H4 => ∃ (kvs' : List (Key × V)) (v4 v5 : Option V), σ = [some (.ref t), some (.ref d), some (.ref wa), some (.ref ra), v4, v5] /\ H4 d = some (.dK kvs') /\ kvs'.length <= kvs.length + i /\
     (∀ b u, b ≠ d -> H3 b = some u -> H4 b = some u) /\ (∀ x, isDone kvs' x = true -> LnT H4 kvs' L x) /\ (∀ x, isDone kvs x = true -> isDone kvs' x = true) /\ (∀ p ∈ ready.take i, isDone kvs' p.1 = true) /\ KeyOk fam kvs')
     ⟨kvs, v4, v5, rfl, hd3, Nat.le_refl _, fun _ _ _ e => e, fun x hx => (R.ln x hx).same S3, fun _ h => h, fun p hp => (by cases hp), R.ky⟩ (fun i σ H4 _ ⟨_, _, _, _, _, _, z, _⟩ => SqL.of (z _ _ (Ne.symm ndr) h3)) ?_ ?_⟩
    ·rintro i x σ H4 hx ⟨kvs', v4, v5, rfl, hd4, hl4, kp4, ln4, up4, dn4, ky4⟩
     have hlt : i < rv.length := (List.getElem?_eq_some_iff.mp hx).1
     obtain ⟨p, hp, a, b, rfl, ha, hb⟩ := pair_at F3 hx
     have tk : ready.take (i + 1) = ready.take i ++ [p] := by rw [List.take_succ, hp]; rfl
     have hpr : p ∈ readyOf (isDone kvs) rest := by rw [hrd]; exact List.mem_of_getElem? hp
     obtain ⟨hpm, hpd⟩ := mem_ready.mp hpr
     obtain ⟨hsm, oo, hmg, hL, hol⟩ := ok.line p (R.sub p hpm)
     have ha4 := kp4 _ _ (ne_of ha hd3 (by intro z; cases z)) ha
     have hb4 := kp4 _ _ (ne_of hb hd3 (by intro z; cases z)) hb
     refine ⟨a, _, rfl, SqT.of ha4, rfl, _, _, rfl, _, _, rfl, rfl, ?_⟩
     refine ⟨_, rfl, _, rfl, _, rfl, lf_sp hd4 hb4 (fun x hx => ln4 x (up4 x (hpd x hx))) hsm hmg hol fun q5 H5 S5 h5 => ?_⟩
     refine ⟨_, rfl, _, rfl, d, _, rfl, DPut.k (k := Sum.inr p.1) (S5 _ _ hd4) ?_, ?_⟩
     ·have h1 := R.lim
      have h2 : ready.length <= rest.length := by rw [<- hrd]; exact List.length_filter_le _ _
      rw [sizeLine_eq]; omega
     ·have nq : q5 ≠ d := ne_of h5 (S5 _ _ hd4) (by intro z; cases z)
      refine ⟨_, _, _, rfl, upd_same, ?_, fun b u nb e => ?_, fun x hx => ?_, fun x hx => ?_, fun y hy => ?_, ky4.put (R.sub p hpm)⟩
      ·have := length_putK kvs' (Sum.inr p.1) (V.ref q5); omega
      ·rw [upd_ne nb]; exact S5 _ _ (kp4 b u nb e)
      ·unfold LnT
       rw [valV_put]
       by_cases e : x = p.1
       ·subst e
        refine ⟨q5, by rw [if_pos rfl], ?_⟩
        rw [upd_ne nq, hL]; exact h5
       ·have e2 : ¬ ((Sum.inr x : Key) = Sum.inr p.1) := fun z => e (Sum.inr.inj z)
        have hx' : isDone kvs' x = true := by unfold isDone at hx ⊢; rw [valV_put, if_neg e2] at hx; exact hx
        obtain ⟨a', ea, ha'⟩ := ln4 x hx'
        refine ⟨a', by rw [if_neg e2]; exact ea, ?_⟩
        rw [upd_ne (ne_of ha' hd4 (by intro z; cases z))]; exact S5 _ _ ha'
      ·unfold isDone; rw [valV_put]
       split
       ·rfl
       ·exact up4 x hx
      ·unfold isDone; rw [valV_put]
       split
       ·rfl
       ·rename_i hn
        rw [tk] at hy
        rcases List.mem_append.mp hy with z | z
        ·exact dn4 _ z
        ·have : y = p := by simpa using z
         exact absurd (by rw [this]) hn
    ·rintro σ H4 ⟨kvs', v4, v5, rfl, hd4, hl4, kp4, ln4, up4, dn4, ky4⟩
     rw [hrl, List.take_length] at dn4
     have hf4 : FamV H4 wv rest := hf3.keep fun b xs e => kp4 _ _ (ne_of e hd3 (by intro z; cases z)) e
     have hw4 := kp4 _ _ (ne_of hw3 hd3 (by intro z; cases z)) hw3
     have SH4 : Same H H4 := fun b u e => kp4 b u (hdH e) (S3 _ _ (R.same b u e))
     refine ⟨_, rfl, wa, rfl, ⟨_, SqL.of hw4⟩, fun wb hwb => ?_⟩
     have nwb : d ≠ wb := ne_of_none hd4 hwb
     refine comp_list (xs := wv) (fun i ys τ H5 => ∃ t0 : Option V, τ = [t0, some (.ref d)] /\ H5 wb = some (.lst ys) /\ Same H4 H5 /\ FamV H5 ys ((rest.take i).filter fun p => !isDone kvs' p.1)) ⟨none, rfl, upd_same, same_new hwb, .nil⟩ (fun i ys τ H5 ⟨_, _, z1, z2, _⟩ => ⟨z1, SqL.of (z2 _ _ hw4)⟩) ?_ ?_
     ·rintro i x ys τ H5 hx ⟨t0, rfl, h5, S5, F5⟩
      have hlt : i < wv.length := (List.getElem?_eq_some_iff.mp hx).1
      obtain ⟨p, hp, a, b, rfl, ha, hb⟩ := pair_at hf4 hx
      have tk : rest.take (i + 1) = rest.take i ++ [p] := by rw [List.take_succ, hp]; rfl
      have ha5 := S5 _ _ ha
      have hb5 := S5 _ _ hb
      refine ⟨_, rfl, a, _, 0, .str p.1, rfl, rfl, SqT.of ha5, (show atI [V.str p.1, V.ref b] ((0 : Nat) : Int) = some (.str p.1) from atI_nat rfl), ?_⟩
      refine ⟨_, rfl, d, _, rfl, DGet.k (k := Sum.inr p.1) (S5 _ _ hd4), _, rfl, ?_⟩
      refine ite2 (fun hin => ?_) (fun hin => ?_)
      ·refine ⟨_, rfl, h5, ?_, cw_next hlt ⟨_, rfl, upd_same, fun b o hb => by rw [upd_ne (ne_of_none hb hwb)]; exact S5 b o hb, ?_⟩⟩
       ·have h1 := F5.length
        have h2 := List.length_filter_le (fun p : Str × List Str => !isDone kvs' p.1) (rest.take i)
        have h3 := R.lim
        rw [List.length_take] at h2
        rw [sizeLine_eq]; omega
       ·rw [tk, List.filter_append, List.filter_cons_of_pos (by exact hin)]
        refine FamV.append (F5.keep fun b xs hb => ?_) ?_ ?_ (b := b)
        ·rw [upd_ne (ne_of hb h5 (by intro z; cases z))]; exact hb
        ·rw [upd_ne (ne_of ha5 h5 (by intro z; cases z))]; exact ha5
        ·rw [upd_ne (ne_of hb5 h5 (by intro z; cases z))]; exact hb5
      ·refine cw_next hlt ⟨_, rfl, h5, S5, ?_⟩
       rw [tk, List.filter_append, List.filter_cons_of_neg (by exact hin), List.filter_nil, List.append_nil]
       exact F5
     ·rintro ys τ H5 ⟨t0, rfl, h5, S5, F5⟩
      rw [hlr, List.take_length] at F5
      have less := rest_less (dn := isDone kvs) (dn' := isDone kvs') (rest := rest) (by rw [hrd]; exact dn4)
      rw [hrd] at less
      have hrp : 0 < ready.length := List.length_pos_of_mem hr0
      refine ⟨_, by rw [R.mm]; omega, kvs', rest.filter fun p => !isDone kvs' p.1, ys, wb, ⟨_, _, _, rfl⟩, rfl, S5 _ _ hd4, h5, F5, fun p hp => R.sub p (List.mem_filter.mp hp).1, fun p hp => ?_, fun x hx => (ln4 x hx).same S5, SH4.trans S5, ?_, ?_⟩
      ·cases e : isDone kvs' p.1 with
       | true => exact .inl rfl
       | false =>
        refine .inr ?_
        rcases R.all p hp with z | z
        ·rw [up4 _ z] at e; cases e
        ·exact List.mem_filter.mpr ⟨z, by rw [e]; rfl⟩
      ·have h1 := R.lim
       omega
      ·exact ky4
  ·have hn : rest = [] := by
    cases wv with
    | nil => exact List.eq_nil_of_length_eq_zero hlr.symm
    | cons _ _ => exact absurd rfl hne
   have dn : ∀ p ∈ fam, isDone kvs p.1 = true := fun p hp => by
    rcases R.all p hp with z | z
    ·exact z
    ·rw [hn] at z; cases z
   exact ⟨_, rfl, q d kvs H1 hd R.same R.hd (fun p hp => R.ln p.1 (dn p hp)) (R.ky.perm ok dn)⟩
end
end K35
namespace K35
open PySem L2 PySem.W HT
def LnL (H : Hp) (kvs : List (Key × V)) (L : Str -> List Str) (x : Str) : Prop := ∃ a, valV kvs (Sum.inr x) = some (.ref a) /\ H a = some (.lst ((L x).map V.str))
theorem LnL.same {H H' : Hp} {kvs : List (Key × V)} {L : Str -> List Str} {x : Str} (h : LnL H kvs L x) (s : Same H H') : LnL H' kvs L x := let ⟨a, e, q⟩ := h; ⟨a, e, s _ _ q⟩
theorem lnL_fun {H : Hp} {kvs : List (Key × V)} {L : Str -> List Str} {ps : List Str} (h : ∀ x ∈ ps, LnL H kvs L x) : ∃ g : Str -> V, (∀ x ∈ ps, valV kvs (Sum.inr x) = some (g x)) /\ RowsA (fun _ => True) H (ps.map g) (ps.map L) := by
 refine ⟨fun x => (valV kvs (Sum.inr x)).getD .non, fun x hx => ?_, ?_⟩
 ·obtain ⟨a, e, _⟩ := h x hx; show _ = some ((valV kvs (Sum.inr x)).getD V.non); rw [e]; rfl
 ·induction ps with
  | nil => exact .nil
  | cons x ps ih =>
   obtain ⟨a, e, q⟩ := h x List.mem_cons_self
   exact .cons ⟨a, by show (valV kvs (Sum.inr x)).getD V.non = _; rw [e]; rfl, trivial, q⟩ (ih fun y hy => h y (List.mem_cons_of_mem _ hy))
theorem merge_len : ∀ {m : Nat} {rows : List (List Str)} {o : List Str}, mergeG m rows = some o -> o.length <= m
 | 0, rows, o, h => by
  unfold mergeG at h
  first
   | (cases h; exact Nat.le_refl _)
   | (split at h <;> first | (cases h; exact Nat.le_refl _) | cases h)
 | m + 1, rows, o, h => by
  unfold mergeG at h
  split at h
  ·cases e : leastFree rows with
   | none => rw [e] at h; cases h
   | some n =>
    rw [e] at h
    obtain ⟨o', h', rfl⟩ := Option.map_eq_some_iff.mp h
    have := merge_len h'
    rw [List.length_cons]; omega
  ·cases h; exact Nat.zero_le _
section
variable {P : Program} {w : World} {K : Frag} {mg : Str -> Option Value} {base : Heap} {f : Addr} {fd : FuncData}
theorem lm_sp {l : Addr} {ws : List V} {rows : List (List Str)} {H : Hp} {Q : VK} {E : XK} (hl : H l = some (.lst ws)) (hR : RowsA (fun _ => True) H ws rows) (hS : Small rows) (hnd : ∀ r ∈ rows, r.Nodup) (qn : mergeG (total rows) rows = none -> ∀ H', Same H H' -> Q .non H')
  (qs : ∀ o, mergeG (total rows) rows = some o -> ∀ p H', H p = none -> Same H H' -> H' p = some (.lst (o.map V.str)) -> Q (.ref p) H') : spLM [.ref l] H Q E := by unfold spLM; exact ⟨l, ws, rows, rfl, hl, hR, hS, hnd, qn, qs⟩
@[irreducible] def spLL : Sp := fun vs H Q _ => ∃ (d oa : Addr) (kvs : List (Key × V)) (L : Str -> List Str) (k : Str) (own : List Str), vs = [.ref d, .str k, .ref oa] /\ H d = some (.dK kvs) /\ H oa = some (.lst (own.map V.str)) /\ (∀ x ∈ own, LnL H kvs L x) /\ Small (rowsOf L own) /\ (∀ r ∈ rowsOf L own, r.Nodup) /\
 (mergeG (total (rowsOf L own)) (rowsOf L own) = none -> ∀ H', Same H H' -> Q .non H') /\ (∀ o, mergeG (total (rowsOf L own)) (rowsOf L own) = some o -> ∀ p H', H p = none -> Same H H' -> H' p = some (.lst ((k :: o).map V.str)) -> Q (.ref p) H')
theorem ll_sp {d oa : Addr} {kvs : List (Key × V)} {L : Str -> List Str} {k : Str} {own : List Str} {H : Hp} {Q : VK} {E : XK} (hd : H d = some (.dK kvs)) (ho : H oa = some (.lst (own.map V.str))) (hl : ∀ x ∈ own, LnL H kvs L x) (hS : Small (rowsOf L own)) (hnd : ∀ r ∈ rowsOf L own, r.Nodup)
  (qn : mergeG (total (rowsOf L own)) (rowsOf L own) = none -> ∀ H', Same H H' -> Q .non H') (qs : ∀ o, mergeG (total (rowsOf L own)) (rowsOf L own) = some o -> ∀ p H', H p = none -> Same H H' -> H' p = some (.lst ((k :: o).map V.str)) -> Q (.ref p) H') :
  spLL [.ref d, .str k, .ref oa] H Q E := by unfold spLL; exact ⟨d, oa, kvs, L, k, own, rfl, hd, ho, hl, hS, hnd, qn, qs⟩
abbrev nLL : List Str := ["_law_lines", "_law_kind", "_law_own", "_law_found"]
theorem scLL : FnScope nLL ["_law_lines", "_law_kind", "_law_own"] (defScope sLLine) := ⟨rfl, rfl, rfl, by decide +kernel, rfl, by decide +kernel, by decide +kernel⟩
abbrev eLL : Expr := binL (arg0 (asgV (bodyAt (defBody sLLine) 0)))
theorem csLL : CompScope nLL (defScope sLLine) ["_law_one", "_law_lines"] [none, some 0] (compSc eLL) := ⟨rfl, by decide +kernel, by decide +kernel, rfl, fv_of (by decide +kernel), by decide +kernel⟩
theorem ok_ll {fM : Addr} {fdM : FuncData} (F : Fun K "_law_line" "_law_line" sLLine f fd) (B : Blt mg) (FM : Fun K "_law_merged" "_law_merged" sLMerged fM fdM) (bM : Binds K fdM ["_law_rows"] []) (mM : mg "_law_merged" = some (.ref fM)) :
  FnOk P w K mg base CX0 2 f fd ["_law_lines", "_law_kind", "_law_own"] spLL := by
 have GM : FnOk P w K mg base CX0 1 fM fdM ["_law_rows"] spLM := ok_lm FM B
 refine F.ok scLL (fun vs H Q E h => ?_) (fun cdv A outer s H vs Q E hr h => ?_)
 ·unfold spLL at h; obtain ⟨d, oa, kvs, L, k, own, rfl, _⟩ := h; rfl
 ·unfold spLL at h
  obtain ⟨d, oa, kvs, L, k, own, rfl, hd, ho, hl, hS, hnd, qn, qs⟩ := h
  have hu := hr.units
  have hu1 := Nat.lt_of_le_of_lt (Nat.add_le_add_left (show 1 <= 64 by decide) _) hu
  refine ⟨_, pss_cons (ps_set (i := 3) scLL.nd rfl (Or.inl rfl) (pe_call GM hr rfl mM FM.kp bM .nil pass0 (pa_cons (pe_op op_cat (pe_comp rfl csLL (pi_list (pv 2)) (fun s H fp => ⟨pg_name (i := 0) csLL.nd rfl (Or.inl rfl), pifs_nil, pe_dget hu1 (pv 1) (pv 0) (fun _ _ => rfl)⟩)) (pe_lst (pa_cons (pe_callTy call_list_of rfl B.list boot_list (pa_cons (pv 2) pa_nil)) pa_nil))) pa_nil)))
   (pss_cons (ps_if (pt_cmpR op_isN (pv 3) pe_non (nomark _)) (pss_one (ps_ret pe_non)) pss_nil)
   (pss_one (ps_ret (pe_op op_cat (pe_lst (pa_cons (pv 1) pa_nil)) (pv 3))))), ?_⟩
  obtain ⟨g, hg, hR⟩ := lnL_fun hl
  have hpl : own.length <= 20 := hS.short own (List.mem_append_right _ List.mem_cons_self)
  refine ⟨_, rfl, oa, rfl, ⟨_, SqL.of ho⟩, fun c hc => comp_getL ho hd hg hc (by omega) ?_⟩
  have S1 := same_new (o := .lst (own.map g)) hc
  refine ⟨_, rfl, oa, _, rfl, .inl (SqL.of (S1 _ _ ho)), fun c1 hc1 => ?_⟩
  have S2 := S1.trans (same_new (o := .lst (own.map V.str)) hc1)
  refine ⟨by show 1 <= sizeLine; rw [sizeLine_eq]; decide, fun c2 hc2 => ?_⟩
  have S3 := S2.trans (same_new (o := .lst [V.ref c1]) hc2)
  have k1 : upd (upd H c (.lst (own.map g))) c1 (.lst (own.map V.str)) c = some (.lst (own.map g)) := by rw [upd_ne (ne_of_none upd_same hc1)]; exact upd_same
  refine ⟨c, c2, _, _, rfl, rfl, by rw [upd_ne (ne_of_none k1 hc2)]; exact k1, upd_same, by rw [List.length_map, sizeLine_eq]; show _ + 1 <= _; omega, fun c3 hc3 => ?_⟩
  have S4 := S3.trans (same_new (o := .lst (own.map g ++ [V.ref c1])) hc3)
  have k4 : upd (upd (upd (upd H c (.lst (own.map g))) c1 (.lst (own.map V.str))) c2 (.lst [V.ref c1])) c3 (.lst (own.map g ++ [V.ref c1])) c1 = some (.lst (own.map V.str)) := by
   have k2 : upd (upd (upd H c (.lst (own.map g))) c1 (.lst (own.map V.str))) c2 (.lst [V.ref c1]) c1 = some (.lst (own.map V.str)) := by rw [upd_ne (ne_of_none upd_same hc2)]; exact upd_same
   rw [upd_ne (ne_of_none k2 hc3)]; exact k2
  refine lm_sp (rows := rowsOf L own) upd_same (rowsA_append (rowsA_mono hR fun a xs _ e => ⟨trivial, S4 _ _ e⟩) trivial k4) hS hnd (fun e H5 S5 => ?_) (fun o e p H5 hp S5 h5 => ?_)
  ·exact ⟨_, rfl, rfl, _, rfl, qn e H5 (S4.trans S5)⟩
  ·refine ⟨_, rfl, rfl, _, rfl, ?_⟩
   refine ⟨_, rfl, by show 1 <= sizeLine; rw [sizeLine_eq]; decide, fun c5 hc5 => ?_⟩
   have S6 := S5.trans (same_new (o := .lst [V.str k]) hc5)
   have hz := (merge_len e)
   have ht := small_total hS.short
   have hfw := hS.few
   refine ⟨_, rfl, c5, p, _, _, rfl, rfl, upd_same, by rw [upd_ne (ne_of_none h5 hc5)]; exact h5, by rw [List.length_map, sizeLine_eq]; show 1 + _ <= _; omega, fun c6 hc6 => ?_⟩
   exact qs o e c6 _ (S4.free (S6.free hc6)) (S4.trans (S6.trans (same_new hc6))) upd_same
end
end K35
namespace K35
open PySem L2 PySem.W HT
theorem erase_perm {α : Type} : ∀ (l : List α) (k : Nat) (h : k < l.length), (l[k] :: l.eraseIdx k).Perm l
 | [], k, h => absurd h (Nat.not_lt_zero _)
 | x :: l, 0, _ => List.Perm.refl _
 | x :: l, k + 1, h => (List.Perm.swap _ _ _).trans ((erase_perm l k (Nat.lt_of_succ_lt_succ h)).cons x)
theorem map_erase {α β : Type} (f : α -> β) : ∀ (l : List α) (k : Nat), (l.map f).eraseIdx k = (l.eraseIdx k).map f
 | [], _ => rfl
 | _ :: _, 0 => rfl
 | x :: l, k + 1 => congrArg (f x :: ·) (map_erase f l k)
theorem boot_min : bootBuiltins "min" = some (.builtin "min") := by decide +kernel
theorem seven {d : Int} (h0 : 0 <= d) (h1 : d < 7) : ∃ v : Int, atI [V.int 0, .int 1, .int 1, .int 2, .int 2, .int 3, .int 4] d = some (.int v) /\ 0 <= v /\ v <= 4 := by
 obtain ⟨n, rfl⟩ := Int.eq_ofNat_of_zero_le h0
 match n, (show n < 7 by omega) with
 | 0, _ => exact ⟨0, atI_nat rfl, by decide, by decide⟩
 | 1, _ => exact ⟨1, atI_nat rfl, by decide, by decide⟩
 | 2, _ => exact ⟨1, atI_nat rfl, by decide, by decide⟩
 | 3, _ => exact ⟨2, atI_nat rfl, by decide, by decide⟩
 | 4, _ => exact ⟨2, atI_nat rfl, by decide, by decide⟩
 | 5, _ => exact ⟨3, atI_nat rfl, by decide, by decide⟩
 | 6, _ => exact ⟨4, atI_nat rfl, by decide, by decide⟩
theorem two_at {d a b m : Int} (h0 : 0 <= d) (h1 : d < 2) (ha : 0 <= a /\ a < m) (hb : 0 <= b /\ b < m) : ∃ v : Int, atI [V.int a, .int b] d = some (.int v) /\ 0 <= v /\ v < m := by
 obtain ⟨n, rfl⟩ := Int.eq_ofNat_of_zero_le h0
 match n, (show n < 2 by omega) with
 | 0, _ => exact ⟨a, atI_nat rfl, ha⟩
 | 1, _ => exact ⟨b, atI_nat rfl, hb⟩
section
variable {P : Program} {w : World} {K : Frag} {mg : Str -> Option Value} {base : Heap} {f : Addr} {fd : FuncData}
@[irreducible] def spPar : Sp := fun vs H Q _ => ∃ (p n : Addr) (ys : List Str), vs = [.ref p, .ref n] /\ PotOk p H /\ p ≠ n /\ H n = some (.lst (ys.map V.str)) /\ ys.length <= 20 /\
 ∀ (l : Addr) (own rest : List Str) (H' : Hp), H l = none -> (own ++ rest).Perm ys -> own.length <= 4 -> PotAt p H H' -> H' l = some (.lst (own.map V.str)) -> Q (.ref l) H'
theorem par_sp {p n : Addr} {ys : List Str} {H : Hp} {Q : VK} {E : XK} (hp : PotOk p H) (hpn : p ≠ n) (hn : H n = some (.lst (ys.map V.str))) (hl : ys.length <= 20)
  (q : ∀ (l : Addr) (own rest : List Str) (H' : Hp), H l = none -> (own ++ rest).Perm ys -> own.length <= 4 -> PotAt p H H' -> H' l = some (.lst (own.map V.str)) -> Q (.ref l) H') : spPar [.ref p, .ref n] H Q E := by
 unfold spPar; exact ⟨p, n, ys, rfl, hp, hpn, hn, hl, q⟩
abbrev nPar : List Str := ["_law_pot_here", "_law_made", "_law_left", "_law_own", "_law_turn", "_law_at"]
theorem scPar : FnScope nPar ["_law_pot_here", "_law_made"] (defScope sLParents) := ⟨rfl, rfl, rfl, by decide +kernel, rfl, by decide +kernel, by decide +kernel⟩
theorem ok_par {fD : Addr} {fdD : FuncData} (F : Fun K "_law_parents" "_law_parents" sLParents f fd) (B : Blt mg) (FD : Fun K "_law_digit" "_law_digit" sDigit fD fdD) (bD : Binds K fdD ["_law_pot_here", "_law_many"] []) (mD : mg "_law_digit" = some (.ref fD)) :
  FnOk P w K mg base CX0 2 f fd ["_law_pot_here", "_law_made"] spPar := by
 have GD : FnOk P w K mg base CX0 1 fD fdD ["_law_pot_here", "_law_many"] spDigit := ok_digit FD
 refine F.ok scPar (fun vs H Q E h => ?_) (fun cdv A outer s H vs Q E hr h => ?_)
 ·unfold spPar at h; obtain ⟨p, n, ys, rfl, _⟩ := h; rfl
 ·unfold spPar at h
  obtain ⟨p, n, ys, rfl, hp, hpn, hn, hlen, q⟩ := h
  have hr1 : Room 1 _ := hr
  refine ⟨_, pss_cons (ps_set (i := 2) scPar.nd rfl (Or.inl rfl) (pe_callTy call_list_of rfl B.list boot_list (pa_cons (pv 1) pa_nil)))
   (pss_cons (ps_set (i := 3) scPar.nd rfl (Or.inl rfl) (pe_lst pa_nil))
   (pss_cons (ps_for PassesOwn.never rfl (pi_range1 rfl B.range (pa_cons (pe_callB (call_min2 rfl) rfl B.min boot_min (pa_cons (pe_callB call_len_seq rfl B.len boot_len (pa_cons (pv 2) pa_nil))
     (pa_cons (pe_ix ix_list (pe_lst (pa_cons pe_int (pa_cons pe_int (pa_cons pe_int (pa_cons pe_int (pa_cons pe_int (pa_cons pe_int (pa_cons pe_int pa_nil)))))))) (pe_call GD hr1 rfl mD FD.kp bD .nil pass0 (pa_cons (pv 0) (pa_cons pe_int pa_nil))) (fun _ _ => rfl)) pa_nil))) pa_nil)) (pg_name (i := 4) scPar.nd rfl (Or.inl rfl))
    (pss_cons (ps_set (i := 5) scPar.nd rfl (Or.inl rfl) (pe_ix ix_list (pe_lst (pa_cons (pe_call GD hr1 rfl mD FD.kp bD .nil pass0 (pa_cons (pv 0) (pa_cons (pe_callB call_len_seq rfl B.len boot_len (pa_cons (pv 2) pa_nil)) pa_nil)))
      (pa_cons (pe_op op_sub (pe_callB call_len_seq rfl B.len boot_len (pa_cons (pv 2) pa_nil)) pe_int) pa_nil))) (pe_call GD hr1 rfl mD FD.kp bD .nil pass0 (pa_cons (pv 0) (pa_cons pe_int pa_nil))) (fun _ _ => rfl)))
    (pss_one (ps_expr (pe_bm PySem.F.plainAttrs_list PySem.F.slot_list_append PySem.F.type_list_append mt_append (pv 3)
     (pa_cons (pe_bm PySem.F.plainAttrs_list PySem.F.slot_list_pop PySem.F.type_list_pop mt_popAt (pv 2) (pa_cons (pv 5) pa_nil)) pa_nil))))))
   (pss_one (ps_ret (pv 3))))), ?_⟩
  refine ⟨_, rfl, n, _, rfl, .inl (SqL.of hn), fun la hla => ?_⟩
  refine ⟨Nat.zero_le _, fun fa hfa => ?_⟩
  have npl : p ≠ la := hp.ne hla
  have nlf : la ≠ fa := ne_of_none upd_same hfa
  have hfaH : H fa = none := (same_new hla).free hfa
  have npf : p ≠ fa := hp.ne hfaH
  have P0 : PotAt p H (upd (upd H la (.lst (ys.map V.str))) fa (.lst [])) := ((PotAt.refl hp).new hla).new hfa
  have hla0 : (upd (upd H la (.lst (ys.map V.str))) fa (.lst [])) la = some (.lst (ys.map V.str)) := by rw [upd_ne nlf]; exact upd_same
  have hfa0 : (upd (upd H la (.lst (ys.map V.str))) fa (.lst [])) fa = some (.lst []) := upd_same
  generalize upd (upd H la (.lst (ys.map V.str))) fa (.lst []) = H0 at P0 hla0 hfa0 ⊢
  refine ⟨_, rfl, la, _, rfl, .inl (SqL.of hla0), ?_⟩
  refine ⟨by show 7 <= sizeLine; rw [sizeLine_eq]; decide, fun c hc => ?_⟩
  have Pc := P0.new (o := .lst [V.int 0, .int 1, .int 1, .int 2, .int 2, .int 3, .int 4]) hc
  refine ⟨_, rfl, digit_sp (p := p) (m := 7) Pc.ok (by decide) (by decide) fun d H1 d0 d1 pa1 => ?_⟩
  have npc : p ≠ c := P0.ok.ne hc
  obtain ⟨v, hv, v0, v4⟩ := seven d0 d1
  refine ⟨c, _, d, .int v, rfl, rfl, SqL.of (pa1.kp _ _ upd_same (Ne.symm npc)), hv, ?_⟩
  have P1 := Pc.trans pa1
  have hla1 : H1 la = some (.lst (ys.map V.str)) := pa1.kp _ _ (by rw [upd_ne (ne_of_none hla0 hc)]; exact hla0) (Ne.symm npl)
  have hfa1 : H1 fa = some (.lst []) := pa1.kp _ _ (by rw [upd_ne (ne_of_none hfa0 hc)]; exact hfa0) (Ne.symm npf)
  refine ⟨_, v, rfl, ?_⟩
  rw [List.length_map]
  obtain ⟨N, hN, hN4, hNl⟩ : ∃ N : Nat, (if v < (ys.length : Int) then v else (ys.length : Int)) = N /\ N <= 4 /\ N <= ys.length := by
   split
   ·exact ⟨v.toNat, by omega, by omega, by omega⟩
   ·exact ⟨ys.length, rfl, by omega, Nat.le_refl _⟩
  rw [hN]
  refine ⟨(N : Int), rfl, by omega, by omega, for_range (fun i σ H1 => ∃ (zs ls : List Str) (v4 v5 : Option V), σ = [some (.ref p), some (.ref n), some (.ref la), some (.ref fa), v4, v5] /\ zs.length = i /\ (zs ++ ls).Perm ys /\ PotAt p H H1 /\ H1 la = some (.lst (ls.map V.str)) /\ H1 fa = some (.lst (zs.map V.str)))
   ⟨[], ys, none, none, rfl, rfl, List.Perm.refl _, P1, hla1, hfa1⟩ ?_ ?_⟩
  ·rintro i σ H1 hi ⟨zs, ls, v4, v5, rfl, hz, hP, pa, hla1, hfa1⟩
   have hlen2 := hP.length_eq
   rw [List.length_append] at hlen2
   have hi' : i < N := by simpa using hi
   have hpos : 0 < ls.length := by omega
   refine ⟨_, rfl, _, rfl, la, _, rfl, .inl (SqL.of hla1), ?_⟩
   refine digit_sp (p := p) pa.ok (by rw [List.length_map]; omega) (by rw [List.length_map]; omega) fun d H2 d0 d1 pb => ?_
   have hla2 := pb.kp _ _ hla1 (Ne.symm npl)
   have hfa2 := pb.kp _ _ hfa1 (Ne.symm npf)
   rw [List.length_map] at d1
   refine ⟨_, rfl, la, _, rfl, .inl (SqL.of hla2), _, 1, rfl, rfl, ?_⟩
   rw [List.length_map]
   refine ⟨by show 2 <= sizeLine; rw [sizeLine_eq]; decide, fun c2 hc2 => ?_⟩
   have Pc2 := (pa.trans pb).new (o := .lst [V.int d, .int ((ls.length : Int) - 1)]) hc2
   have npc2 : p ≠ c2 := pb.ok.ne hc2
   refine ⟨_, rfl, digit_sp (p := p) (m := 2) Pc2.ok (by decide) (by decide) fun e H3 e0 e1 pe => ?_⟩
   obtain ⟨v, hv, v0, v1⟩ := two_at (a := d) (b := (ls.length : Int) - 1) (m := (ls.length : Int)) e0 e1 ⟨d0, d1⟩ ⟨by omega, by omega⟩
   have hla3 : H3 la = some (.lst (ls.map V.str)) := pe.kp _ _ (by rw [upd_ne (ne_of_none hla2 hc2)]; exact hla2) (Ne.symm npl)
   have hfa3 : H3 fa = some (.lst (zs.map V.str)) := pe.kp _ _ (by rw [upd_ne (ne_of_none hfa2 hc2)]; exact hfa2) (Ne.symm npf)
   have P3 := Pc2.trans pe
   refine ⟨c2, _, e, .int v, rfl, rfl, SqL.of (pe.kp _ _ upd_same (Ne.symm npc2)), hv, ?_⟩
   have hd : v.toNat < ls.length := by omega
   refine ⟨_, rfl, .inl ⟨rfl, _, SqL.of hfa3⟩, _, rfl, .inl ⟨rfl, _, SqL.of hla3⟩, _, rfl, ?_⟩
   refine ⟨la, _, v, v.toNat, .str ls[v.toNat], rfl, rfl, hla3, by omega, by omega, seqIndex_of v0 (by rw [List.length_map]; exact v1), by rw [List.getElem?_map, List.getElem?_eq_getElem hd]; rfl, ?_⟩
   have hfa4 : (upd H3 la (.lst ((ls.map V.str).eraseIdx v.toNat))) fa = some (.lst (zs.map V.str)) := by rw [upd_ne (Ne.symm nlf)]; exact hfa3
   refine ⟨fa, _, _, rfl, rfl, hfa4, by rw [List.length_map, sizeLine_eq]; omega, ?_⟩
   refine ⟨zs ++ [ls[v.toNat]], ls.eraseIdx v.toNat, _, _, rfl, by rw [List.length_append]; simp [hz], ?_, (P3.write hla npl).write hfaH npf, ?_, ?_⟩
   ·refine List.Perm.trans ?_ hP
    rw [List.append_assoc]
    exact List.Perm.append_left zs (erase_perm ls _ hd)
   ·rw [upd_ne nlf, upd_same, map_erase]
   ·rw [upd_same, List.map_append]; rfl
  ·rintro σ H1 ⟨zs, ls, v4, v5, rfl, hz, hP, pa, hla1, hfa1⟩
   have hz' : zs.length = N := by simpa using hz
   exact ⟨_, rfl, q fa zs ls H1 hfaH hP (by omega) pa hfa1⟩
end
end K35
namespace K35
open PySem L2 HT
def kept (rows : List (List Str)) (o : List Str) : Bool := rows.all fun r => decide ((o.filter fun n => decide (n ∈ r)) = r)
theorem free_first {all : List (List Str)} {n : Str} : ∀ {rest : List (List Str)}, freeFrom all rest = some n -> wishFrom 0 all n = none /\ ∃ (i : Nat) (r : List Str), rest[i]? = some r /\ r.head? = some n /\ ∀ (j : Nat) (q : List Str) (y : Str), rest[j]? = some q -> q.head? = some y -> wishFrom 0 all y = none -> i <= j
 | [], h => by cases h
 | [] :: rest, h => by
  obtain ⟨h1, i, r, e1, e2, e3⟩ := free_first (rest := rest) h
  refine ⟨h1, i + 1, r, by simpa using e1, e2, fun j q y hj hq hy => ?_⟩
  cases j with
  | zero =>
   obtain rfl : [] = q := by simpa using hj
   simp at hq
  | succ j => have := e3 j q y (by simpa using hj) hq hy; omega
 | (x :: t) :: rest, h => by
  have h : (if (wishFrom 0 all x).isNone then some x else freeFrom all rest) = some n := h
  by_cases c : (wishFrom 0 all x).isNone = true
  ·rw [if_pos c] at h
   cases h
   exact ⟨by simpa using c, 0, _, rfl, rfl, fun _ _ _ _ _ _ => Nat.zero_le _⟩
  ·rw [if_neg c] at h
   obtain ⟨h1, i, r, e1, e2, e3⟩ := free_first (rest := rest) h
   refine ⟨h1, i + 1, r, by simpa using e1, e2, fun j q y hj hq hy => ?_⟩
   cases j with
   | zero =>
    obtain rfl : x :: t = q := by simpa using hj
    obtain rfl : x = y := by simpa using hq
    exact absurd (by rw [hy]; rfl) c
   | succ j => have := e3 j q y (by simpa using hj) hq hy; omega
def IsOrder (rest : List (List Str)) (q : List Str) : Prop := q.Nodup /\ ∀ x, x ∈ q ↔ ∃ r ∈ rest, x ∈ r
theorem kept_iff {rest : List (List Str)} {q : List Str} : kept rest q = true ↔ ∀ r ∈ rest, (q.filter fun n => decide (n ∈ r)) = r := by
 unfold kept; rw [List.all_eq_true]; simp
theorem mem_without {n x : Str} {rest : List (List Str)} : (∃ r ∈ L2.without n rest, x ∈ r) ↔ x ≠ n /\ ∃ r ∈ rest, x ∈ r := by
 constructor
 ·rintro ⟨r, hr, hx⟩
  obtain ⟨q, hq, rfl⟩ := List.mem_map.mp hr
  have := List.mem_filter.mp hx
  exact ⟨by simpa using this.2, q, hq, this.1⟩
 ·rintro ⟨h, q, hq, hx⟩
  exact ⟨_, List.mem_map.mpr ⟨q, hq, rfl⟩, List.mem_filter.mpr ⟨hx, by simpa using h⟩⟩
theorem any_iff {rest : List (List Str)} : (rest.any fun r => !r.isEmpty) = true ↔ ∃ r ∈ rest, ∃ x, x ∈ r := by
 rw [List.any_eq_true]
 constructor
 ·rintro ⟨r, hr, e⟩
  cases r with
  | nil => simp at e
  | cons x t => exact ⟨_, hr, x, List.mem_cons_self⟩
 ·rintro ⟨r, hr, x, hx⟩
  refine ⟨r, hr, ?_⟩
  cases r with
  | nil => simp at hx
  | cons y t => rfl
theorem sound : ∀ (m : Nat) (rest : List (List Str)), total rest = m -> (∀ r ∈ rest, r.Nodup) -> ∀ o, mergeG (total rest) rest = some o -> IsOrder rest o /\ kept rest o = true := by
 intro m
 induction m using Nat.strongRecOn with
 | _ m ih =>
  intro rest hm hnd o ho
  cases hA : rest.any fun r => !r.isEmpty with
  | false =>
   rw [merge_stop hA] at ho
   cases ho
   have emp : ∀ r ∈ rest, ∀ x, x ∉ r := fun r hr x hx => by
    have := any_iff.mpr ⟨r, hr, x, hx⟩
    rw [hA] at this; cases this
   refine ⟨⟨List.nodup_nil, fun x => ⟨fun h => by simp at h, fun ⟨r, hr, hx⟩ => absurd hx (emp r hr x)⟩⟩, kept_iff.mpr fun r hr => ?_⟩
   cases r with
   | nil => rfl
   | cons y t => exact absurd List.mem_cons_self (emp _ hr y)
  | true =>
   cases e : leastFree rest with
   | none => rw [merge_none hA e] at ho; cases ho
   | some n =>
    rw [merge_some hA e] at ho
    obtain ⟨o', ho', rfl⟩ := Option.map_eq_some_iff.mp ho
    have lt := total_without_lt (least_mem e)
    obtain ⟨⟨h1, h2⟩, h3⟩ := ih _ (by omega) (L2.without n rest) rfl (nd_without hnd) o' ho'
    rw [kept_iff] at h3
    have hno : n ∉ o' := fun z => ((mem_without.mp ((h2 n).mp z)).1 rfl)
    obtain ⟨hfree, _⟩ := free_first e
    rw [wish_none] at hfree
    refine ⟨⟨List.nodup_cons.mpr ⟨hno, h1⟩, fun x => ?_⟩, kept_iff.mpr fun r hr => ?_⟩
    ·rw [List.mem_cons, h2, mem_without]
     constructor
     ·rintro (rfl | h)
      ·exact least_mem e
      ·exact h.2
     ·intro h
      by_cases z : x = n
      ·exact .inl z
      ·exact .inr ⟨z, h⟩
    ·have hr' := h3 _ (List.mem_map.mpr ⟨r, hr, rfl⟩)
     have same : (o'.filter fun y => decide (y ∈ r)) = o'.filter fun y => decide (y ∈ r.filter fun y => !decide (y = n)) := by
      apply List.filter_congr
      intro y hy
      have : y ≠ n := fun z => hno (z ▸ hy)
      simp [this]
     by_cases hn : n ∈ r
     ·have hh := hfree r hr hn
      cases r with
      | nil => simp at hn
      | cons z t =>
       obtain rfl : z = n := by simpa using hh
       have ht : z ∉ t := (List.nodup_cons.mp (hnd _ hr)).1
       have et : ((z :: t).filter fun y => !decide (y = z)) = t := by
        rw [List.filter_cons_of_neg (by simp)]
        exact List.filter_eq_self.mpr fun y hy => by
         have : y ≠ z := fun w => ht (w ▸ hy)
         simpa using this
       rw [List.filter_cons_of_pos (by simp), same, hr', et]
     ·have er : (r.filter fun y => !decide (y = n)) = r := List.filter_eq_self.mpr fun y hy => by
       have : y ≠ n := fun w => hn (w ▸ hy)
       simpa using this
      rw [List.filter_cons_of_neg (by simpa using hn), same, hr', er]
end K35
namespace K35
open PySem L2 PySem.W HT
theorem len_sub {a b : List Str} (nd : a.Nodup) (h : ∀ x ∈ a, x ∈ b) : a.length <= b.length := few_of nd h
structure Fm (done : List Str) (L Ps : Str -> List Str) : Prop where
 ps : ∀ x ∈ done, (Ps x).Nodup /\ (Ps x).length <= 4 /\ ∀ y ∈ Ps x, y ∈ done
 ln : ∀ x ∈ done, ∃ o, mergeG (total (rowsOf L (Ps x))) (rowsOf L (Ps x)) = some o /\ L x = x :: o
 ld : ∀ x ∈ done, (L x).Nodup /\ ∀ y ∈ L x, y ∈ done
theorem mem_rowsOf {L : Str -> List Str} {own r : List Str} : r ∈ rowsOf L own ↔ (∃ y ∈ own, r = L y) \/ r = own := by
 unfold rowsOf
 rw [List.mem_append, List.mem_map, List.mem_singleton]
 constructor
 ·rintro (⟨y, h, rfl⟩ | h)
  ·exact .inl ⟨y, h, rfl⟩
  ·exact .inr h
 ·rintro (⟨y, h, rfl⟩ | h)
  ·exact .inl ⟨y, h, rfl⟩
  ·exact .inr h
theorem Fm.rowsIn {done : List Str} {L Ps : Str -> List Str} (F : Fm done L Ps) {own : List Str} (nd : own.Nodup) (sub : ∀ y ∈ own, y ∈ done) : ∀ r ∈ rowsOf L own, r.Nodup /\ ∀ y ∈ r, y ∈ done := fun r hr => by
 rcases mem_rowsOf.mp hr with ⟨y, hy, rfl⟩ | rfl
 ·exact F.ld y (sub y hy)
 ·exact ⟨nd, sub⟩
theorem Fm.small {done : List Str} {L Ps : Str -> List Str} (F : Fm done L Ps) (hk : ∀ x ∈ done, Nm x) (h8 : done.length <= 8) {own : List Str} (nd : own.Nodup) (h4 : own.length <= 4) (sub : ∀ y ∈ own, y ∈ done) : Small (rowsOf L own) := by
 refine ⟨?_, fun r hr => ?_, fun r hr y hy => ?_⟩
 ·unfold rowsOf; rw [List.length_append, List.length_map, List.length_singleton]; omega
 ·obtain ⟨h1, h2⟩ := F.rowsIn nd sub r hr
  have := len_sub h1 h2
  omega
 ·exact hk y ((F.rowsIn nd sub r hr).2 y hy)
theorem Fm.order {done : List Str} {L Ps : Str -> List Str} (F : Fm done L Ps) {own o : List Str} (nd : own.Nodup) (sub : ∀ y ∈ own, y ∈ done) (hm : mergeG (total (rowsOf L own)) (rowsOf L own) = some o) : o.Nodup /\ (∀ y ∈ o, y ∈ done) /\ ∀ r ∈ rowsOf L own, ∀ y ∈ r, y ∈ o := by
 obtain ⟨⟨h1, h2⟩, _⟩ := sound _ _ rfl (fun r hr => (F.rowsIn nd sub r hr).1) o hm
 refine ⟨h1, fun y hy => ?_, fun r hr y hy => (h2 y).mpr ⟨r, hr, hy⟩⟩
 obtain ⟨r, hr, h⟩ := (h2 y).mp hy
 exact (F.rowsIn nd sub r hr).2 y h
theorem rowsOf_ext {L L' : Str -> List Str} {own : List Str} (h : ∀ y ∈ own, L' y = L y) : rowsOf L' own = rowsOf L own := by
 unfold rowsOf; rw [List.map_congr_left h]
theorem Fm.add {done : List Str} {L Ps : Str -> List Str} (F : Fm done L Ps) {k : Str} {own o : List Str} (hk : k ∉ done) (nd : own.Nodup) (h4 : own.length <= 4) (sub : ∀ y ∈ own, y ∈ done) (hm : mergeG (total (rowsOf L own)) (rowsOf L own) = some o) :
  Fm (done ++ [k]) (fun x => if x = k then k :: o else L x) (fun x => if x = k then own else Ps x) := by
 have nk : ∀ {y}, y ∈ done -> y ≠ k := fun h z => hk (z ▸ h)
 have ext : ∀ {ps : List Str}, (∀ y ∈ ps, y ∈ done) -> rowsOf (fun x => if x = k then k :: o else L x) ps = rowsOf L ps := fun h => rowsOf_ext fun y hy => if_neg (nk (h y hy))
 obtain ⟨o1, o2, _⟩ := F.order nd sub hm
 refine ⟨fun x hx => ?_, fun x hx => ?_, fun x hx => ?_⟩
 ·by_cases e : x = k
  ·rw [if_pos e]; exact ⟨nd, h4, fun y hy => List.mem_append_left _ (sub y hy)⟩
  ·rw [if_neg e]
   obtain ⟨a, b, c⟩ := F.ps x (by rcases List.mem_append.mp hx with z | z; exact z; exact absurd (by simpa using z) e)
   exact ⟨a, b, fun y hy => List.mem_append_left _ (c y hy)⟩
 ·by_cases e : x = k
  ·refine ⟨o, ?_, by rw [if_pos e, e]⟩
   rw [if_pos e, ext sub]; exact hm
  ·have hx' : x ∈ done := by rcases List.mem_append.mp hx with z | z; exact z; exact absurd (by simpa using z) e
   obtain ⟨o', h1, h2⟩ := F.ln x hx'
   refine ⟨o', ?_, by rw [if_neg e]; exact h2⟩
   rw [if_neg e, ext (F.ps x hx').2.2]; exact h1
 ·by_cases e : x = k
  ·rw [if_pos e]
   refine ⟨List.nodup_cons.mpr ⟨fun z => hk (o2 k z), o1⟩, fun y hy => ?_⟩
   rcases List.mem_cons.mp hy with z | z
   ·rw [z]; exact List.mem_append_right _ List.mem_cons_self
   ·exact List.mem_append_left _ (o2 y z)
  ·rw [if_neg e]
   have hx' : x ∈ done := by rcases List.mem_append.mp hx with z | z; exact z; exact absurd (by simpa using z) e
   obtain ⟨a, b⟩ := F.ld x hx'
   exact ⟨a, fun y hy => List.mem_append_left _ (b y hy)⟩
def famOf (Ps : Str -> List Str) (ks : List Str) : List (Str × List Str) := ks.map fun x => (x, Ps x)
theorem famOf_keys (Ps : Str -> List Str) (ks : List Str) : (famOf Ps ks).map (·.1) = ks := by
 unfold famOf; rw [List.map_map]; exact List.map_id' _
theorem Fm.famOk {ks : List Str} {L Ps : Str -> List Str} (F : Fm ks L Ps) (nd : ks.Nodup) (hk : ∀ x ∈ ks, Nm x) (h8 : ks.length <= 8) : FamOk (famOf Ps ks) L := by
 have mem : ∀ {p : Str × List Str}, p ∈ famOf Ps ks -> p.1 ∈ ks /\ p.2 = Ps p.1 := fun {p} hp => by
  obtain ⟨x, hx, rfl⟩ := List.mem_map.mp hp
  exact ⟨hx, rfl⟩
 refine ⟨by rw [famOf_keys]; exact nd, by unfold famOf; rw [List.length_map]; exact h8, fun p hp => hk _ (mem hp).1, fun p hp x hx => ?_, ⟨fun x => (L x).length, fun p hp x hx => ?_⟩, fun p hp => ?_⟩
 ·obtain ⟨h1, h2⟩ := mem hp
  rw [h2] at hx
  exact ⟨(x, Ps x), List.mem_map.mpr ⟨x, (F.ps _ h1).2.2 x hx, rfl⟩, rfl⟩
 ·obtain ⟨h1, h2⟩ := mem hp
  rw [h2] at hx
  obtain ⟨o, hm, hL⟩ := F.ln _ h1
  obtain ⟨n1, _, n3⟩ := F.ps _ h1
  obtain ⟨_, _, h5⟩ := F.order n1 n3 hm
  have := len_sub (F.ld x (n3 x hx)).1 fun y hy => h5 (L x) (mem_rowsOf.mpr (.inl ⟨x, hx, rfl⟩)) y hy
  show (L x).length < (L p.1).length
  rw [hL, List.length_cons]; omega
 ·obtain ⟨h1, h2⟩ := mem hp
  rw [h2]
  obtain ⟨o, hm, hL⟩ := F.ln _ h1
  obtain ⟨n1, n2, n3⟩ := F.ps _ h1
  obtain ⟨h3, h4, _⟩ := F.order n1 n3 hm
  exact ⟨F.small hk h8 n1 n2 n3, o, hm, hL, by have := len_sub h3 h4; omega⟩
theorem merge_nil : mergeG (total (rowsOf L [])) (rowsOf L []) = some [] := rfl
theorem cut_last (xs : List Str) : cutV (xs.map V.str) none (some (-1)) = xs.dropLast.map V.str := by
 unfold cutV
 have e1 : HT.sIx (xs.map V.str).length 0 none = 0 := rfl
 have e2 : HT.sIx (xs.map V.str).length (xs.map V.str).length (some (-1)) = xs.length - 1 := by
  rw [List.length_map]
  unfold HT.sIx
  simp
  omega
 rw [e1, e2, List.drop_zero, Nat.sub_zero, <- List.map_take, List.dropLast_eq_take]
theorem strs_pot {p a : Addr} {H : Hp} {xs : List Str} (h : PotOk p H) (e : H a = some (.lst (xs.map V.str))) : a ≠ p := by
 rintro rfl
 obtain ⟨x, y, e2, _⟩ := h
 rw [e] at e2
 have e3 : xs.map V.str = [.int x, .int y] := HO.lst.inj (Option.some.inj e2)
 cases xs with
 | nil => cases e3
 | cons z t => cases e3
theorem LnL.pot {p : Addr} {H H' : Hp} {kvs : List (Key × V)} {L : Str -> List Str} {x : Str} (h : LnL H kvs L x) (ok : PotOk p H) (s : PotAt p H H') : LnL H' kvs L x := let ⟨a, e, q⟩ := h; ⟨a, e, s.kp _ _ q (strs_pot ok q)⟩
theorem LnL.write {H H' : Hp} {d : Addr} {kvs kvs0 : List (Key × V)} {L : Str -> List Str} {x : Str} {u : HO} (h : LnL H kvs L x) (hd : H d = some (.dK kvs0)) (e : H' = upd H d u) : LnL H' kvs L x := let ⟨a, e1, q⟩ := h; ⟨a, e1, by rw [e, upd_ne (ne_of q hd (by intro z; cases z))]; exact q⟩
theorem keep_dk {p d : Addr} {H H' : Hp} {kvs : List (Key × V)} (ok : PotOk p H) (s : PotAt p H H') (e : H d = some (.dK kvs)) : H' d = some (.dK kvs) := by
 obtain ⟨x, y, ep, _⟩ := ok
 exact s.kp _ _ e (ne_of e ep (by intro z; cases z))
theorem pot_same {p : Addr} {H H' : Hp} (h : PotOk p H) (s : Same H H') : PotAt p H H' := by
 obtain ⟨x, y, e, r⟩ := h
 exact ⟨⟨x, y, s _ _ e, r⟩, fun b o e _ => s b o e⟩
theorem lnL_put {H : Hp} {kvs : List (Key × V)} {L : Str -> List Str} {k : Str} {a d : Addr} {l : List Str} (hd : H d = some (.dK kvs)) (hl : H a = some (.lst (l.map V.str))) {x : Str} (h : x ≠ k -> LnL H kvs L x) :
  LnL (upd H d (.dK (putK kvs (Sum.inr k) (.ref a)))) (putK kvs (Sum.inr k) (.ref a)) (fun x => if x = k then l else L x) x := by
 unfold LnL
 rw [valV_put]
 by_cases e : x = k
 ·subst e
  refine ⟨a, by rw [if_pos rfl], ?_⟩
  rw [upd_ne (ne_of hl hd (by intro z; cases z))]; show H a = some (.lst ((if x = x then l else L x).map V.str)); rw [if_pos rfl]; exact hl
 ·obtain ⟨b, e1, e2⟩ := h e
  refine ⟨b, by rw [if_neg (fun z => e (Sum.inr.inj z))]; exact e1, ?_⟩
  rw [upd_ne (ne_of e2 hd (by intro z; cases z))]; show H b = some (.lst ((if x = k then l else L x).map V.str)); rw [if_neg e]; exact e2
theorem keys_put {kvs : List (Key × V)} {done : List Str} {k : Str} {v : V} (h : kvs.map (·.1) = done.map Sum.inr) (hk : k ∉ done) : (putK kvs (Sum.inr k) v).map (·.1) = (done ++ [k]).map Sum.inr := by
 have hv : valV kvs (Sum.inr k) = none := by
  have : (valV kvs (Sum.inr k)).isSome = false := by
   rw [<- valV_any, List.any_eq_false]
   intro kv hkv hd
   have e : kv.1 = Sum.inr k := of_decide_eq_true hd
   have : kv.1 ∈ kvs.map (·.1) := List.mem_map.mpr ⟨kv, hkv, rfl⟩
   rw [h, e] at this
   obtain ⟨y, hy, ey⟩ := List.mem_map.mp this
   exact hk (Sum.inr.inj ey ▸ hy)
  cases e : valV kvs (Sum.inr k) with
  | none => rfl
  | some _ => rw [e] at this; cases this
 rw [putK_new _ hv, List.map_append, List.map_append, h]; rfl
theorem FamV.pairsR {H : Hp} {vs : List V} {fam : List (Str × List Str)} (h : FamV H vs fam) : ∃ kvs, PairsV H vs kvs /\ kvs.map (·.1) = fam.map (·.1) /\ ∀ q ∈ kvs, ∃ z, q.2 = V.ref z := by
 induction h with
 | nil => exact ⟨[], .nil, rfl, by simp⟩
 | cons p _ ih =>
  obtain ⟨a, b, e, q, r⟩ := p
  obtain ⟨kvs, h1, h2, h3⟩ := ih
  refine ⟨(_, .ref b) :: kvs, .cons ⟨a, e, q⟩ h1, by rw [List.map_cons, List.map_cons, h2], fun z hz => ?_⟩
  rcases List.mem_cons.mp hz with rfl | hz
  ·exact ⟨b, rfl⟩
  ·exact h3 z hz
end K35
namespace K35
open PySem L2 PySem.W HT
section
variable {P : Program} {w : World} {K : Frag} {mg : Str -> Option Value} {base : Heap} {f : Addr} {fd : FuncData}
structure FmRes (p : Addr) (H : Hp) (ks : List Str) (r d1 d2 : Addr) (kvs1 kvs2 : List (Key × V)) (L Ps : Str -> List Str) (H' : Hp) : Prop where
 pa : PotAt p H H'
 hr : H' r = some (.tup [.ref d1, .ref d2])
 h1 : H' d1 = some (.dK kvs1)
 h2 : H' d2 = some (.dK kvs2)
 k1 : kvs1.map (·.1) = ks.map Sum.inr
 k2 : kvs2.map (·.1) = ks.map Sum.inr
 l1 : ∀ x ∈ ks, LnL H' kvs1 L x
 l2 : ∀ x ∈ ks, LnL H' kvs2 Ps x
 fm : Fm ks L Ps
 n1 : H d1 = none
 n2 : H d2 = none
 n3 : H r = none
 n12 : d1 ≠ d2
@[irreducible] def spFm : Sp := fun vs H Q _ => ∃ (p n : Addr) (ks : List Str), vs = [.ref p, .ref n] /\ PotOk p H /\ H n = some (.lst (ks.map V.str)) /\ ks.Nodup /\ (∀ x ∈ ks, Nm x) /\ ks.length <= 8 /\
 ∀ (r d1 d2 : Addr) (kvs1 kvs2 : List (Key × V)) (L Ps : Str -> List Str) (H' : Hp), FmRes p H ks r d1 d2 kvs1 kvs2 L Ps H' -> Q (.ref r) H'
theorem fm_sp {p n : Addr} {ks : List Str} {H : Hp} {Q : VK} {E : XK} (hp : PotOk p H) (hn : H n = some (.lst (ks.map V.str))) (nd : ks.Nodup) (nm : ∀ x ∈ ks, Nm x) (h8 : ks.length <= 8)
  (q : ∀ (r d1 d2 : Addr) (kvs1 kvs2 : List (Key × V)) (L Ps : Str -> List Str) (H' : Hp), FmRes p H ks r d1 d2 kvs1 kvs2 L Ps H' -> Q (.ref r) H') : spFm [.ref p, .ref n] H Q E := by unfold spFm; exact ⟨p, n, ks, rfl, hp, hn, nd, nm, h8, q⟩
abbrev nFm : List Str := ["_law_pot_here", "_law_kinds", "_law_lines", "_law_parents_here", "_law_kind", "_law_own", "_law_turn"]
theorem scFm : FnScope nFm ["_law_pot_here", "_law_kinds"] (defScope sLFamily) := ⟨rfl, rfl, rfl, by decide +kernel, rfl, by decide +kernel, by decide +kernel⟩
theorem ok_fm {fP fL : Addr} {dP dL : FuncData} (F : Fun K "_law_family" "_law_family" sLFamily f fd) (B : Blt mg) (B2 : Blt2 mg)
  (GP : FnOk P w K mg base CX0 2 fP dP ["_law_pot_here", "_law_made"] spPar) (kP : keepIn K (.ref fP) = true) (bP : Binds K dP ["_law_pot_here", "_law_made"] []) (mP : mg "_law_parents" = some (.ref fP))
  (GL : FnOk P w K mg base CX0 2 fL dL ["_law_lines", "_law_kind", "_law_own"] spLL) (kL : keepIn K (.ref fL) = true) (bL : Binds K dL ["_law_lines", "_law_kind", "_law_own"] []) (mL : mg "_law_line" = some (.ref fL)) :
  FnOk P w K mg base CX0 3 f fd ["_law_pot_here", "_law_kinds"] spFm := by
 refine F.ok scFm (fun vs H Q E h => ?_) (fun cdv A outer s H vs Q E hr h => ?_)
 ·unfold spFm at h; obtain ⟨p, n, ks, rfl, _⟩ := h; rfl
 ·unfold spFm at h
  obtain ⟨p, n, ks, rfl, hp, hn, knd, knm, k8, q⟩ := h
  have hu := hr.units
  have hu1 := Nat.lt_of_le_of_lt (Nat.add_le_add_left (show 1 <= 64 by decide) _) hu
  refine ⟨_, pss_cons (ps_par (i := 2) (j := 3) rfl scFm.nd rfl rfl (by decide) rfl rfl (pa_cons pe_dnewK (pa_cons pe_dnewK pa_nil)) rfl)
   (pss_cons (ps_for PassesOwn.never rfl (pi_list (pv 1)) (pg_name (i := 4) scFm.nd rfl (Or.inl rfl))
    (pss_cons (ps_set (i := 5) scFm.nd rfl (Or.inl rfl) (pe_call GP hr rfl mP kP bP .nil pass0 (pa_cons (pv 0) (pa_cons (pe_callTy (call_listD rfl) rfl B.list boot_list (pa_cons (pv 2) pa_nil)) pa_nil))))
    (pss_cons (ps_for PassesOwn.never rfl (pi_range1 rfl B.range (pa_cons pe_int pa_nil)) (pg_name (i := 6) scFm.nd rfl (Or.inl rfl))
     (pss_one (ps_if (pt_cmpR op_isN (pe_call GL hr rfl mL kL bL .nil pass0 (pa_cons (pv 2) (pa_cons (pv 4) (pa_cons (pv 5) pa_nil)))) pe_non (nomark _))
      (pss_one (ps_set (i := 5) scFm.nd rfl (Or.inl rfl) (pe_slice sl_list (pv 5) po_none (po_some (pe_un un_neg pe_int))))) pss_nil)))
    (pss_cons (ps_dput hu1 (pv 2) (pv 4) (pe_call GL hr rfl mL kL bL .nil pass0 (pa_cons (pv 2) (pa_cons (pv 4) (pa_cons (pv 5) pa_nil)))) rfl)
    (pss_one (ps_dput hu1 (pv 3) (pv 4) (pv 5) rfl))))))
   (pss_one (ps_ret (pe_tup (pa_cons (pv 2) (pa_cons (pv 3) pa_nil)))))), ?_⟩
  intro d1 hd1 d2 hd2
  have S2 : Same H (upd (upd H d1 (.dK [])) d2 (.dK [])) := (same_new hd1).trans (same_new hd2)
  have n12 : d1 ≠ d2 := ne_of_none upd_same hd2
  have hd2H : H d2 = none := (same_new hd1).free hd2
  have hd1' : (upd (upd H d1 (.dK [])) d2 (.dK [])) d1 = some (.dK []) := by rw [upd_ne n12]; exact upd_same
  have hd2' : (upd (upd H d1 (.dK [])) d2 (.dK [])) d2 = some (.dK []) := upd_same
  have S3 := S2
  clear S2
  refine ⟨_, _, rfl, ?_⟩
  generalize upd (upd H d1 (.dK [])) d2 (.dK []) = H0 at S3 hd1' hd2' ⊢
  have P0 : PotAt p H H0 := pot_same hp S3
  have np1 : p ≠ d1 := hp.ne hd1
  have np2 : p ≠ d2 := hp.ne hd2H
  have nnp : n ≠ p := strs_pot hp hn
  refine ⟨_, rfl, n, rfl, ⟨_, SqL.of (P0.kp _ _ hn nnp)⟩, for_list (xs := ks.map V.str) (fun i σ H1 => ∃ (kvs1 kvs2 : List (Key × V)) (L Ps : Str -> List Str) (v4 v5 v6 : Option V), σ = [some (.ref p), some (.ref n), some (.ref d1), some (.ref d2), v4, v5, v6] /\ PotAt p H H1 /\
   H1 d1 = some (.dK kvs1) /\ H1 d2 = some (.dK kvs2) /\ kvs1.map (·.1) = (ks.take i).map Sum.inr /\ kvs2.map (·.1) = (ks.take i).map Sum.inr /\ (∀ x ∈ ks.take i, LnL H1 kvs1 L x) /\ (∀ x ∈ ks.take i, LnL H1 kvs2 Ps x) /\ Fm (ks.take i) L Ps)
   ⟨[], [], fun _ => [], fun _ => [], none, none, none, rfl, P0, hd1', hd2', rfl, rfl, fun x hx => (by cases hx), fun x hx => (by cases hx), ⟨fun x hx => (by cases hx), fun x hx => (by cases hx), fun x hx => (by cases hx)⟩⟩ (fun i σ H1 _ ⟨_, _, _, _, _, _, _, _, z, _⟩ => SqL.of (z.kp _ _ hn nnp)) ?_ ?_⟩
  ·rintro i x σ H1 hx ⟨kvs1, kvs2, L, Ps, v4, v5, v6, rfl, P1, h11, h12, e1, e2, l1, l2, fm⟩
   have hil : i < ks.length := by simpa using (List.getElem?_eq_some_iff.mp hx).1
   obtain rfl : V.str ks[i] = x := by simpa [hil] using hx
   have tki : ks.take (i + 1) = ks.take i ++ [ks[i]] := by rw [List.take_succ, List.getElem?_eq_getElem hil]; rfl
   have hnot : ks[i] ∉ ks.take i := by
    have : (ks.take (i + 1)).Nodup := knd.sublist (List.take_sublist _ _)
    rw [tki] at this
    exact fun z => (List.nodup_append.mp this).2.2 _ z _ List.mem_cons_self rfl
   have dnd : (ks.take i).Nodup := knd.sublist (List.take_sublist _ _)
   have dnm : ∀ x ∈ ks.take i, Nm x := fun x hx => knm x (List.mem_of_mem_take hx)
   have d8 : (ks.take i).length <= 8 := by rw [List.length_take]; omega
   have lk1 : kvs1.length = (ks.take i).length := by have := congrArg List.length e1; simpa using this
   have lk2 : kvs2.length = (ks.take i).length := by have := congrArg List.length e2; simpa using this
   refine ⟨_, rfl, _, rfl, d1, kvs1, rfl, h11, fun l hl => ?_⟩
   have ek : kvs1.map (fun kv => kV kv.1) = (ks.take i).map V.str := by
    have : kvs1.map (fun kv => kV kv.1) = (kvs1.map (·.1)).map kV := by rw [List.map_map]; rfl
    rw [this, e1, List.map_map]; rfl
   rw [ek]
   have Pl := P1.new (o := .lst ((ks.take i).map V.str)) hl
   have Sl := same_new (o := .lst ((ks.take i).map V.str)) hl
   refine par_sp Pl.ok (P1.ok.ne hl) upd_same (by omega) fun oa own rest H3 hoa hperm ho4 pb h3 => ?_
   have P3 := Pl.trans pb
   have ond : own.Nodup := (List.nodup_append.mp (hperm.nodup_iff.mpr dnd)).1
   have osub : ∀ y ∈ own, y ∈ ks.take i := fun y hy => hperm.mem_iff.mp (List.mem_append_left _ hy)
   have h31 := keep_dk Pl.ok pb (Sl _ _ h11)
   have h32 := keep_dk Pl.ok pb (Sl _ _ h12)
   have l31 : ∀ x ∈ ks.take i, LnL H3 kvs1 L x := fun x hx => ((l1 x hx).same Sl).pot Pl.ok pb
   have l32 : ∀ x ∈ ks.take i, LnL H3 kvs2 Ps x := fun x hx => ((l2 x hx).same Sl).pot Pl.ok pb
   refine ⟨4, rfl, by decide, by decide, for_range (fun j σ H4 => ∃ (oa : Addr) (own : List Str) (v6 : Option V), σ = [some (.ref p), some (.ref n), some (.ref d1), some (.ref d2), some (.str ks[i]), some (.ref oa), v6] /\ Same H3 H4 /\ H4 oa = some (.lst (own.map V.str)) /\ own.Nodup /\ (∀ y ∈ own, y ∈ ks.take i) /\ own.length <= 4 /\ (mergeG (total (rowsOf L own)) (rowsOf L own) ≠ none \/ own.length + j <= 4))
    ⟨oa, own, _, rfl, Same.refl _, h3, ond, osub, ho4, .inr ho4⟩ ?_ ?_⟩
   ·clear hperm ho4 ond osub h3 hoa
    rintro j σ H4 hj ⟨oa, own, v6, rfl, S4, h4, ond, osub, ho4, hor⟩
    have hsm := fm.small dnm d8 ond ho4 osub
    have hrn := fun r hr => (fm.rowsIn ond osub r hr).1
    refine ⟨_, rfl, _, rfl, _, rfl, ll_sp (S4 _ _ h31) h4 (fun x hx => (l31 x (osub x hx)).same S4) hsm hrn (fun e H5 S5 => ?_) (fun o e lp H5 hlp S5 h5 => ?_)⟩
    ·refine ⟨rfl, _, rfl, ?_⟩
     refine ⟨_, rfl, ?_⟩
     have hne : own ≠ [] := fun z => by rw [z] at e; cases e
     have hpos : 0 < own.length := List.length_pos_iff.mpr hne
     refine ⟨1, rfl, _, rfl, oa, _, rfl, SqL.of (S5 _ _ h4), fun c hc => ?_⟩
     refine ⟨c, own.dropLast, _, rfl, (S4.trans S5).trans (same_new hc), ?_, ond.sublist (List.dropLast_sublist _), fun y hy => osub y (List.dropLast_subset _ hy), by rw [List.length_dropLast]; omega, .inr ?_⟩
     ·have := cut_last own
      rw [upd_same]; exact congrArg some (congrArg HO.lst this)
     ·rcases hor with z | z
      ·exact absurd e z
      ·rw [List.length_dropLast]; omega
    ·refine ⟨rfl, _, rfl, ?_⟩
     exact ⟨oa, own, _, rfl, S4.trans S5, S5 _ _ h4, ond, osub, ho4, .inl (by rw [e]; exact Option.some_ne_none _)⟩
   ·clear hperm ho4 ond osub h3 hoa
    rintro σ H4 ⟨oa, own, v6, rfl, S4, h4, ond, osub, ho4, hor⟩
    have hsm := fm.small dnm d8 ond ho4 osub
    have hrn := fun r hr => (fm.rowsIn ond osub r hr).1
    have hn0 : mergeG (total (rowsOf L own)) (rowsOf L own) ≠ none := by
     rcases hor with z | z
     ·exact z
     ·have z2 : own.length = 0 := by have : own.length + Int.toNat 4 <= 4 := z; have e4 : Int.toNat 4 = 4 := rfl; omega
      rw [List.length_eq_zero_iff.mp z2, merge_nil]; exact Option.some_ne_none _
    refine ⟨_, rfl, _, rfl, _, rfl, ll_sp (S4 _ _ h31) h4 (fun x hx => (l31 x (osub x hx)).same S4) hsm hrn (fun e => absurd e hn0) (fun o e lp H5 hlp S5 h5 => ?_)⟩
    have S45 := S4.trans S5
    have h51 := S45 _ _ h31
    have h52 := S45 _ _ h32
    refine ⟨_, rfl, _, rfl, d1, _, rfl, DPut.k (k := Sum.inr ks[i]) h51 (by rw [sizeLine_eq]; omega), ?_⟩
    have h62 : upd H5 d1 (.dK (putK kvs1 (Sum.inr ks[i]) (.ref lp))) d2 = some (.dK kvs2) := by rw [upd_ne (Ne.symm n12)]; exact h52
    refine ⟨_, rfl, _, rfl, _, rfl, d2, _, rfl, DPut.k (k := Sum.inr ks[i]) h62 (by rw [sizeLine_eq]; omega), ?_⟩
    have P5 : PotAt p H H5 := P3.trans (pot_same P3.ok S45)
    have l61 : ∀ x ∈ ks.take (i + 1), LnL (upd H5 d1 (.dK (putK kvs1 (Sum.inr ks[i]) (.ref lp)))) (putK kvs1 (Sum.inr ks[i]) (.ref lp)) (fun x => if x = ks[i] then ks[i] :: o else L x) x := fun x hx => lnL_put h51 h5 fun ne => (l31 x (by
     rw [tki] at hx
     rcases List.mem_append.mp hx with z | z
     ·exact z
     ·exact absurd (by simpa using z) ne)).same S45
    have h6o : upd H5 d1 (.dK (putK kvs1 (Sum.inr ks[i]) (.ref lp))) oa = some (.lst (own.map V.str)) := by rw [upd_ne (ne_of (S5 _ _ h4) h51 (by intro z; cases z))]; exact S5 _ _ h4
    refine ⟨_, _, _, _, _, _, _, rfl, (P5.write hd1 np1).write hd2H np2, by rw [upd_ne n12]; exact upd_same, upd_same, by rw [tki]; exact keys_put e1 hnot, by rw [tki]; exact keys_put e2 hnot, fun x hx => (l61 x hx).write h62 rfl, fun x hx => ?_, by rw [tki]; exact fm.add hnot ond ho4 osub e⟩
    refine lnL_put h62 h6o fun ne => ?_
    exact ((l32 x (by
     rw [tki] at hx
     rcases List.mem_append.mp hx with z | z
     ·exact z
     ·exact absurd (by simpa using z) ne)).same S45).write h51 rfl
  ·rintro σ H1 ⟨kvs1, kvs2, L, Ps, v4, v5, v6, rfl, P1, h11, h12, e1, e2, l1, l2, fm⟩
   rw [List.length_map, List.take_length] at e1 e2 l1 l2 fm
   refine ⟨_, rfl, _, rfl, by show 2 <= sizeLine; rw [sizeLine_eq]; decide, fun r hr => ?_⟩
   have Sr := same_new (o := .tup [V.ref d1, .ref d2]) hr
   have hrH : H r = none := by
    cases e : H r with
    | none => rfl
    | some u =>
     have nrp : r ≠ p := fun z => by obtain ⟨_, _, z2, _⟩ := P1.ok; rw [z, z2] at hr; cases hr
     rw [P1.kp r u e nrp] at hr; cases hr
   exact q r d1 d2 kvs1 kvs2 L Ps _ ⟨P1.trans (pot_same P1.ok Sr), upd_same, Sr _ _ h11, Sr _ _ h12, e1, e2, fun x hx => (l1 x hx).same Sr, fun x hx => (l2 x hx).same Sr, fm, hd1, hd2H, hrH, n12⟩
def FZ (H H' : Hp) : Prop := ∀ b u, H b = some u -> H' b = some u \/ ∃ kvs o, u = .dK kvs /\ H' b = some (.frz o (.dK kvs))
@[irreducible] def spFt : Sp := fun vs H Q _ => ∃ (d : Addr) (kvs : List (Key × V)) (ks : List Str) (Ps : Str -> List Str), vs = [.ref d] /\ Rd H d (.dK kvs) /\ kvs.map (·.1) = ks.map Sum.inr /\ ks.Nodup /\ ks.length <= 8 /\ (∀ x ∈ ks, LnL H kvs Ps x) /\
 ∀ t o ws fam H', FZ H H' -> H' t = some (.frz o (.tup ws)) -> o.dict = none -> FamV H' ws fam -> fam.Perm (famOf Ps ks) -> Q (.ref t) H'
theorem ft_sp {d : Addr} {kvs : List (Key × V)} {ks : List Str} {Ps : Str -> List Str} {H : Hp} {Q : VK} {E : XK} (hd : Rd H d (.dK kvs)) (hk : kvs.map (·.1) = ks.map Sum.inr) (nd : ks.Nodup) (h8 : ks.length <= 8) (l : ∀ x ∈ ks, LnL H kvs Ps x)
  (q : ∀ t o ws fam H', FZ H H' -> H' t = some (.frz o (.tup ws)) -> o.dict = none -> FamV H' ws fam -> fam.Perm (famOf Ps ks) -> Q (.ref t) H') : spFt [.ref d] H Q E := by unfold spFt; exact ⟨d, kvs, ks, Ps, rfl, hd, hk, nd, h8, l, q⟩
theorem scFt : FnScope ["_law_parents_here"] ["_law_parents_here"] (defScope sFamTup) := ⟨rfl, rfl, rfl, by decide +kernel, rfl, by decide +kernel, by decide +kernel⟩
abbrev eFt : Expr := arg0 (arg0 (retV (bodyAt (defBody sFamTup) 0)))
theorem csFt : CompScope ["_law_parents_here"] (defScope sFamTup) ["_law_kind", "_law_parents_here"] [none, some 0] (compSc eFt) := ⟨rfl, by decide +kernel, by decide +kernel, rfl, fv_of (by decide +kernel), by decide +kernel⟩
theorem key_at {kvs : List (Key × V)} {ks : List Str} (hk : kvs.map (·.1) = ks.map Sum.inr) {i : Nat} {kv : Key × V} (h : kvs[i]? = some kv) : ∃ x, ks[i]? = some x /\ kv.1 = Sum.inr x := by
 have h1 : (kvs.map (·.1))[i]? = some kv.1 := by rw [List.getElem?_map, h]; rfl
 rw [hk, List.getElem?_map] at h1
 obtain ⟨x, hx, e⟩ := Option.map_eq_some_iff.mp h1
 exact ⟨x, hx, e.symm⟩
theorem ok_ft (F : Fun K "_law_family_tuple" "_law_family_tuple" sFamTup f fd) (B : Blt mg) (B2 : Blt2 mg) : FnOk P w K mg base CX0 1 f fd ["_law_parents_here"] spFt := by
 refine F.ok scFt (fun vs H Q E h => ?_) (fun cdv A outer s H vs Q E hr h => ?_)
 ·unfold spFt at h; obtain ⟨d, kvs, ks, Ps, rfl, _⟩ := h; rfl
 ·unfold spFt at h
  obtain ⟨d, kvs, ks, Ps, rfl, hd, hk, knd, k8, l2, q⟩ := h
  have hu := hr.units
  have hu1 := Nat.lt_of_le_of_lt (Nat.add_le_add_left (show 1 <= 64 by decide) _) hu
  refine ⟨_, pss_one (ps_ret (pe_callTy call_tuple_frz rfl B.tuple boot_tuple (pa_cons (pe_callB call_sortedPO rfl B2.sorted boot_sorted (pa_cons (pe_comp rfl csFt (pi_dict (pv 0)) (fun s H fp => ⟨pg_name (i := 0) csFt.nd rfl (Or.inl rfl), pifs_nil,
     pe_tup (pa_cons (pv 0) (pa_cons (pe_callTy (call_tuple_K K rfl) rfl B.tuple boot_tuple (pa_cons (pe_dget hu1 (pv 1) (pv 0) (fun _ _ => rfl)) pa_nil)) pa_nil))⟩)) pa_nil)) pa_nil))), ?_⟩
  have lk : kvs.length = ks.length := by have := congrArg List.length hk; simpa using this
  have ned : ∀ {b : Addr} {xs : List V}, H b = some (.lst xs) -> b ≠ d := fun e => by
   rcases hd with hd | ⟨o3, hd⟩
   ·exact ne_of e hd (by intro z; cases z)
   ·exact ne_of e hd (by intro z; cases z)
  rcases id hd with hd' | ⟨o2, hd'⟩
  rotate_left
  ·obtain ⟨H1, eH⟩ : ∃ H1 : Hp, H1 = H := ⟨H, rfl⟩
   refine ⟨_, rfl, d, kvs, rfl, .inr ⟨o2, hd', fun c hc => ?_⟩⟩
   have kp0 : ∀ b u, b ≠ d -> H b = some u -> H1 b = some u := fun b u n e => by rw [eH]; exact e
   have hd0 : H1 d = some (.frz o2 (.dK kvs)) := by rw [eH]; exact hd'
   have fz : FZ H H1 := fun b u e => .inl (by rw [eH]; exact e)
   rw [<- eH] at hc ⊢
   have l0 : ∀ x ∈ ks, LnL H1 kvs Ps x := fun x hx => let ⟨b, e1, e2⟩ := l2 x hx; ⟨b, e1, kp0 _ _ (ned e2) e2⟩
   refine comp_dict (fun i ys τ H2 => ∃ t0 : Option V, τ = [t0, some (.ref d)] /\ H2 c = some (.lst ys) /\ Same H1 H2 /\ FamV H2 ys (famOf Ps (ks.take i))) ⟨none, rfl, upd_same, same_new hc, .nil⟩ (fun i ys τ H2 ⟨_, _, z1, z2, _⟩ => ⟨z1, z2 _ _ hd0⟩) ?_ ?_
   ·rintro i kv ys τ H2 hkv ⟨t0, rfl, h2, S2', F2⟩
    have hjl : i < kvs.length := (List.getElem?_eq_some_iff.mp hkv).1
    have hil : i < ks.length := by omega
    obtain ⟨x, hxi, ek⟩ := key_at hk hkv
    rw [ek]
    have hx : x ∈ ks := List.mem_of_getElem? hxi
    have tki : ks.take (i + 1) = ks.take i ++ [x] := by rw [List.take_succ, hxi]; rfl
    obtain ⟨a, ea, ha⟩ := (l0 x hx).same S2'
    refine ⟨_, rfl, _, rfl, _, rfl, d, .ref a, rfl, .inl ⟨kvs, Sum.inr x, .inr ⟨o2, S2' _ _ hd0⟩, rfl, ea.symm⟩, ?_⟩
    refine ⟨a, _, rfl, .inl ⟨SqL.of ha, fun b hb => ?_⟩⟩
    have Sb := same_new (o := .tup ((Ps x).map V.str)) hb
    refine ⟨by show 2 <= sizeLine; rw [sizeLine_eq]; decide, fun t ht => ?_⟩
    have St := Sb.trans (same_new (o := .tup [V.str x, .ref b]) ht)
    have hbt : upd (upd H2 b (.tup ((Ps x).map V.str))) t (.tup [V.str x, .ref b]) b = some (.tup ((Ps x).map V.str)) := by rw [upd_ne (ne_of_none upd_same ht)]; exact upd_same
    have hct := St _ _ h2
    refine ⟨hct, ?_, cw_next hjl ⟨_, rfl, upd_same, fun x u hx => by rw [upd_ne (ne_of_none hx hc)]; exact St _ _ (S2' x u hx), ?_⟩⟩
    ·have := F2.length
     unfold famOf at this
     rw [List.length_map, List.length_take] at this
     rw [sizeLine_eq]; omega
    ·have ef : famOf Ps (ks.take (i + 1)) = famOf Ps (ks.take i) ++ [(x, Ps x)] := by rw [tki]; unfold famOf; rw [List.map_append]; rfl
     rw [ef]
     refine FamV.append (F2.keep fun x xs hx => ?_) ?_ ?_ (b := b)
     ·rw [upd_ne (ne_of hx h2 (by intro z; cases z))]; exact St _ _ hx
     ·rw [upd_ne (ne_of upd_same hct (by intro z; cases z))]; exact upd_same
     ·rw [upd_ne (ne_of hbt hct (by intro z; cases z))]; exact hbt
   ·rintro ys τ H2 ⟨t0, rfl, h2, S2', F2⟩
    rw [lk, List.take_length] at F2
    obtain ⟨kvs0, pv, ekv, prf⟩ := F2.pairsR
    have hlf := F2.length
    have hlk : (famOf Ps ks).length = ks.length := by unfold famOf; exact List.length_map ..
    refine ⟨c, ys, kvs0, rfl, SqL.of h2, pv, prf, by rw [ekv, famOf_keys]; exact knd, by omega, fun D ys' kvs' hD hperm hpv hpk hso => ?_⟩
    have SD := same_new (o := .lst ys') hD
    refine ⟨D, ys', rfl, SqL.of upd_same, fun t o ht ho => ?_⟩
    have St := SD.trans (same_new (o := .frz o (.tup ys')) ht)
    obtain ⟨fam', hpf, F3⟩ := paired_perm hperm F2
    exact q t o ys' fam' _ (fun b u e => (fz b u e).imp (fun z => St _ _ (S2' _ _ z)) fun ⟨k, o, e1, e2⟩ => ⟨k, o, e1, St _ _ (S2' _ _ e2)⟩) upd_same ho (FamV.same F3 St) hpf
  ·refine ⟨_, rfl, d, kvs, rfl, .inl ⟨hd', fun o2 c hc => ?_⟩⟩
   have kp0 : ∀ b u, b ≠ d -> H b = some u -> upd H d (.frz o2 (.dK kvs)) b = some u := fun b u n e => by rw [upd_ne n]; exact e
   have hd0 : upd H d (.frz o2 (.dK kvs)) d = some (.frz o2 (.dK kvs)) := upd_same
   have fz : FZ H (upd H d (.frz o2 (.dK kvs))) := fun b u e => by
    by_cases hb : b = d
    ·rw [hb, hd'] at e; cases e; exact .inr ⟨kvs, o2, rfl, by rw [hb]; exact upd_same⟩
    ·exact .inl (kp0 b u hb e)
   generalize upd H d (.frz o2 (.dK kvs)) = H1 at kp0 hd0 hc fz ⊢
   have l0 : ∀ x ∈ ks, LnL H1 kvs Ps x := fun x hx => let ⟨b, e1, e2⟩ := l2 x hx; ⟨b, e1, kp0 _ _ (ned e2) e2⟩
   refine comp_dict (fun i ys τ H2 => ∃ t0 : Option V, τ = [t0, some (.ref d)] /\ H2 c = some (.lst ys) /\ Same H1 H2 /\ FamV H2 ys (famOf Ps (ks.take i))) ⟨none, rfl, upd_same, same_new hc, .nil⟩ (fun i ys τ H2 ⟨_, _, z1, z2, _⟩ => ⟨z1, z2 _ _ hd0⟩) ?_ ?_
   ·rintro i kv ys τ H2 hkv ⟨t0, rfl, h2, S2', F2⟩
    have hjl : i < kvs.length := (List.getElem?_eq_some_iff.mp hkv).1
    have hil : i < ks.length := by omega
    obtain ⟨x, hxi, ek⟩ := key_at hk hkv
    rw [ek]
    have hx : x ∈ ks := List.mem_of_getElem? hxi
    have tki : ks.take (i + 1) = ks.take i ++ [x] := by rw [List.take_succ, hxi]; rfl
    obtain ⟨a, ea, ha⟩ := (l0 x hx).same S2'
    refine ⟨_, rfl, _, rfl, _, rfl, d, .ref a, rfl, .inl ⟨kvs, Sum.inr x, .inr ⟨o2, S2' _ _ hd0⟩, rfl, ea.symm⟩, ?_⟩
    refine ⟨a, _, rfl, .inl ⟨SqL.of ha, fun b hb => ?_⟩⟩
    have Sb := same_new (o := .tup ((Ps x).map V.str)) hb
    refine ⟨by show 2 <= sizeLine; rw [sizeLine_eq]; decide, fun t ht => ?_⟩
    have St := Sb.trans (same_new (o := .tup [V.str x, .ref b]) ht)
    have hbt : upd (upd H2 b (.tup ((Ps x).map V.str))) t (.tup [V.str x, .ref b]) b = some (.tup ((Ps x).map V.str)) := by rw [upd_ne (ne_of_none upd_same ht)]; exact upd_same
    have hct := St _ _ h2
    refine ⟨hct, ?_, cw_next hjl ⟨_, rfl, upd_same, fun x u hx => by rw [upd_ne (ne_of_none hx hc)]; exact St _ _ (S2' x u hx), ?_⟩⟩
    ·have := F2.length
     unfold famOf at this
     rw [List.length_map, List.length_take] at this
     rw [sizeLine_eq]; omega
    ·have ef : famOf Ps (ks.take (i + 1)) = famOf Ps (ks.take i) ++ [(x, Ps x)] := by rw [tki]; unfold famOf; rw [List.map_append]; rfl
     rw [ef]
     refine FamV.append (F2.keep fun x xs hx => ?_) ?_ ?_ (b := b)
     ·rw [upd_ne (ne_of hx h2 (by intro z; cases z))]; exact St _ _ hx
     ·rw [upd_ne (ne_of upd_same hct (by intro z; cases z))]; exact upd_same
     ·rw [upd_ne (ne_of hbt hct (by intro z; cases z))]; exact hbt
   ·rintro ys τ H2 ⟨t0, rfl, h2, S2', F2⟩
    rw [lk, List.take_length] at F2
    obtain ⟨kvs0, pv, ekv, prf⟩ := F2.pairsR
    have hlf := F2.length
    have hlk : (famOf Ps ks).length = ks.length := by unfold famOf; exact List.length_map ..
    refine ⟨c, ys, kvs0, rfl, SqL.of h2, pv, prf, by rw [ekv, famOf_keys]; exact knd, by omega, fun D ys' kvs' hD hperm hpv hpk hso => ?_⟩
    have SD := same_new (o := .lst ys') hD
    refine ⟨D, ys', rfl, SqL.of upd_same, fun t o ht ho => ?_⟩
    have St := SD.trans (same_new (o := .frz o (.tup ys')) ht)
    obtain ⟨fam', hpf, F3⟩ := paired_perm hperm F2
    exact q t o ys' fam' _ (fun b u e => (fz b u e).imp (fun z => St _ _ (S2' _ _ z)) fun ⟨k, o, e1, e2⟩ => ⟨k, o, e1, St _ _ (S2' _ _ e2)⟩) upd_same ho (FamV.same F3 St) hpf
end
end K35
namespace L2
open PySem PySem.W
theorem Rep.tupI {H : Hp} {v : V} {ds : List PyData} (r : Rep H v (.tuple ds)) : ∃ a vs, v = .ref a /\ H a = some (.tup vs) /\ RepAll H vs ds := by
 cases r with
 | tup e rs => exact ⟨_, _, rfl, e, rs⟩
theorem Rep.strI {H : Hp} {v : V} {x : Str} (r : Rep H v (.str x)) : v = .str x := by cases r; rfl
theorem Rep.intI {H : Hp} {v : V} {x : Int} (r : Rep H v (.int x)) : v = .int x := by cases r; rfl
theorem RepAll.consI {H : Hp} {vs : List V} {d : PyData} {ds : List PyData} (r : RepAll H vs (d :: ds)) : ∃ v ws, vs = v :: ws /\ Rep H v d /\ RepAll H ws ds := by
 cases r with
 | cons a b => exact ⟨_, _, rfl, a, b⟩
theorem RepAll.nilI {H : Hp} {vs : List V} (r : RepAll H vs []) : vs = [] := by cases r; rfl
theorem RepAll.length {H : Hp} : ∀ {vs : List V} {ds : List PyData}, RepAll H vs ds -> vs.length = ds.length
 | _, _, .nil => rfl
 | _, _, .cons _ rs => by rw [List.length_cons, List.length_cons, RepAll.length rs]
end L2
namespace K35
open PySem L2 PySem.W HT
inductive Stp : PyData -> Prop where
 | add (n : Int) : Stp (.tuple [.str "add", .int n])
 | times (n : Int) (lo : -9 <= n) (hi : n <= 9) : Stp (.tuple [.str "times", .int n])
 | onward : Stp (.tuple [.str "onward"])
 | ask (x : Str) (h : Nm x) : Stp (.tuple [.str "ask", .str x])
inductive Ent : PyData -> Prop where
 | plain (n : Int) : Ent (.tuple [.str "plain", .int n])
 | ahead (x : Str) (n : Int) (h : Nm x) : Ent (.tuple [.str "ahead", .str x, .int n])
 | behind (ds : List PyData) (h4 : ds.length <= 4) (hs : ∀ d ∈ ds, Stp d) : Ent (.tuple [.str "behind", .tuple ds])
 | shut (ds : List PyData) (h4 : ds.length <= 4) (hs : ∀ d ∈ ds, Stp d) : Ent (.tuple [.str "shut", .tuple ds])
theorem two1 {H : Hp} {v : V} {s : Str} {d : PyData} (r : Rep H v (.tuple [.str s, d])) : ∃ a u, v = .ref a /\ H a = some (.tup [.str s, u]) /\ Rep H u d := by
 obtain ⟨a, vs, rfl, ha, rs⟩ := r.tupI
 obtain ⟨v0, w0, rfl, r0, rs⟩ := rs.consI
 obtain ⟨v1, w1, rfl, r1, rs⟩ := rs.consI
 obtain rfl := rs.nilI
 obtain rfl := r0.strI
 exact ⟨a, v1, rfl, ha, r1⟩
theorem at_0 {x : V} {xs : List V} : atI (x :: xs) 0 = some x := (show atI (x :: xs) ((0 : Nat) : Int) = some x from atI_nat rfl)
end K35
namespace K35
open PySem L2 PySem.W HT
theorem Stp.keep {H H' : Hp} {v : V} {d : PyData} (s : Stp d) (r : Rep H v d) (k : ∀ b xs, H b = some (.tup xs) -> H' b = some (.tup xs)) : Rep H' v d := by
 cases s with
 | add n =>
  obtain ⟨a, u, rfl, ha, r1⟩ := two1 r
  obtain rfl := r1.intI
  exact .tup (k _ _ ha) (.cons (.str _) (.cons (.int _) .nil))
 | times n =>
  obtain ⟨a, u, rfl, ha, r1⟩ := two1 r
  obtain rfl := r1.intI
  exact .tup (k _ _ ha) (.cons (.str _) (.cons (.int _) .nil))
 | ask x =>
  obtain ⟨a, u, rfl, ha, r1⟩ := two1 r
  obtain rfl := r1.strI
  exact .tup (k _ _ ha) (.cons (.str _) (.cons (.str _) .nil))
 | onward =>
  obtain ⟨a, vs, rfl, ha, rs⟩ := r.tupI
  obtain ⟨v0, w0, rfl, r0, rs⟩ := rs.consI
  obtain rfl := rs.nilI
  obtain rfl := r0.strI
  exact .tup (k _ _ ha) (.cons (.str _) .nil)
theorem stps_keep {H H' : Hp} (k : ∀ b xs, H b = some (.tup xs) -> H' b = some (.tup xs)) : ∀ {vs : List V} {ds : List PyData}, RepAll H vs ds -> (∀ d ∈ ds, Stp d) -> RepAll H' vs ds
 | _, _, .nil, _ => .nil
 | _, _, .cons r rs, h => .cons ((h _ List.mem_cons_self).keep r k) (stps_keep k rs fun d hd => h d (List.mem_cons_of_mem _ hd))
theorem Ent.keep {H H' : Hp} {v : V} {d : PyData} (s : Ent d) (r : Rep H v d) (k : ∀ b xs, H b = some (.tup xs) -> H' b = some (.tup xs)) : Rep H' v d := by
 cases s with
 | plain n =>
  obtain ⟨a, u, rfl, ha, r1⟩ := two1 r
  obtain rfl := r1.intI
  exact .tup (k _ _ ha) (.cons (.str _) (.cons (.int _) .nil))
 | ahead x n =>
  obtain ⟨a, vs, rfl, ha, rs⟩ := r.tupI
  obtain ⟨v0, w0, rfl, r0, rs⟩ := rs.consI
  obtain ⟨v1, w1, rfl, r1, rs⟩ := rs.consI
  obtain ⟨v2, w2, rfl, r2, rs⟩ := rs.consI
  obtain rfl := rs.nilI
  obtain rfl := r0.strI
  obtain rfl := r1.strI
  obtain rfl := r2.intI
  exact .tup (k _ _ ha) (.cons (.str _) (.cons (.str _) (.cons (.int _) .nil)))
 | behind ds h4 hs =>
  obtain ⟨a, u, rfl, ha, r1⟩ := two1 r
  obtain ⟨b, vs, rfl, hb, rs⟩ := r1.tupI
  exact .tup (k _ _ ha) (.cons (.str _) (.cons (.tup (k _ _ hb) (stps_keep k rs hs)) .nil))
 | shut ds h4 hs =>
  obtain ⟨a, u, rfl, ha, r1⟩ := two1 r
  obtain ⟨b, vs, rfl, hb, rs⟩ := r1.tupI
  exact .tup (k _ _ ha) (.cons (.str _) (.cons (.tup (k _ _ hb) (stps_keep k rs hs)) .nil))
theorem pot_tup {p : Addr} {H H' : Hp} (pk : PotOk p H) (pa : PotAt p H H') : ∀ b xs, H b = some (.tup xs) -> H' b = some (.tup xs) := fun b xs e => by
 obtain ⟨x, y, e0, _⟩ := pk
 exact pa.kp b _ e (ne_of e e0 (by intro z; cases z))
theorem repAll_append {H : Hp} : ∀ {vs : List V} {ds : List PyData} {v : V} {d : PyData}, RepAll H vs ds -> Rep H v d -> RepAll H (vs ++ [v]) (ds ++ [d])
 | _, _, _, _, .nil, r => .cons r .nil
 | _, _, _, _, .cons a as, r => .cons a (repAll_append as r)
section
variable {P : Program} {w : World} {K : Frag} {mg : Str -> Option Value} {base : Heap} {f : Addr} {fd : FuncData}
@[irreducible] def spNum : Sp := fun vs H Q _ => ∃ p : Addr, vs = [.ref p] /\ PotOk p H /\ ∀ (n : Int) (H' : Hp), PotAt p H H' -> Q (.int n) H'
theorem num_sp {p : Addr} {H : Hp} {Q : VK} {E : XK} (h : PotOk p H) (q : ∀ (n : Int) (H' : Hp), PotAt p H H' -> Q (.int n) H') : spNum [.ref p] H Q E := by unfold spNum; exact ⟨p, rfl, h, q⟩
abbrev nNum : List Str := ["_law_pot_here", "_law_near", "_law_far"]
theorem scNum : FnScope nNum ["_law_pot_here"] (defScope sNumber) := ⟨rfl, rfl, rfl, by decide +kernel, rfl, by decide +kernel, by decide +kernel⟩
theorem ok_num {fD : Addr} {dD : FuncData} (F : Fun K "_law_number" "_law_number" sNumber f fd)
  (GD : FnOk P w K mg base CX0 1 fD dD ["_law_pot_here", "_law_many"] spDigit) (kD : keepIn K (.ref fD) = true) (bD : Binds K dD ["_law_pot_here", "_law_many"] []) (mD : mg "_law_digit" = some (.ref fD)) : FnOk P w K mg base CX0 2 f fd ["_law_pot_here"] spNum := by
 refine F.ok scNum (fun vs H Q E h => ?_) (fun cdv A outer s H vs Q E hr h => ?_)
 ·unfold spNum at h; obtain ⟨p, rfl, _⟩ := h; rfl
 ·unfold spNum at h
  obtain ⟨p, rfl, pk, q⟩ := h
  have hr1 : Room 1 _ := hr
  refine ⟨_, pss_cons (ps_set (i := 1) scNum.nd rfl (Or.inl rfl) (pe_op op_sub (pe_call GD hr1 rfl mD kD bD .nil pass0 (pa_cons (pv 0) (pa_cons pe_int pa_nil))) pe_int))
   (pss_cons (ps_set (i := 2) scNum.nd rfl (Or.inl rfl) (pe_op op_add (pe_op op_sub (pe_call GD hr1 rfl mD kD bD .nil pass0 (pa_cons (pv 0) (pa_cons (pe_op op_sub (pe_op op_mul pe_int (pe_op op_pow pe_int pe_int)) pe_int) pa_nil))) (pe_op op_pow pe_int pe_int)) pe_int))
   (pss_one (ps_ret (pe_ix ix_list (pe_lst (pa_cons (pv 1) (pa_cons (pv 1) (pa_cons pe_int (pa_cons (pv 2) pa_nil))))) (pe_call GD hr1 rfl mD kD bD .nil pass0 (pa_cons (pv 0) (pa_cons pe_int pa_nil))) (fun _ _ => rfl))))), ?_⟩
  refine ⟨_, rfl, digit_sp (p := p) (m := 41) pk (by decide) (by decide) fun d1 H1 a0 a1 p1 => ⟨_, _, rfl, rfl, ?_⟩⟩
  refine ⟨_, rfl, _, _, rfl, rfl, ⟨by decide, by decide, by decide⟩, _, _, rfl, rfl, .inl ⟨by decide, by decide⟩, _, _, rfl, rfl, ?_⟩
  refine digit_sp (p := p) (m := 2 * 10 ^ (18 : Int).toNat - 1) p1.ok (by decide) (by decide) fun d2 H2 b0 b1 p2 => ⟨_, _, rfl, rfl, ⟨by decide, by decide, by decide⟩, _, _, rfl, rfl, _, _, rfl, rfl, ?_⟩
  refine ⟨_, rfl, _, rfl, _, rfl, by show 4 <= sizeLine; rw [sizeLine_eq]; decide, fun c hc => ?_⟩
  have p3 := (p1.trans p2).new (o := .lst [.int (d1 - 20), .int (d1 - 20), .int 0, .int (d2 - 10 ^ (18 : Int).toNat + 1)]) hc
  refine ⟨_, rfl, digit_sp (p := p) (m := 4) p3.ok (by decide) (by decide) fun d3 H3 c0 c1 p4 => ?_⟩
  have hcp : c ≠ p := Ne.symm ((p1.trans p2).ok.ne hc)
  have h3 := p4.kp _ _ upd_same hcp
  obtain ⟨j, rfl⟩ := Int.eq_ofNat_of_zero_le c0
  have fin : ∀ n : Int, Q (.int n) H3 := fun n => q n H3 (p3.trans p4)
  have hj : j = 0 \/ j = 1 \/ j = 2 \/ j = 3 := by omega
  rcases hj with rfl | rfl | rfl | rfl
  ·exact ⟨c, _, ((0 : Nat) : Int), _, rfl, rfl, SqL.of h3, atI_nat rfl, fin _⟩
  ·exact ⟨c, _, ((1 : Nat) : Int), _, rfl, rfl, SqL.of h3, atI_nat rfl, fin _⟩
  ·exact ⟨c, _, ((2 : Nat) : Int), _, rfl, rfl, SqL.of h3, atI_nat rfl, fin _⟩
  ·exact ⟨c, _, ((3 : Nat) : Int), _, rfl, rfl, SqL.of h3, atI_nat rfl, fin _⟩
@[irreducible] def spStp : Sp := fun vs H Q _ => ∃ (p l : Addr) (ys : List Str) (k : Nat), vs = [.ref p, .ref l, .int k] /\ PotOk p H /\ H l = some (.lst (ys.map V.str)) /\ ys ≠ [] /\ ys.length <= 20 /\ (∀ y ∈ ys, Nm y) /\ ∀ (v : V) (d : PyData) (H' : Hp), PotAt p H H' -> Rep H' v d -> Stp d -> Q v H'
theorem stp_sp {p l : Addr} {ys : List Str} {k : Nat} {H : Hp} {Q : VK} {E : XK} (h : PotOk p H) (hl : H l = some (.lst (ys.map V.str))) (ne : ys ≠ []) (h20 : ys.length <= 20) (nm : ∀ y ∈ ys, Nm y) (q : ∀ (v : V) (d : PyData) (H' : Hp), PotAt p H H' -> Rep H' v d -> Stp d -> Q v H') : spStp [.ref p, .ref l, .int k] H Q E := by unfold spStp; exact ⟨p, l, ys, k, rfl, h, hl, ne, h20, nm, q⟩
abbrev nStp : List Str := ["_law_pot_here", "_law_names_here", "_law_at", "_law_way", "_law_later"]
theorem scStp : FnScope nStp ["_law_pot_here", "_law_names_here", "_law_at"] (defScope sStep) := ⟨rfl, rfl, rfl, by decide +kernel, rfl, by decide +kernel, by decide +kernel⟩
theorem ok_stp {fD fN : Addr} {dD dN : FuncData} (F : Fun K "_law_step" "_law_step" sStep f fd) (B : Blt mg)
  (GD : FnOk P w K mg base CX0 1 fD dD ["_law_pot_here", "_law_many"] spDigit) (kD : keepIn K (.ref fD) = true) (bD : Binds K dD ["_law_pot_here", "_law_many"] []) (mD : mg "_law_digit" = some (.ref fD))
  (GN : FnOk P w K mg base CX0 2 fN dN ["_law_pot_here"] spNum) (kN : keepIn K (.ref fN) = true) (bN : Binds K dN ["_law_pot_here"] []) (mN : mg "_law_number" = some (.ref fN)) : FnOk P w K mg base CX0 3 f fd ["_law_pot_here", "_law_names_here", "_law_at"] spStp := by
 refine F.ok scStp (fun vs H Q E h => ?_) (fun cdv A outer s H vs Q E hr h => ?_)
 ·unfold spStp at h; obtain ⟨p, l, ys, k, rfl, _⟩ := h; rfl
 ·unfold spStp at h
  obtain ⟨p, l, ys, k, rfl, pk, hl, ne, h20, nm, q⟩ := h
  have hu := hr.units
  have hr2 : Room 2 _ := hr
  have hr1 : Room 1 _ := hr2.mono (by decide)
  refine ⟨_, pss_cons (ps_set (i := 3) scStp.nd rfl (Or.inl rfl) (pe_call GD hr1 rfl mD kD bD .nil pass0 (pa_cons (pv 0) (pa_cons pe_int pa_nil))))
   (pss_cons (ps_if (pt_cmpR op_eq (pv 3) pe_int (nomark _)) (pss_one (ps_ret (pe_tup (pa_cons pe_str (pa_cons (pe_call GN hr2 rfl mN kN bN .nil pass0 (pa_cons (pv 0) pa_nil)) pa_nil))))) pss_nil)
   (pss_cons (ps_if (pt_cmpR op_eq (pv 3) pe_int (nomark _)) (pss_one (ps_ret (pe_tup (pa_cons pe_str (pa_cons (pe_op op_sub (pe_call GD hr1 rfl mD kD bD .nil pass0 (pa_cons (pv 0) (pa_cons pe_int pa_nil))) pe_int) pa_nil))))) pss_nil)
   (pss_cons (ps_if (pt_cmpR op_lt (pv 3) pe_int (nomark _)) (pss_one (ps_ret (pe_tup (pa_cons pe_str pa_nil)))) pss_nil)
   (pss_cons (ps_set (i := 4) scStp.nd rfl (Or.inl rfl) (pe_slice sl_list (pv 1) (po_some (pe_op op_add (pv 2) pe_int)) po_none))
   (pss_cons (ps_if (PW.pt (pw_or (pt_cmpR (op_eqD hu) (pv 4) (pe_lst pa_nil) (nomark _)) (pw_or1 (pt_cmpR op_eq (pe_call GD hr1 rfl mD kD bD .nil pass0 (pa_cons (pv 0) (pa_cons pe_int pa_nil))) pe_int (nomark _))))) (pss_one (ps_set (i := 4) scStp.nd rfl (Or.inl rfl) (pv 1))) pss_nil)
   (pss_one (ps_ret (pe_tup (pa_cons pe_str (pa_cons (pe_ix ix_list (pv 4) (pe_call GD hr1 rfl mD kD bD .nil pass0 (pa_cons (pv 0) (pa_cons (pe_callB call_len_seq rfl B.len boot_len (pa_cons (pv 4) pa_nil)) pa_nil))) (fun _ _ => rfl)) pa_nil)))))))))), ?_⟩
  refine ⟨_, rfl, digit_sp (p := p) (m := 6) pk (by decide) (by decide) fun wy H1 a0 a1 p1 => ?_⟩
  refine ⟨_, rfl, rfl, _, rfl, ?_⟩
  refine ite2 (fun h0 => ?_) (fun h0 => ?_)
  ·refine ⟨_, rfl, num_sp p1.ok fun n H2 p2 => ⟨by show 2 <= sizeLine; rw [sizeLine_eq]; decide, fun t ht => ?_⟩⟩
   exact q _ _ _ ((p1.trans p2).new ht) (.tup upd_same (.cons (.str _) (.cons (.int _) .nil))) (.add n)
  refine ⟨_, rfl, rfl, _, rfl, ?_⟩
  refine ite2 (fun h1 => ?_) (fun h1 => ?_)
  ·refine ⟨_, rfl, digit_sp (p := p) (m := 19) p1.ok (by decide) (by decide) fun n H2 b0 b1 p2 => ⟨_, _, rfl, rfl, by show 2 <= sizeLine; rw [sizeLine_eq]; decide, fun t ht => ?_⟩⟩
   exact q _ _ _ ((p1.trans p2).new ht) (.tup upd_same (.cons (.str _) (.cons (.int _) .nil))) (.times (n - 9) (by omega) (by omega))
  refine ⟨_, rfl, _, _, rfl, rfl, _, rfl, ?_⟩
  refine ite2 (fun h2 => ?_) (fun h2 => ?_)
  ·refine ⟨by show 1 <= sizeLine; rw [sizeLine_eq]; decide, fun t ht => ?_⟩
   exact q _ _ _ (p1.new ht) (.tup upd_same (.cons (.str _) .nil)) .onward
  have nlp : l ≠ p := strs_pot pk hl
  refine ⟨_, rfl, _, rfl, _, _, rfl, rfl, _, rfl, l, _, rfl, SqL.of (p1.kp _ _ hl nlp), fun c hc => ?_⟩
  have ecut : cutV (ys.map V.str) (some ((k : Int) + 1)) none = (ys.drop (k + 1)).map V.str := by
   rw [List.map_drop]
   exact cut_from (ys.map V.str) (k + 1)
  rw [ecut]
  have p2 := p1.new (o := .lst ((ys.drop (k + 1)).map V.str)) hc
  have hc2 : upd H1 c (.lst ((ys.drop (k + 1)).map V.str)) c = some (.lst ((ys.drop (k + 1)).map V.str)) := upd_same
  generalize upd H1 c (.lst ((ys.drop (k + 1)).map V.str)) = H2 at p2 hc2 ⊢
  have dnm : ∀ y ∈ ys.drop (k + 1), Nm y := fun y hy => nm y (List.mem_of_mem_drop hy)
  have dl : (ys.drop (k + 1)).length <= ys.length := by rw [List.length_drop]; omega
  generalize ys.drop (k + 1) = zs at hc2 dnm dl
  refine ⟨_, rfl, Nat.zero_le _, fun e0 he0 => ?_⟩
  have p3 := p2.new (o := .lst []) he0
  have hc3 : upd H2 e0 (.lst []) c = some (.lst (zs.map V.str)) := by rw [upd_ne (ne_of_none hc2 he0)]; exact hc2
  have he3 : upd H2 e0 (.lst []) e0 = some (.lst []) := upd_same
  generalize upd H2 e0 (.lst []) = H3 at p3 hc3 he3 ⊢
  refine eq_nil hc3 he3 dnm ⟨_, rfl, ?_⟩
  have hl3 := p3.kp _ _ hl nlp
  refine ite2 (fun hE => ?_) (fun hE => ?_)
  ·refine ⟨_, rfl, ?_⟩
   refine ⟨_, rfl, _, rfl, _, rfl, l, _, rfl, .inl (SqL.of hl3), ?_⟩
   rw [List.length_map]
   have hpos : 0 < ys.length := List.length_pos_iff.mpr ne
   have hle : ys.length <= 20 := h20
   refine digit_sp (p := p) (m := (ys.length : Int)) p3.ok (by omega) (by omega) fun dz H5 c0 c1 p5 => ?_
   obtain ⟨j, rfl⟩ := Int.eq_ofNat_of_zero_le c0
   have hj : j < ys.length := by omega
   have h5 := p5.kp _ _ hl3 (strs_pot p3.ok hl3)
   refine ⟨l, _, (j : Int), .str ys[j], rfl, rfl, SqL.of h5, atI_nat (by rw [List.getElem?_map, List.getElem?_eq_getElem hj]; rfl), by show 2 <= sizeLine; rw [sizeLine_eq]; decide, fun t ht => ?_⟩
   exact q _ _ _ ((p3.trans p5).new ht) (.tup upd_same (.cons (.str _) (.cons (.str _) .nil))) (.ask _ (nm _ (List.getElem_mem hj)))
  have zne : zs ≠ [] := fun z => hE (by simp [z])
  refine ⟨_, rfl, digit_sp (p := p) (m := 4) p3.ok (by decide) (by decide) fun wz H4 b0 b1 p4 => ⟨rfl, _, rfl, ?_⟩⟩
  have P4 := p3.trans p4
  have hl4 := P4.kp _ _ hl nlp
  have hc4 := p4.kp _ _ hc3 (strs_pot p3.ok hc3)
  refine ite2 (fun hE2 => ?_) (fun hE2 => ?_)
  ·refine ⟨_, rfl, ?_⟩
   refine ⟨_, rfl, _, rfl, _, rfl, l, _, rfl, .inl (SqL.of hl4), ?_⟩
   rw [List.length_map]
   have hpos : 0 < ys.length := List.length_pos_iff.mpr ne
   have hle : ys.length <= 20 := h20
   refine digit_sp (p := p) (m := (ys.length : Int)) P4.ok (by omega) (by omega) fun dz H5 c0 c1 p5 => ?_
   obtain ⟨j, rfl⟩ := Int.eq_ofNat_of_zero_le c0
   have hj : j < ys.length := by omega
   have h5 := p5.kp _ _ hl4 (strs_pot P4.ok hl4)
   refine ⟨l, _, (j : Int), .str ys[j], rfl, rfl, SqL.of h5, atI_nat (by rw [List.getElem?_map, List.getElem?_eq_getElem hj]; rfl), by show 2 <= sizeLine; rw [sizeLine_eq]; decide, fun t ht => ?_⟩
   exact q _ _ _ ((P4.trans p5).new ht) (.tup upd_same (.cons (.str _) (.cons (.str _) .nil))) (.ask _ (nm _ (List.getElem_mem hj)))
  ·refine ⟨_, rfl, _, rfl, _, rfl, c, _, rfl, .inl (SqL.of hc4), ?_⟩
   rw [List.length_map]
   have hpos : 0 < zs.length := List.length_pos_iff.mpr zne
   have hle : zs.length <= 20 := (by omega)
   refine digit_sp (p := p) (m := (zs.length : Int)) P4.ok (by omega) (by omega) fun dz H5 c0 c1 p5 => ?_
   obtain ⟨j, rfl⟩ := Int.eq_ofNat_of_zero_le c0
   have hj : j < zs.length := by omega
   have h5 := p5.kp _ _ hc4 (strs_pot P4.ok hc4)
   refine ⟨c, _, (j : Int), .str zs[j], rfl, rfl, SqL.of h5, atI_nat (by rw [List.getElem?_map, List.getElem?_eq_getElem hj]; rfl), by show 2 <= sizeLine; rw [sizeLine_eq]; decide, fun t ht => ?_⟩
   exact q _ _ _ ((P4.trans p5).new ht) (.tup upd_same (.cons (.str _) (.cons (.str _) .nil))) (.ask _ (dnm _ (List.getElem_mem hj)))
end
end K35
namespace K35
open PySem L2 PySem.W HT
section
variable {P : Program} {w : World} {K : Frag} {mg : Str -> Option Value} {base : Heap} {f : Addr} {fd : FuncData}
@[irreducible] def spEnt : Sp := fun vs H Q _ => ∃ (p l : Addr) (ys : List Str) (k : Nat), vs = [.ref p, .ref l, .int k] /\ PotOk p H /\ H l = some (.lst (ys.map V.str)) /\ ys ≠ [] /\ ys.length <= 20 /\ (∀ y ∈ ys, Nm y) /\ ∀ (v : V) (d : PyData) (H' : Hp), PotAt p H H' -> Rep H' v d -> Ent d -> Q v H'
theorem ent_sp {p l : Addr} {ys : List Str} {k : Nat} {H : Hp} {Q : VK} {E : XK} (h : PotOk p H) (hl : H l = some (.lst (ys.map V.str))) (ne : ys ≠ []) (h20 : ys.length <= 20) (nm : ∀ y ∈ ys, Nm y) (q : ∀ (v : V) (d : PyData) (H' : Hp), PotAt p H H' -> Rep H' v d -> Ent d -> Q v H') : spEnt [.ref p, .ref l, .int k] H Q E := by unfold spEnt; exact ⟨p, l, ys, k, rfl, h, hl, ne, h20, nm, q⟩
abbrev nEnt : List Str := ["_law_pot_here", "_law_names_here", "_law_at", "_law_way", "_law_steps"]
theorem scEnt : FnScope nEnt ["_law_pot_here", "_law_names_here", "_law_at"] (defScope sEntry) := ⟨rfl, rfl, rfl, by decide +kernel, rfl, by decide +kernel, by decide +kernel⟩
abbrev eEnt : Expr := arg0 (asgV (bodyAt (defBody sEntry) 3))
theorem csEnt : CompScope nEnt (defScope sEntry) ["_law_turn", "_law_pot_here", "_law_names_here", "_law_at"] [none, some 0, some 1, some 2] (compSc eEnt) := ⟨rfl, by decide +kernel, by decide +kernel, rfl, fv_of (by decide +kernel), by decide +kernel⟩
theorem ok_ent {fD fN fS : Addr} {dD dN dS : FuncData} (F : Fun K "_law_entry" "_law_entry" sEntry f fd) (B : Blt mg)
  (GD : FnOk P w K mg base CX0 1 fD dD ["_law_pot_here", "_law_many"] spDigit) (kD : keepIn K (.ref fD) = true) (bD : Binds K dD ["_law_pot_here", "_law_many"] []) (mD : mg "_law_digit" = some (.ref fD))
  (GN : FnOk P w K mg base CX0 2 fN dN ["_law_pot_here"] spNum) (kN : keepIn K (.ref fN) = true) (bN : Binds K dN ["_law_pot_here"] []) (mN : mg "_law_number" = some (.ref fN))
  (GS : FnOk P w K mg base CX0 3 fS dS ["_law_pot_here", "_law_names_here", "_law_at"] spStp) (kS : keepIn K (.ref fS) = true) (bS : Binds K dS ["_law_pot_here", "_law_names_here", "_law_at"] []) (mS : mg "_law_step" = some (.ref fS)) : FnOk P w K mg base CX0 4 f fd ["_law_pot_here", "_law_names_here", "_law_at"] spEnt := by
 refine F.ok scEnt (fun vs H Q E h => ?_) (fun cdv A outer s H vs Q E hr h => ?_)
 ·unfold spEnt at h; obtain ⟨p, l, ys, k, rfl, _⟩ := h; rfl
 ·unfold spEnt at h
  obtain ⟨p, l, ys, k, rfl, pk, hl, ne, h20, nm, q⟩ := h
  have hr3 : Room 3 _ := hr
  have hr2 : Room 2 _ := hr3.mono (by decide)
  have hr1 : Room 1 _ := hr2.mono (by decide)
  refine ⟨_, pss_cons (ps_set (i := 3) scEnt.nd rfl (Or.inl rfl) (pe_call GD hr1 rfl mD kD bD .nil pass0 (pa_cons (pv 0) (pa_cons pe_int pa_nil))))
   (pss_cons (ps_if (pt_cmpR op_eq (pv 3) pe_int (nomark _)) (pss_one (ps_ret (pe_tup (pa_cons pe_str (pa_cons (pe_call GN hr2 rfl mN kN bN .nil pass0 (pa_cons (pv 0) pa_nil)) pa_nil))))) pss_nil)
   (pss_cons (ps_if (pt_cmpR op_eq (pv 3) pe_int (nomark _)) (pss_one (ps_ret (pe_tup (pa_cons pe_str (pa_cons (pe_ix ix_list (pv 1) (pe_op op_mod (pe_op op_add (pe_op op_add (pv 2) pe_int) (pe_call GD hr1 rfl mD kD bD .nil pass0 (pa_cons (pv 0) (pa_cons (pe_callB call_len_seq rfl B.len boot_len (pa_cons (pv 1) pa_nil)) pa_nil)))) (pe_callB call_len_seq rfl B.len boot_len (pa_cons (pv 1) pa_nil))) (fun _ _ => rfl)) (pa_cons (pe_call GN hr2 rfl mN kN bN .nil pass0 (pa_cons (pv 0) pa_nil)) pa_nil)))))) pss_nil)
   (pss_cons (ps_set (i := 4) scEnt.nd rfl (Or.inl rfl) (pe_callTy call_tuple_of rfl B.tuple boot_tuple (pa_cons (pe_comp rfl csEnt (pi_range1 rfl B.range (pa_cons (pe_call GD hr1 rfl mD kD bD .nil pass0 (pa_cons (pv 0) (pa_cons pe_int pa_nil))) pa_nil)) (fun s H fp => ⟨pg_name (i := 0) csEnt.nd rfl (Or.inl rfl), pifs_nil, pe_call GS hr3 rfl mS kS bS .nil pass0 (pa_cons (pv 1) (pa_cons (pv 2) (pa_cons (pv 3) pa_nil)))⟩)) pa_nil)))
   (pss_one (ps_ret (pe_tup (pa_cons (pe_ix ix_list (pe_lst (pa_cons pe_str (pa_cons pe_str (pa_cons pe_str pa_nil)))) (pe_op op_sub (pv 3) pe_int) (fun _ _ => rfl)) (pa_cons (pv 4) pa_nil)))))))), ?_⟩
  have nlp : l ≠ p := strs_pot pk hl
  have hpos : 0 < ys.length := List.length_pos_iff.mpr ne
  refine ⟨_, rfl, digit_sp (p := p) (m := 5) pk (by decide) (by decide) fun wy H1 a0 a1 p1 => ?_⟩
  refine ⟨_, rfl, rfl, _, rfl, ?_⟩
  refine ite2 (fun h0 => ?_) (fun h0 => ?_)
  ·refine ⟨_, rfl, num_sp p1.ok fun n H2 p2 => ⟨by show 2 <= sizeLine; rw [sizeLine_eq]; decide, fun t ht => ?_⟩⟩
   exact q _ _ _ ((p1.trans p2).new ht) (.tup upd_same (.cons (.str _) (.cons (.int _) .nil))) (.plain n)
  have hl1 := p1.kp _ _ hl nlp
  refine ⟨_, rfl, rfl, _, rfl, ?_⟩
  refine ite2 (fun h1 => ?_) (fun h1 => ?_)
  ·refine ⟨_, rfl, _, rfl, _, _, rfl, rfl, _, rfl, _, rfl, l, _, rfl, .inl (SqL.of hl1), ?_⟩
   rw [List.length_map]
   refine digit_sp (p := p) (m := (ys.length : Int)) p1.ok (by omega) (by omega) fun dz H2 b0 b1 p2 => ?_
   have hl2 := p2.kp _ _ hl1 nlp
   refine ⟨_, _, rfl, rfl, _, rfl, l, _, rfl, .inl (SqL.of hl2), _, _, rfl, rfl, by rw [List.length_map]; omega, ?_⟩
   rw [List.length_map]
   obtain ⟨j, ej⟩ := Int.eq_ofNat_of_zero_le (Int.emod_nonneg ((k : Int) + 1 + dz) (show (ys.length : Int) ≠ 0 by omega))
   have hj : j < ys.length := by
    have := Int.emod_lt_of_pos ((k : Int) + 1 + dz) (show (0 : Int) < (ys.length : Int) by omega)
    rw [ej] at this; omega
   refine ⟨l, _, (j : Int), .str ys[j], rfl, (congrArg V.int ej : V.int (((k : Int) + 1 + dz) % (ys.length : Int)) = V.int (j : Int)), SqL.of hl2, atI_nat (by rw [List.getElem?_map, List.getElem?_eq_getElem hj]; rfl), _, rfl, num_sp p2.ok fun n H3 p3 => ⟨by show 3 <= sizeLine; rw [sizeLine_eq]; decide, fun t ht => ?_⟩⟩
   exact q _ _ _ (((p1.trans p2).trans p3).new ht) (.tup upd_same (.cons (.str _) (.cons (.str _) (.cons (.int _) .nil)))) (.ahead _ n (nm _ (List.getElem_mem hj)))
  have hw : wy = 2 \/ wy = 3 \/ wy = 4 := by
   have e0 : wy ≠ 0 := fun z => h0 (by rw [z]; rfl)
   have e1 : wy ≠ 1 := fun z => h1 (by rw [z]; rfl)
   omega
  refine ⟨_, rfl, digit_sp (p := p) (m := 5) p1.ok (by decide) (by decide) fun dn H2 b0 b1 p2 => ⟨dn, rfl, by omega, by omega, fun c hc => ?_⟩⟩
  have P2 := p1.trans p2
  have npc : p ≠ c := P2.ok.ne hc
  have hl2 := P2.kp _ _ hl nlp
  refine comp_range (fun i zs τ H4 => ∃ (ds : List PyData) (t0 : Option V), τ = [t0, some (.ref p), some (.ref l), some (.int (k : Int))] /\ RepAll H4 zs ds /\ ds.length = i /\ (∀ d ∈ ds, Stp d) /\ PotAt p H2 H4 /\ H4 c = some (.lst zs))
   ⟨[], none, rfl, .nil, rfl, (fun d hd => by cases hd), (PotAt.refl P2.ok).new hc, upd_same⟩ (fun i zs τ H4 ⟨_, _, _, _, _, _, _, z⟩ => z) ?_ ?_
  ·rintro j zs τ H4 hj ⟨ds, t0, rfl, rs, dl, ds4, pe, hz⟩
   refine ⟨_, rfl, _, rfl, _, rfl, stp_sp pe.ok (pe.kp _ _ hl2 nlp) ne h20 nm fun v d H5 pf rd sd => ?_⟩
   have hz5 := pf.kp _ _ hz (Ne.symm npc)
   have up : ∀ b xs, H5 b = some (.tup xs) -> upd H5 c (.lst (zs ++ [v])) b = some (.tup xs) := fun b xs e => by rw [upd_ne (ne_of e hz5 (by intro z; cases z))]; exact e
   refine ⟨hz5, by rw [rs.length, dl, sizeLine_eq]; omega, cw_next hj ⟨ds ++ [d], _, rfl, repAll_append (stps_keep (fun b xs e => up b xs (pot_tup pe.ok pf b xs e)) rs ds4) (sd.keep rd up), by rw [List.length_append, dl]; rfl, fun x hx => ?_, (pe.trans pf).write hc npc, upd_same⟩⟩
   rcases List.mem_append.mp hx with z | z
   ·exact ds4 x z
   ·rw [List.mem_singleton.mp z]; exact sd
  rintro zs τ H4 ⟨ds, t0, rfl, rs, dl, ds4, pe, hz⟩
  refine ⟨c, _, rfl, .inl ⟨SqL.of hz, fun b hb => ?_⟩⟩
  have P4 := P2.trans pe
  have p5 := P4.new (o := .tup zs) hb
  have Sb := same_new (o := .tup zs) hb
  have hb5 : upd H4 b (.tup zs) b = some (.tup zs) := upd_same
  have rs5 := RepAll.same rs Sb
  generalize upd H4 b (.tup zs) = H5 at p5 hb5 rs5 ⊢
  refine ⟨by show 3 <= sizeLine; rw [sizeLine_eq]; decide, fun c5 hc5 => ?_⟩
  have p6 := p5.new (o := .lst [V.str "behind", V.str "behind", V.str "shut"]) hc5
  have S6 := same_new (o := .lst [V.str "behind", V.str "behind", V.str "shut"]) hc5
  have h65 : upd H5 c5 (.lst [V.str "behind", V.str "behind", V.str "shut"]) c5 = some (.lst [V.str "behind", V.str "behind", V.str "shut"]) := upd_same
  have hb6 := S6 _ _ hb5
  have rs6 := RepAll.same rs5 S6
  generalize upd H5 c5 (.lst [V.str "behind", V.str "behind", V.str "shut"]) = H6 at p6 h65 hb6 rs6 ⊢
  have d4 : ds.length <= 4 := by omega
  refine ⟨_, rfl, _, _, rfl, rfl, ?_⟩
  rcases hw with rfl | rfl | rfl
  ·refine ⟨c5, _, ((0 : Nat) : Int), .str "behind", rfl, rfl, SqL.of h65, atI_nat rfl, _, rfl, by show 2 <= sizeLine; rw [sizeLine_eq]; decide, fun t ht => ?_⟩
   exact q _ _ _ (p6.new ht) (.tup upd_same (.cons (.str _) (.cons (.tup ((same_new ht) _ _ hb6) (RepAll.same rs6 (same_new ht))) .nil))) (.behind ds d4 ds4)
  ·refine ⟨c5, _, ((1 : Nat) : Int), .str "behind", rfl, rfl, SqL.of h65, atI_nat rfl, _, rfl, by show 2 <= sizeLine; rw [sizeLine_eq]; decide, fun t ht => ?_⟩
   exact q _ _ _ (p6.new ht) (.tup upd_same (.cons (.str _) (.cons (.tup ((same_new ht) _ _ hb6) (RepAll.same rs6 (same_new ht))) .nil))) (.behind ds d4 ds4)
  ·refine ⟨c5, _, ((2 : Nat) : Int), .str "shut", rfl, rfl, SqL.of h65, atI_nat rfl, _, rfl, by show 2 <= sizeLine; rw [sizeLine_eq]; decide, fun t ht => ?_⟩
   exact q _ _ _ (p6.new ht) (.tup upd_same (.cons (.str _) (.cons (.tup ((same_new ht) _ _ hb6) (RepAll.same rs6 (same_new ht))) .nil))) (.shut ds d4 ds4)
end
end K35
namespace K35
open PySem L2 PySem.W HT
abbrev Bk := List (Str × Str × PyData)
def bkKey (p : Str × Str × PyData) : List Str := [p.1, p.2.1]
def BookV (H : Hp) (vs : List V) (bk : Bk) : Prop := Paired (fun v p => ∃ a u, v = V.ref a /\ H a = some (.tup [.str p.1, .str p.2.1, u]) /\ Rep H u p.2.2) vs bk
structure BkOk (bk : Bk) : Prop where
 nm : ∀ p ∈ bk, Nm p.1 /\ Nm p.2.1
 ent : ∀ p ∈ bk, Ent p.2.2
 nd : (bk.map bkKey).Nodup
 few : bk.length <= 48
def woN (bk : Bk) (k n : Str) : Bk := bk.filter fun p => !decide (bkKey p = [k, n])
theorem BookV.keep {H H' : Hp} (k : ∀ b xs, H b = some (.tup xs) -> H' b = some (.tup xs)) : ∀ {vs : List V} {bk : Bk}, BookV H vs bk -> (∀ p ∈ bk, Ent p.2.2) -> BookV H' vs bk
 | _, _, .nil, _ => .nil
 | _, _, .cons ⟨a, u, e, h, r⟩ t, he => .cons ⟨a, u, e, k _ _ h, (he _ List.mem_cons_self).keep r k⟩ (BookV.keep k t fun p hp => he p (List.mem_cons_of_mem _ hp))
theorem BookV.same {H H' : Hp} (S : Same H H') : ∀ {vs : List V} {bk : Bk}, BookV H vs bk -> BookV H' vs bk
 | _, _, .nil => .nil
 | _, _, .cons ⟨a, u, e, h, r⟩ t => .cons ⟨a, u, e, S _ _ h, r.same S⟩ (BookV.same S t)
theorem BookV.length {H : Hp} {vs : List V} {bk : Bk} (h : BookV H vs bk) : vs.length = bk.length := Paired.length h
theorem BookV.append {H : Hp} {a : Addr} {u : V} {p : Str × Str × PyData} (ha : H a = some (.tup [.str p.1, .str p.2.1, u])) (r : Rep H u p.2.2) : ∀ {vs : List V} {bk : Bk}, BookV H vs bk -> BookV H (vs ++ [.ref a]) (bk ++ [p])
 | _, _, .nil => .cons ⟨a, u, rfl, ha, r⟩ .nil
 | _, _, .cons x t => .cons x (BookV.append ha r t)
theorem BookV.keyed {H : Hp} : ∀ {vs : List V} {bk : Bk}, BookV H vs bk -> ∃ kvs, KeyedV H 2 vs kvs /\ kvs.map (·.1) = bk.map bkKey
 | _, _, .nil => ⟨[], .nil, rfl⟩
 | _, _, .cons (b := p) ⟨a, u, e, h, r⟩ t => by
  obtain ⟨kvs, h1, h2⟩ := BookV.keyed t
  exact ⟨(bkKey p, [u]) :: kvs, .cons ⟨a, e, h, rfl⟩ h1, by rw [List.map_cons, List.map_cons, h2]⟩
theorem book_keys {H : Hp} : ∀ {vs : List V} {bk : Bk} {kvs : List (List Str × List V)}, BookV H vs bk -> KeyedV H 2 vs kvs -> kvs.map (·.1) = bk.map bkKey
 | _, _, _, .nil, .nil => rfl
 | _, _, _, .cons ⟨a, u, e, q, r⟩ t, .cons (b := kv) ⟨a', e', q', l'⟩ t' => by
  have ea : a = a' := by rw [e] at e'; cases e'; rfl
  subst ea
  rw [q] at q'
  rw [List.map_cons, List.map_cons, book_keys t t']
  obtain ⟨ks, rest⟩ := kv
  match ks, l' with
  | [k1, k2], _ =>
   injection (Option.some.inj q') with z
   injection z with z1 z2
   injection z2 with z3 z4
   injection z1 with z1
   injection z3 with z3
   unfold bkKey
   rw [z1, z3]
theorem stp_lay {d : PyData} (s : Stp d) : d.canLay0 = true /\ d.depth <= 1 := by
 cases s with
 | add n => exact ⟨by show (PyData.strOk "add" && (true && true)) = true; decide +kernel, by simp [PyData.depth, PyData.depthAll]⟩
 | times n => exact ⟨by show (PyData.strOk "times" && (true && true)) = true; decide +kernel, by simp [PyData.depth, PyData.depthAll]⟩
 | onward => exact ⟨by decide +kernel, by decide +kernel⟩
 | ask x h =>
  refine ⟨?_, by simp [PyData.depth, PyData.depthAll]⟩
  show (PyData.strOk "ask" && (PyData.strOk x && true)) = true
  rw [nm_ok h]; decide +kernel
theorem stps_lay : ∀ {ds : List PyData}, (∀ d ∈ ds, Stp d) -> PyData.canLayAll0 ds = true /\ PyData.depthAll ds <= 1
 | [], _ => ⟨rfl, by decide⟩
 | d :: ds, h => by
  obtain ⟨a1, a2⟩ := stp_lay (h d List.mem_cons_self)
  obtain ⟨b1, b2⟩ := stps_lay fun x hx => h x (List.mem_cons_of_mem _ hx)
  refine ⟨?_, ?_⟩
  ·show (d.canLay0 && PyData.canLayAll0 ds) = true
   rw [a1, b1]; rfl
  ·simp only [PyData.depthAll]; omega
theorem ent_lay {d : PyData} (s : Ent d) : d.canLay0 = true /\ d.depth <= 3 := by
 cases s with
 | plain n => exact ⟨by show (PyData.strOk "plain" && (true && true)) = true; decide +kernel, by simp [PyData.depth, PyData.depthAll]⟩
 | ahead x n h =>
  refine ⟨?_, by simp [PyData.depth, PyData.depthAll]⟩
  show (PyData.strOk "ahead" && (PyData.strOk x && (true && true))) = true
  rw [nm_ok h]; decide +kernel
 | behind ds h4 hs =>
  obtain ⟨b1, b2⟩ := stps_lay hs
  refine ⟨?_, ?_⟩
  ·show (PyData.strOk "behind" && (PyData.canLayAll0 ds && true)) = true
   rw [b1]; decide +kernel
  ·simp only [PyData.depth, PyData.depthAll]; omega
 | shut ds h4 hs =>
  obtain ⟨b1, b2⟩ := stps_lay hs
  refine ⟨?_, ?_⟩
  ·show (PyData.strOk "shut" && (PyData.canLayAll0 ds && true)) = true
   rw [b1]; decide +kernel
  ·simp only [PyData.depth, PyData.depthAll]; omega
section
variable {P : Program} {w : World} {K : Frag} {mg : Str -> Option Value} {base : Heap} {f : Addr} {fd : FuncData}
@[irreducible] def spCkN : Sp := fun vs H Q _ => ∃ x : Str, vs = [.str x] /\ Nm x /\ ∀ H', Same H H' -> Q .non H'
theorem ckN_sp {x : Str} {H : Hp} {Q : VK} {E : XK} (h : Nm x) (q : ∀ H', Same H H' -> Q .non H') : spCkN [.str x] H Q E := by unfold spCkN; exact ⟨x, rfl, h, q⟩
theorem scCkN : FnScope ["thing"] ["thing"] (defScope sCheckN) := ⟨rfl, rfl, rfl, by decide +kernel, rfl, by decide +kernel, by decide +kernel⟩
theorem ok_ckN {fN : Addr} {dN : FuncData} (F : Fun K "check_name" "check_name" sCheckN f fd) (GN : FnOk P w K mg base CX0 1 fN dN ["thing"] spName) (kN : keepIn K (.ref fN) = true) (bN : Binds K dN ["thing"] []) (mN : mg "is_name" = some (.ref fN)) : FnOk P w K mg base CX0 2 f fd ["thing"] spCkN := by
 refine F.ok scCkN (fun vs H Q E h => ?_) (fun cdv A outer s H vs Q E hr h => ?_)
 ·unfold spCkN at h; obtain ⟨x, rfl, _⟩ := h; rfl
 ·unfold spCkN at h
  obtain ⟨x, rfl, hx, q⟩ := h
  refine ⟨_, pss_one (ps_if (pt_not (pt_val (pe_call GN hr rfl mN kN bN .nil pass0 (pa_cons (pv 0) pa_nil)))) pss_never pss_nil), ?_⟩
  exact ⟨_, rfl, name_sp hx fun H1 S1 => ⟨true, rfl, q H1 S1⟩⟩
end
end K35
namespace K35
open PySem L2 PySem.W HT
def Srt (bk : Bk) : Prop := (bk.map bkKey).Pairwise fun a b => ltL a b = true
theorem woN_ok {bk : Bk} (ok : BkOk bk) (k n : Str) : BkOk (woN bk k n) :=
 ⟨fun p hp => ok.nm p (List.mem_filter.mp hp).1, fun p hp => ok.ent p (List.mem_filter.mp hp).1, ok.nd.sublist (List.Sublist.map _ List.filter_sublist), Nat.le_trans (List.length_filter_le _ _) ok.few⟩
theorem woN_not {bk : Bk} {k n : Str} : [k, n] ∉ (woN bk k n).map bkKey := fun h => by
 obtain ⟨p, hp, e⟩ := List.mem_map.mp h
 have := (List.mem_filter.mp hp).2
 simp [e] at this
theorem BookV.perm {H : Hp} {vs vs' : List V} {bk : Bk} (p : vs'.Perm vs) (h : BookV H vs bk) : ∃ bk', bk'.Perm bk /\ BookV H vs' bk' := paired_perm p h
end K35
namespace K35
open PySem L2 PySem.W HT
def dKey (p : Str × Str × PyData) : List Key := [Sum.inr p.1, Sum.inr p.2.1]
def DueV (H : Hp) (kvs : List (List Key × V)) (due : Bk) : Prop := Paired (fun kv p => kv.1 = dKey p /\ Rep H kv.2 p.2.2) kvs due
theorem DueV.keep {H H' : Hp} (k : ∀ b xs, H b = some (.tup xs) -> H' b = some (.tup xs)) : ∀ {kvs : List (List Key × V)} {due : Bk}, DueV H kvs due -> (∀ p ∈ due, Ent p.2.2) -> DueV H' kvs due
 | _, _, .nil, _ => .nil
 | _, _, .cons ⟨e, r⟩ t, he => .cons ⟨e, (he _ List.mem_cons_self).keep r k⟩ (DueV.keep k t fun p hp => he p (List.mem_cons_of_mem _ hp))
theorem DueV.same {H H' : Hp} (S : Same H H') {kvs : List (List Key × V)} {due : Bk} (h : DueV H kvs due) : DueV H' kvs due := by
 induction h with
 | nil => exact .nil
 | cons x _ ih => exact .cons ⟨x.1, x.2.same S⟩ ih
theorem DueV.length {H : Hp} {kvs : List (List Key × V)} {due : Bk} (h : DueV H kvs due) : kvs.length = due.length := Paired.length h
theorem dKey_iff {p : Str × Str × PyData} {k n : Str} : dKey p = [Sum.inr k, Sum.inr n] ↔ bkKey p = [k, n] := by
 unfold dKey bkKey
 constructor
 ·intro h
  injection h with h1 h2
  injection h2 with h3 _
  rw [Sum.inr.inj h1, Sum.inr.inj h3]
 ·intro h
  injection h with h1 h2
  injection h2 with h3 _
  rw [h1, h3]
theorem DueV.val {H : Hp} {k n : Str} : ∀ {kvs : List (List Key × V)} {due : Bk}, DueV H kvs due -> (valV kvs [Sum.inr k, Sum.inr n] = none /\ [k, n] ∉ due.map bkKey) \/ ∃ v d, valV kvs [Sum.inr k, Sum.inr n] = some v /\ (k, n, d) ∈ due /\ Rep H v d
 | _, _, .nil => .inl ⟨rfl, by simp⟩
 | _, _, .cons (a := kv) (b := p) ⟨e, r⟩ t => by
  by_cases hk : kv.1 = [Sum.inr k, Sum.inr n]
  ·have hp := dKey_iff.mp (e.symm.trans hk)
   have e1 : p.1 = k := by injection hp
   have e2 : p.2.1 = n := by injection hp with _ z; injection z
   exact .inr ⟨kv.2, p.2.2, valV_pos hk, by rw [<- e1, <- e2]; exact List.mem_cons_self, r⟩
  ·have hp : bkKey p ≠ [k, n] := fun z => hk (e.trans (dKey_iff.mpr z))
   rcases DueV.val (k := k) (n := n) t with ⟨a, b⟩ | ⟨v, d, a, b, c⟩
   ·refine .inl ⟨(valV_neg hk).trans a, fun z => ?_⟩
    rw [List.map_cons] at z
    rcases List.mem_cons.mp z with z | z
    ·exact hp z.symm
    ·exact b z
   ·exact .inr ⟨v, d, (valV_neg hk).trans a, List.mem_cons_of_mem _ b, c⟩
theorem DueV.drop {H : Hp} {k n : Str} : ∀ {kvs : List (List Key × V)} {due : Bk}, DueV H kvs due -> DueV H (dropK kvs [Sum.inr k, Sum.inr n]) (woN due k n)
 | _, _, .nil => .nil
 | _, _, .cons (a := kv) (b := p) ⟨e, r⟩ t => by
  have ih := DueV.drop (k := k) (n := n) t
  unfold dropK woN at ih ⊢
  rw [List.filter_cons, List.filter_cons]
  by_cases hk : kv.1 = [Sum.inr k, Sum.inr n]
  ·have hp := dKey_iff.mp (e.symm.trans hk)
   rw [if_neg (by simp [hk]), if_neg (by simp [hp])]; exact ih
  ·have hp : bkKey p ≠ [k, n] := fun z => hk (e.trans (dKey_iff.mpr z))
   rw [if_pos (by simp [hk]), if_pos (by simp [hp])]; exact .cons ⟨e, r⟩ ih
theorem woN_self {bk : Bk} {k n : Str} (h : [k, n] ∉ bk.map bkKey) : woN bk k n = bk := List.filter_eq_self.mpr fun p hp => by
 have : bkKey p ≠ [k, n] := fun e => h (e ▸ List.mem_map.mpr ⟨p, hp, rfl⟩)
 simpa using this
theorem put_perm {k n : Str} {d : PyData} : ∀ {due : Bk}, (due.map bkKey).Nodup -> [k, n] ∈ due.map bkKey -> (due.map fun p => if bkKey p = [k, n] then (k, n, d) else p).Perm (woN due k n ++ [(k, n, d)])
 | [], _, h => by simp at h
 | p :: due, nd, h => by
  rw [List.map_cons, List.nodup_cons] at nd
  by_cases e : bkKey p = [k, n]
  ·have hn : [k, n] ∉ due.map bkKey := e ▸ nd.1
   have e1 : (due.map fun p => if bkKey p = [k, n] then (k, n, d) else p) = due := by
    refine (List.map_congr_left (g := id) fun q hq => ?_).trans (List.map_id due)
    have : bkKey q ≠ [k, n] := fun z => hn (z ▸ List.mem_map.mpr ⟨q, hq, rfl⟩)
    rw [if_neg this]; rfl
   have e2 : woN (p :: due) k n = due := by
    have := woN_self hn
    unfold woN at this ⊢
    rw [List.filter_cons_of_neg (by simp [e])]; exact this
   rw [List.map_cons, if_pos e, e1, e2]
   exact (List.perm_append_singleton _ _).symm
  ·have hin : [k, n] ∈ due.map bkKey := by
    rw [List.map_cons] at h
    rcases List.mem_cons.mp h with z | z
    ·exact absurd z.symm e
    ·exact z
   have e2 : woN (p :: due) k n = p :: woN due k n := by unfold woN; rw [List.filter_cons_of_pos (by simp [e])]
   rw [List.map_cons, if_neg e, e2]
   exact (put_perm nd.2 hin).cons p
theorem DueV.putM {H : Hp} {k n : Str} {v : V} {d : PyData} (r : Rep H v d) : ∀ {kvs : List (List Key × V)} {due : Bk}, DueV H kvs due -> DueV H (kvs.map fun kv => if kv.1 = [Sum.inr k, Sum.inr n] then (kv.1, v) else kv) (due.map fun p => if bkKey p = [k, n] then (k, n, d) else p)
 | _, _, .nil => .nil
 | _, _, .cons (a := kv) (b := p) ⟨e, r'⟩ t => by
  rw [List.map_cons, List.map_cons]
  by_cases hk : kv.1 = [Sum.inr k, Sum.inr n]
  ·have hp := dKey_iff.mp (e.symm.trans hk)
   rw [if_pos hk, if_pos hp]
   exact .cons ⟨hk, r⟩ (DueV.putM r t)
  ·have hp : bkKey p ≠ [k, n] := fun z => hk (e.trans (dKey_iff.mpr z))
   rw [if_neg hk, if_neg hp]
   exact .cons ⟨e, r'⟩ (DueV.putM r t)
theorem DueV.snoc {H : Hp} {k n : Str} {v : V} {d : PyData} (r : Rep H v d) : ∀ {kvs : List (List Key × V)} {due : Bk}, DueV H kvs due -> DueV H (kvs ++ [([Sum.inr k, Sum.inr n], v)]) (due ++ [(k, n, d)])
 | _, _, .nil => .cons ⟨rfl, r⟩ .nil
 | _, _, .cons x t => .cons x (DueV.snoc r t)
theorem DueV.put {H : Hp} {k n : Str} {v : V} {d : PyData} {kvs : List (List Key × V)} {due : Bk} (h : DueV H kvs due) (nd : (due.map bkKey).Nodup) (r : Rep H v d) : ∃ due', DueV H (putK kvs [Sum.inr k, Sum.inr n] v) due' /\ due'.Perm (woN due k n ++ [(k, n, d)]) := by
 rcases h.val (k := k) (n := n) with ⟨a, b⟩ | ⟨v0, d0, a, b, _⟩
 ·rw [putK_new v a, woN_self b]
  exact ⟨_, h.snoc r, .refl _⟩
 ·have e : putK kvs [Sum.inr k, Sum.inr n] v = kvs.map fun kv => if kv.1 = [Sum.inr k, Sum.inr n] then (kv.1, v) else kv := by
   unfold putK
   rw [if_pos (by rw [valV_any, a]; rfl)]
  rw [e]
  exact ⟨_, h.putM r, put_perm nd (List.mem_map.mpr ⟨_, b, rfl⟩)⟩
theorem bk_perm {a b : Bk} (p : a.Perm b) (ok : BkOk b) : BkOk a :=
 ⟨fun q hq => ok.nm q (p.mem_iff.mp hq), fun q hq => ok.ent q (p.mem_iff.mp hq), (p.map bkKey).nodup_iff.mpr ok.nd, by rw [p.length_eq]; exact ok.few⟩
theorem nd_key : ∀ {bk : Bk} {p q : Str × Str × PyData}, (bk.map bkKey).Nodup -> p ∈ bk -> q ∈ bk -> p ≠ q -> bkKey p ≠ bkKey q
 | [], _, _, _, h, _, _ => by cases h
 | x :: bk, p, q, nd, hp, hq, ne => by
  rw [List.map_cons, List.nodup_cons] at nd
  rcases List.mem_cons.mp hp with e1 | hp2
  ·rcases List.mem_cons.mp hq with e2 | hq2
   ·exact absurd (e1.trans e2.symm) ne
   ·intro z
    exact nd.1 (e1 ▸ z ▸ List.mem_map.mpr ⟨q, hq2, rfl⟩)
  ·rcases List.mem_cons.mp hq with e2 | hq2
   ·intro z
    exact nd.1 (e2 ▸ z ▸ List.mem_map.mpr ⟨p, hp2, rfl⟩)
   ·exact nd_key nd.2 hp2 hq2 ne
section
variable {P : Program} {w : World} {K : Frag} {mg : Str -> Option Value} {base : Heap} {f : Addr} {fd : FuncData}
@[irreducible] def spBt : Sp := fun vs H Q _ => ∃ (d : Addr) (kvs : List (List Key × V)) (due : Bk), vs = [.ref d] /\ H d = some (.dT kvs) /\ DueV H kvs due /\ BkOk due /\ ∀ r ws bk H', Same H H' -> H' r = some (.tup ws) -> BookV H' ws bk -> bk.Perm due -> Srt bk -> Q (.ref r) H'
theorem bt_sp {d : Addr} {kvs : List (List Key × V)} {due : Bk} {H : Hp} {Q : VK} {E : XK} (hd : H d = some (.dT kvs)) (dv : DueV H kvs due) (ok : BkOk due) (q : ∀ r ws bk H', Same H H' -> H' r = some (.tup ws) -> BookV H' ws bk -> bk.Perm due -> Srt bk -> Q (.ref r) H') : spBt [.ref d] H Q E := by
 unfold spBt; exact ⟨d, kvs, due, rfl, hd, dv, ok, q⟩
theorem scBt : FnScope ["_law_book_here"] ["_law_book_here"] (defScope sBookTup) := ⟨rfl, rfl, rfl, by decide +kernel, rfl, by decide +kernel, by decide +kernel⟩
abbrev eBt : Expr := arg0 (arg0 (retV (bodyAt (defBody sBookTup) 0)))
theorem csBt : CompScope ["_law_book_here"] (defScope sBookTup) ["_law_kind", "_law_name", "_law_book_here"] [none, none, some 0] (compSc eBt) := ⟨rfl, by decide +kernel, by decide +kernel, rfl, fv_of (by decide +kernel), by decide +kernel⟩
theorem pg_tup_K {X : Cx} {pos : Pos} (K : Frag) (h : X.K = K) {es : List Expr} {k : Nat} {t : TGs} {n : Nat} (hc : X.calm = true) (hh : PGs X es t)
  (hn : (assignEach es X.env).length = n := by rfl) (hst : (assignEach es X.env).findIdx? (·.1) = none := by rfl) : PG X (.Tuple es k pos) (gTup K n t) := by subst h; exact pg_tup hc hh hn hst
theorem ok_bt (F : Fun K "_law_book_tuple" "_law_book_tuple" sBookTup f fd) (B : Blt mg) (B2 : Blt2 mg) : FnOk P w K mg base CX0 1 f fd ["_law_book_here"] spBt := by
 refine F.ok scBt (fun vs H Q E h => ?_) (fun cdv A outer s H vs Q E hr h => ?_)
 ·unfold spBt at h; obtain ⟨d, kvs, due, rfl, _⟩ := h; rfl
 ·unfold spBt at h
  obtain ⟨d, kvs, due, rfl, hd, dv, ok, q⟩ := h
  have hu := hr.units
  have hu1 := Nat.lt_of_le_of_lt (Nat.add_le_add_left (show 1 <= 64 by decide) _) hu
  refine ⟨_, pss_one (ps_ret (pe_thaw (pe_callTy call_tuple_of rfl B.tuple boot_tuple (pa_cons (pe_callB call_sortedG rfl B2.sorted boot_sorted (pa_cons (pe_comp rfl csBt (pi_dictT (pv 0)) (fun s H fp => ⟨pg_tup_K (n := 2) K rfl rfl (pgs_cons (pg_name (i := 0) csBt.nd rfl (Or.inl rfl)) (pgs_cons (pg_name (i := 1) csBt.nd rfl (Or.inl rfl)) pgs_nil)), pifs_nil,
     pe_tup (pa_cons (pv 0) (pa_cons (pv 1) (pa_cons (pe_dget hu1 (pv 2) (pe_tup (pa_cons (pv 0) (pa_cons (pv 1) pa_nil))) (fun _ _ => rfl)) pa_nil)))⟩)) pa_nil)) pa_nil)))), ?_⟩
  have lk := dv.length
  have few := ok.few
  refine ⟨_, rfl, d, kvs, rfl, hd, fun o c hc => ?_⟩
  have kp0 : ∀ b u, b ≠ d -> H b = some u -> upd H d (.frz o (.dT kvs)) b = some u := fun b u n e => by rw [upd_ne n]; exact e
  have hd0 : upd H d (.frz o (.dT kvs)) d = some (.frz o (.dT kvs)) := upd_same
  have dv0 : DueV (upd H d (.frz o (.dT kvs))) kvs due := dv.keep (fun b xs e => kp0 _ _ (ne_of e hd (by intro z; cases z)) e) ok.ent
  generalize upd H d (.frz o (.dT kvs)) = H1 at kp0 hd0 dv0 hc ⊢
  refine comp_dictT (fun i ys τ H2 => ∃ t0 t1 : Option V, τ = [t0, t1, some (.ref d)] /\ H2 c = some (.lst ys) /\ Same H1 H2 /\ BookV H2 ys (due.take i)) ⟨none, none, rfl, upd_same, same_new hc, .nil⟩ (fun i ys τ H2 ⟨_, _, _, z1, z2, _⟩ => ⟨z1, z2 _ _ hd0⟩) ?_ ?_
  ·rintro i kv b ys τ H2 hkv hb ⟨t0, t1, rfl, h2, S2, B2'⟩
   have hjl : i < kvs.length := (List.getElem?_eq_some_iff.mp hkv).1
   obtain ⟨p, hp, ek, rp⟩ := L2.Paired.get (dv0.same S2) hkv
   have pm := List.mem_of_getElem? hp
   have tki : due.take (i + 1) = due.take i ++ [p] := by rw [List.take_succ, hp]; rfl
   replace hb : H2 b = some (.tup [V.str p.1, V.str p.2.1]) := by rw [ek] at hb; exact hb
   refine ⟨b, _, rfl, SqT.of hb, rfl, _, _, rfl, _, _, rfl, rfl, ?_⟩
   refine ⟨_, rfl, _, rfl, _, rfl, _, rfl, _, rfl, by show 2 <= sizeLine; rw [sizeLine_eq]; decide, fun kt hkt => ?_⟩
   have Sk := same_new (o := .tup [V.str p.1, V.str p.2.1]) hkt
   have hk3 : upd H2 kt (.tup [V.str p.1, V.str p.2.1]) kt = some (.tup ((dKey p).map kV)) := upd_same
   generalize upd H2 kt (.tup [V.str p.1, V.str p.2.1]) = H3 at Sk hk3 ⊢
   have S3 := S2.trans Sk
   obtain ⟨v, hv⟩ : ∃ v, valV kvs (dKey p) = some v /\ Rep H3 v p.2.2 := by
    rcases (dv0.same S3).val (k := p.1) (n := p.2.1) with ⟨_, z⟩ | ⟨v, d', z1, z2, z3⟩
    ·exact absurd (List.mem_map.mpr ⟨p, pm, rfl⟩) z
    ·refine ⟨v, z1, ?_⟩
     have : (p.1, p.2.1, d') = p := by
      by_cases e : (p.1, p.2.1, d') = p
      ·exact e
      ·exact absurd (show bkKey (p.1, p.2.1, d') = bkKey p from rfl) (nd_key ok.nd z2 pm e)
     rw [<- this]; exact z3
   refine ⟨d, v, rfl, .inr ⟨kvs, dKey p, kt, .inr ⟨o, S3 _ _ hd0⟩, rfl, hk3, hv.1.symm⟩, by show 3 <= sizeLine; rw [sizeLine_eq]; decide, fun t ht => ?_⟩
   have St := Sk.trans (same_new (o := .tup [V.str p.1, V.str p.2.1, v]) ht)
   have ht4 : upd H3 t (.tup [V.str p.1, V.str p.2.1, v]) t = some (.tup [V.str p.1, V.str p.2.1, v]) := upd_same
   have rv4 := hv.2.same (same_new (o := .tup [V.str p.1, V.str p.2.1, v]) ht)
   generalize upd H3 t (.tup [V.str p.1, V.str p.2.1, v]) = H4 at St ht4 rv4 ⊢
   have hct := St _ _ h2
   have up : ∀ {zs : List V} b xs, H4 b = some (.tup xs) -> upd H4 c (.lst zs) b = some (.tup xs) := fun b xs e => by rw [upd_ne (ne_of e hct (by intro z; cases z))]; exact e
   refine ⟨hct, ?_, cw_next hjl ⟨_, _, rfl, upd_same, fun x u hx => by rw [upd_ne (ne_of_none hx hc)]; exact St _ _ (S2 x u hx), ?_⟩⟩
   ·have := B2'.length
    rw [List.length_take] at this
    rw [sizeLine_eq]; omega
   ·rw [tki]
    exact BookV.append (up _ _ ht4) ((ok.ent p pm).keep rv4 up) (BookV.keep up (BookV.same St B2') fun q hq => ok.ent q (List.mem_of_mem_take hq))
  ·rintro ys τ H2 ⟨t0, t1, rfl, h2, S2, B2'⟩
   rw [lk, List.take_length] at B2'
   obtain ⟨kv6, K6, ek⟩ := B2'.keyed
   have l2 := B2'.length
   refine ⟨c, _, kv6, 2, rfl, .inl (SqL.of h2), K6, by decide, by rw [ek]; exact ok.nd, by omega, fun D ys' kv' hD hperm hK hpk hso => ?_⟩
   obtain ⟨bk', hpf, B7⟩ := BookV.perm hperm B2'
   rw [book_keys B7 hK] at hso
   have SD := same_new (o := .lst ys') hD
   refine ⟨D, ys', rfl, .inl ⟨SqL.of upd_same, fun t' ht' => ?_⟩⟩
   have St := S2.trans (SD.trans (same_new (o := .tup ys') ht'))
   have hdE := St _ _ hd0
   have hT : upd (upd H2 D (.lst ys')) t' (.tup ys') t' = some (.tup ys') := upd_same
   have B8 := BookV.same (SD.trans (same_new (o := .tup ys') ht')) B7
   generalize upd (upd H2 D (.lst ys')) t' (.tup ys') = H5 at St hdE hT B8 ⊢
   refine ⟨d, o, kvs, hdE, fun o' u' z => ?_, ?_⟩
   ·have : H d = some (.frz o' u') := z
    rw [hd] at this; cases this
   ·have up : ∀ b xs, H5 b = some (.tup xs) -> upd H5 d (.dT kvs) b = some (.tup xs) := fun b xs e => by rw [upd_ne (ne_of e hdE (by intro z; cases z))]; exact e
    refine q t' ys' bk' _ (fun b u e => ?_) (up _ _ hT) (BookV.keep up B8 fun p hp => ok.ent p (hpf.mem_iff.mp hp)) hpf hso
    by_cases hb : b = d
    ·subst hb; rw [upd_same, <- e, hd]
    ·rw [upd_ne hb]; exact St _ _ (kp0 b u hb e)
end
end K35
namespace K35
open PySem L2 PySem.W HT
def lookBk (bk : Bk) (k n : Str) : Option PyData := (bk.find? fun p => decide (bkKey p = [k, n])).map (·.2.2)
def fnd (bk : Bk) (n : Str) : List Str -> Option (Str × PyData)
 | [] => none
 | x :: r => match lookBk bk x n with
  | some d => some (x, d)
  | none => fnd bk n r
theorem lookBk_none {k n : Str} {bk : Bk} : lookBk bk k n = none ↔ [k, n] ∉ bk.map bkKey := by
 unfold lookBk
 rw [Option.map_eq_none_iff, List.find?_eq_none]
 constructor
 ·intro h z
  obtain ⟨p, hp, e⟩ := List.mem_map.mp z
  exact h p hp (decide_eq_true e)
 ·intro h p hp z
  exact h (List.mem_map.mpr ⟨p, hp, of_decide_eq_true z⟩)
theorem lookBk_some {k n : Str} {d : PyData} {bk : Bk} (h : lookBk bk k n = some d) : (k, n, d) ∈ bk := by
 unfold lookBk at h
 obtain ⟨p, hp, rfl⟩ := Option.map_eq_some_iff.mp h
 have hm := List.mem_of_find?_eq_some hp
 have hk : bkKey p = [k, n] := of_decide_eq_true (List.find?_some (p := fun q => decide (bkKey q = [k, n])) hp)
 obtain ⟨a, b, c⟩ := p
 injection hk with e1 e2
 injection e2 with e2 _
 subst e1 e2
 exact hm
theorem lookBk_mem {k n : Str} {d : PyData} {bk : Bk} (nd : (bk.map bkKey).Nodup) (h : (k, n, d) ∈ bk) : lookBk bk k n = some d := by
 cases e : lookBk bk k n with
 | none => exact absurd (List.mem_map.mpr ⟨_, h, rfl⟩) (lookBk_none.mp e)
 | some d' =>
  have h' := lookBk_some e
  by_cases z : d = d'
  ·rw [z]
  ·exact absurd (show bkKey (k, n, d) = bkKey (k, n, d') from rfl) (nd_key nd h h' (fun w => z (by injection w with _ w; injection w)))
theorem lookBk_perm {k n : Str} {a b : Bk} (p : a.Perm b) (nd : (b.map bkKey).Nodup) : lookBk a k n = lookBk b k n := by
 cases e : lookBk a k n with
 | none =>
  exact (lookBk_none.mpr fun z => lookBk_none.mp e ((p.map bkKey).mem_iff.mpr z)).symm
 | some d => exact (lookBk_mem nd (p.mem_iff.mp (lookBk_some e))).symm
theorem fnd_no {bk : Bk} {n x : Str} {r : List Str} (h : lookBk bk x n = none) : fnd bk n (x :: r) = fnd bk n r := by
 show (match lookBk bk x n with | some d => some (x, d) | none => fnd bk n r) = _
 rw [h]
theorem fnd_yes {bk : Bk} {n x : Str} {d : PyData} {r : List Str} (h : lookBk bk x n = some d) : fnd bk n (x :: r) = some (x, d) := by
 show (match lookBk bk x n with | some d => some (x, d) | none => fnd bk n r) = _
 rw [h]
theorem fnd_append {bk : Bk} {n : Str} {x : Str} : ∀ (l : List Str), (∀ y ∈ l, lookBk bk y n = none) -> ∀ r, fnd bk n (l ++ r) = fnd bk n r
 | [], _, _ => rfl
 | y :: l, h, r => by
  show fnd bk n (y :: (l ++ r)) = _
  rw [fnd_no (h y List.mem_cons_self)]
  exact fnd_append (x := x) l (fun z hz => h z (List.mem_cons_of_mem _ hz)) r
theorem fnd_mem {bk : Bk} {n x : Str} {d : PyData} : ∀ {l : List Str}, fnd bk n l = some (x, d) -> x ∈ l /\ lookBk bk x n = some d
 | [], h => by cases h
 | y :: l, h => by
  unfold fnd at h
  cases e : lookBk bk y n with
  | some d' => rw [e] at h; cases h; exact ⟨List.mem_cons_self, e⟩
  | none =>
   rw [e] at h
   obtain ⟨a, b⟩ := fnd_mem (l := l) h
   exact ⟨List.mem_cons_of_mem _ a, b⟩
theorem DueV.look {H : Hp} {k n : Str} {kvs : List (List Key × V)} {due : Bk} (h : DueV H kvs due) (nd : (due.map bkKey).Nodup) : (lookBk due k n = none /\ valV kvs [Sum.inr k, Sum.inr n] = none) \/ ∃ v d, lookBk due k n = some d /\ valV kvs [Sum.inr k, Sum.inr n] = some v /\ Rep H v d := by
 rcases h.val (k := k) (n := n) with ⟨a, b⟩ | ⟨v, d, a, b, c⟩
 ·exact .inl ⟨lookBk_none.mpr b, a⟩
 ·exact .inr ⟨v, d, lookBk_mem nd b, a, c⟩
def OutV (H : Hp) (v : V) : Option (Str × PyData) -> Prop
 | none => v = .non
 | some (x, d) => ∃ t u, v = .ref t /\ H t = some (.tup [.str x, u]) /\ Rep H u d
def outD : Option (Str × PyData) -> PyData
 | none => .none
 | some (x, d) => .tuple [.str x, d]
theorem OutV.rep {H : Hp} {v : V} {r : Option (Str × PyData)} (h : OutV H v r) : Rep H v (outD r) := by
 cases r with
 | none => cases h; exact .non
 | some p =>
  obtain ⟨t, u, rfl, ht, r⟩ := h
  exact .tup ht (.cons (.str _) (.cons r .nil))
theorem OutV.keep {H H' : Hp} (k : ∀ b xs, H b = some (.tup xs) -> H' b = some (.tup xs)) {v : V} {r : Option (Str × PyData)} (h : OutV H v r) (he : ∀ x d, r = some (x, d) -> Ent d) : OutV H' v r := by
 cases r with
 | none => exact h
 | some p =>
  obtain ⟨t, u, rfl, ht, r⟩ := h
  exact ⟨t, u, rfl, k _ _ ht, (he _ _ rfl).keep r k⟩
theorem outD_lay {r : Option (Str × PyData)} (h : ∀ x d, r = some (x, d) -> Nm x /\ Ent d) : (outD r).canLay0 = true /\ (outD r).depth <= 5 := by
 cases r with
 | none => exact ⟨by decide +kernel, by decide +kernel⟩
 | some p =>
  obtain ⟨hx, hd⟩ := h p.1 p.2 rfl
  obtain ⟨e1, e2⟩ := ent_lay hd
  refine ⟨?_, ?_⟩
  ·show (PyData.strOk p.1 && (p.2.canLay0 && true)) = true
   rw [nm_ok hx, e1]; rfl
  ·show PyData.depthAll [.str p.1, p.2] + 1 <= 5
   simp only [PyData.depthAll, PyData.depth]; omega
end K35
namespace K35
open PySem L2 PySem.W HT
def compScD (e : Expr) : Scope := match e with | .DictComp _ _ _ sc _ => sc | .SetComp _ _ sc _ => sc | _ => { kind := .function, names := [], isGenerator := false, isCoroutine := false }
def behR (line : List Str) (b : Str) : List Str := if b = "" then line else line.drop (line.idxOf b + 1)
def fF (dl de dh : Addr) (m : Int) : List (Str × V) := [("lines", .ref dl), ("entries", .ref de), ("hits", .ref dh), ("met", .int m)]
theorem putF_ne {f g : Str} {v x : V} {r : List (Str × V)} (h : g ≠ f) : putF f v ((g, x) :: r) = (g, x) :: putF f v r := if_neg h
theorem putF_eq {f : Str} {v x : V} {r : List (Str × V)} : putF f v ((f, x) :: r) = (f, v) :: r := if_pos rfl
theorem putF_nil {f : Str} {v : V} : putF f v [] = [(f, v)] := rfl
theorem fF_init (dl de dh : Addr) : putF "met" (.int 0) (putF "hits" (.ref dh) (putF "entries" (.ref de) (putF "lines" (.ref dl) []))) = fF dl de dh 0 := by
 rw [putF_nil, putF_ne (f := "entries") (by decide +kernel), putF_nil, putF_ne (f := "hits") (by decide +kernel), putF_ne (f := "hits") (by decide +kernel), putF_nil, putF_ne (f := "met") (by decide +kernel), putF_ne (f := "met") (by decide +kernel), putF_ne (f := "met") (by decide +kernel), putF_nil]
 rfl
theorem fF_put (dl de dh : Addr) (m m' : Int) : putF "met" (.int m') (fF dl de dh m) = fF dl de dh m' := by
 unfold fF
 rw [putF_ne (f := "met") (by decide +kernel), putF_ne (f := "met") (by decide +kernel), putF_ne (f := "met") (by decide +kernel), putF_eq]
theorem lk_ne {α : Type} {x y : Str} {v : α} {r : List (Str × α)} (h : x ≠ y) : List.lookup x ((y, v) :: r) = List.lookup x r := by
 rw [List.lookup_cons]
 have : (x == y) = false := by simpa using h
 rw [this]
theorem lk_eq {α : Type} {x : Str} {v : α} {r : List (Str × α)} : List.lookup x ((x, v) :: r) = some v := by
 rw [List.lookup_cons, beq_self_eq_true]
section
variable {dl de dh : Addr} {m : Int}
theorem fF_lines : (fF dl de dh m).lookup ("lines" : Str) = some (V.ref dl) := lk_eq
theorem fF_entries : (fF dl de dh m).lookup ("entries" : Str) = some (V.ref de) := by unfold fF; rw [lk_ne (by decide +kernel)]; exact lk_eq
theorem fF_hits : (fF dl de dh m).lookup ("hits" : Str) = some (V.ref dh) := by unfold fF; rw [lk_ne (by decide +kernel), lk_ne (by decide +kernel)]; exact lk_eq
theorem fF_met : (fF dl de dh m).lookup ("met" : Str) = some (V.int m) := by unfold fF; rw [lk_ne (by decide +kernel), lk_ne (by decide +kernel), lk_ne (by decide +kernel)]; exact lk_eq
theorem fF_no {x : Str} (h1 : x ≠ "lines") (h2 : x ≠ "entries") (h3 : x ≠ "hits") (h4 : x ≠ "met") : (fF dl de dh m).lookup x = none := by unfold fF; rw [lk_ne h1, lk_ne h2, lk_ne h3, lk_ne h4]; rfl
end
structure TxtF (K : Frag) (mg : Str -> Option Value) (C : Addr) : Prop where
 cl : Cls K C
 nl : NoAttr K C "lines"
 ne : NoAttr K C "entries"
 nh : NoAttr K C "hits"
 nm : NoAttr K C "met"
 mgC : mg "Finds" = some (.ref C)
structure FI (C x dx dl de dh : Addr) (kl : List (Key × V)) (ke kh : List (List Key × V)) (m : Int) (bk : Bk) (H : Hp) : Prop where
 hx : H x = some (.ins C dx (fF dl de dh m))
 hl : H dl = some (.dK kl)
 he : H de = some (.dT ke)
 hh : H dh = some (.dT kh)
 du : DueV H ke bk
 ok : BkOk bk
 nn : de ≠ dh
section
variable {P : Program} {w : World} {K : Frag} {mg : Str -> Option Value} {base : Heap} {f : Addr} {fd : FuncData}
@[irreducible] def spEb : Sp := fun vs H Q _ => ∃ (t : Addr) (ws : List V) (bk : Bk), vs = [.ref t] /\ H t = some (.tup ws) /\ BookV H ws bk /\ BkOk bk /\ ∀ d kvs H', H d = none -> Same H H' -> H' d = some (.dT kvs) -> DueV H' kvs bk -> Q (.ref d) H'
theorem eb_sp {t : Addr} {ws : List V} {bk : Bk} {H : Hp} {Q : VK} {E : XK} (ht : H t = some (.tup ws)) (bv : BookV H ws bk) (ok : BkOk bk) (q : ∀ d kvs H', H d = none -> Same H H' -> H' d = some (.dT kvs) -> DueV H' kvs bk -> Q (.ref d) H') : spEb [.ref t] H Q E := by
 unfold spEb; exact ⟨t, ws, bk, rfl, ht, bv, ok, q⟩
theorem scEb : FnScope ["book"] ["book"] (defScope sByPlace) := ⟨rfl, rfl, rfl, by decide +kernel, rfl, by decide +kernel, by decide +kernel⟩
abbrev eEb : Expr := retV (bodyAt (defBody sByPlace) 0)
theorem csEb : CompScope ["book"] (defScope sByPlace) ["kind", "name", "entry"] [none, none, none] (compScD eEb) := ⟨rfl, by decide +kernel, by decide +kernel, rfl, fv_of (by decide +kernel), by decide +kernel⟩
theorem ok_eb (F : Fun K "entries_by_place" "entries_by_place" sByPlace f fd) : FnOk P w K mg base CX0 1 f fd ["book"] spEb := by
 refine F.ok scEb (fun vs H Q E h => ?_) (fun cdv A outer s H vs Q E hr h => ?_)
 ·unfold spEb at h; obtain ⟨t, ws, bk, rfl, _⟩ := h; rfl
 ·unfold spEb at h
  obtain ⟨t, ws, bk, rfl, ht, bv, ok, q⟩ := h
  have hu := hr.units
  have hu1 := Nat.lt_of_le_of_lt (Nat.add_le_add_left (show 1 <= 64 by decide) _) hu
  refine ⟨_, pss_one (ps_ret (pe_dcompT rfl csEb (pi_tup (pv 0)) (fun s H fp => ⟨pg_tup_K (n := 3) K rfl rfl (pgs_cons (pg_name (i := 0) csEb.nd rfl (Or.inl rfl)) (pgs_cons (pg_name (i := 1) csEb.nd rfl (Or.inl rfl)) (pgs_cons (pg_name (i := 2) csEb.nd rfl (Or.inl rfl)) pgs_nil))), pifs_nil, em_dT hu1 (pe_tup (pa_cons (pv 0) (pa_cons (pv 1) pa_nil))) (pv 2)⟩))), ?_⟩
  have hlen := bv.length
  have few := ok.few
  refine ⟨_, rfl, t, rfl, ⟨_, SqT.of ht⟩, fun c hc => ?_⟩
  refine compG_tup (xs := ws) (fun i τ H1 => ∃ (t0 t1 t2 : Option V) (kvs : List (List Key × V)), τ = [t0, t1, t2] /\ Same H H1 /\ H1 c = some (.dT kvs) /\ DueV H1 kvs (bk.take i)) ⟨none, none, none, [], rfl, same_new hc, upd_same, .nil⟩ (fun i τ H1 ⟨_, _, _, _, _, z, _⟩ => SqT.of (z _ _ ht)) ?_ ?_
  ·rintro i x τ H1 hx ⟨t0, t1, t2, kvs, rfl, S1, h1, D1⟩
   have hlt : i < ws.length := (List.getElem?_eq_some_iff.mp hx).1
   obtain ⟨p, hp, a, u, rfl, ha, ru⟩ := L2.Paired.get (BookV.same S1 bv) hx
   have pm := List.mem_of_getElem? hp
   have tk : bk.take (i + 1) = bk.take i ++ [p] := by rw [List.take_succ, hp]; rfl
   refine ⟨a, _, rfl, SqT.of ha, rfl, _, _, rfl, _, _, rfl, _, _, rfl, rfl, ?_⟩
   refine ⟨_, rfl, _, rfl, by show 2 <= sizeLine; rw [sizeLine_eq]; decide, fun kt hkt => ?_⟩
   have Sk := same_new (o := .tup [V.str p.1, V.str p.2.1]) hkt
   have hk3 : upd H1 kt (.tup [V.str p.1, V.str p.2.1]) kt = some (.tup ((dKey p).map kV)) := upd_same
   have ha3 := Sk _ _ ha
   have ru3 := ru.same Sk
   have D3 := DueV.same Sk D1
   have h13 := Sk _ _ h1
   generalize upd H1 kt (.tup [V.str p.1, V.str p.2.1]) = H3 at Sk hk3 ha3 ru3 D3 h13 ⊢
   have kl := D3.length
   have hno : valV kvs (dKey p) = none := by
    rcases D3.val (k := p.1) (n := p.2.1) with ⟨z, _⟩ | ⟨v, d', _, z2, _⟩
    ·exact z
    ·exfalso
     have nd : ((bk.take (i + 1)).map bkKey).Nodup := ok.nd.sublist (List.Sublist.map _ (List.take_sublist _ _))
     rw [tk, List.map_append] at nd
     exact (List.nodup_append.mp nd).2.2 _ (List.mem_map.mpr ⟨_, z2, rfl⟩) (bkKey p) (by simp) rfl
   refine ⟨_, rfl, kvs, dKey p, kt, rfl, hk3, h13, ?_, cwg_next hlt ⟨_, _, _, _, rfl, fun b v e => ?_, upd_same, ?_⟩⟩
   ·rw [List.length_take] at kl
    rw [sizeLine_eq]; omega
   ·rw [upd_ne (ne_of_none e hc)]; exact Sk _ _ (S1 _ _ e)
   ·rw [tk, putK_new _ hno]
    have up : ∀ b xs, H3 b = some (.tup xs) -> upd H3 c (.dT (kvs ++ [(dKey p, u)])) b = some (.tup xs) := fun b xs e => by rw [upd_ne (ne_of e h13 (by intro z; cases z))]; exact e
    exact DueV.snoc (k := p.1) (n := p.2.1) ((ok.ent p pm).keep ru3 up) (D3.keep up fun q hq => ok.ent q (List.mem_of_mem_take hq))
  ·rintro τ H1 ⟨t0, t1, t2, kvs, rfl, S1, h1, D1⟩
   rw [hlen, List.take_length] at D1
   exact q c kvs H1 hc S1 h1 D1
theorem inV_empty {b : Str} {line : List Str} : inV (.str b) ((("" : Str) :: line).map V.str) = decide (b = "" \/ b ∈ line) := by
 rw [inV_strs]
 by_cases e : b = "" \/ b ∈ line
 ·rw [decide_eq_true e]
  exact decide_eq_true (by rcases e with z | z; rw [z]; exact List.mem_cons_self; exact List.mem_cons_of_mem _ z)
 ·rw [decide_eq_false e]
  exact decide_eq_false (fun z => e (by rcases List.mem_cons.mp z with y | y; exact .inl y; exact .inr y))
@[irreducible] def spIb : Sp := fun vs H Q _ => ∃ (t : Addr) (line : List Str) (b : Str), vs = [.ref t, .str b] /\ H t = some (.tup (line.map V.str)) /\ line.length <= 200 /\ (b = "" \/ b ∈ line) /\ ∀ H', Same H H' -> Q (.bl true) H'
theorem ib_sp {t : Addr} {line : List Str} {b : Str} {H : Hp} {Q : VK} {E : XK} (ht : H t = some (.tup (line.map V.str))) (hl : line.length <= 200) (hb : b = "" \/ b ∈ line) (q : ∀ H', Same H H' -> Q (.bl true) H') : spIb [.ref t, .str b] H Q E := by
 unfold spIb; exact ⟨t, line, b, rfl, ht, hl, hb, q⟩
theorem scIb : FnScope ["line", "thing"] ["line", "thing"] (defScope sIsBehind) := ⟨rfl, rfl, rfl, by decide +kernel, rfl, by decide +kernel, by decide +kernel⟩
theorem ok_ib (F : Fun K "is_behind" "is_behind" sIsBehind f fd) (B2 : Blt2 mg) : FnOk P w K mg base CX0 1 f fd ["line", "thing"] spIb := by
 refine F.ok scIb (fun vs H Q E h => ?_) (fun cdv A outer s H vs Q E hr h => ?_)
 ·unfold spIb at h; obtain ⟨t, line, b, rfl, _⟩ := h; rfl
 ·unfold spIb at h
  obtain ⟨t, line, b, rfl, ht, hl, hb, q⟩ := h
  refine ⟨_, pss_one (ps_ret (pe_and (pe_callB call_isi rfl B2.isi boot_isi (pa_cons (pv 1) (pa_cons (pe_bltn (v := .ty "str") rfl B2.str boot_str rfl) pa_nil))) (pe_one (pe_cmpR op_in_seq (pv 1) (pe_op op_catA (pe_tup (pa_cons pe_str pa_nil)) (pv 0)) rfl)))), ?_⟩
  refine ⟨_, rfl, ⟨_, .inr ⟨"str", rfl⟩⟩, .str b, .ty "str", .type "str", .type "str", true, rfl, rfl, .inl (.str b), rfl, true, rfl, ?_⟩
  refine ⟨_, rfl, by show 1 <= sizeLine; rw [sizeLine_eq]; decide, fun c hc => ?_⟩
  have Sc := same_new (o := .tup [V.str ""]) hc
  refine ⟨_, rfl, c, t, _, _, rfl, rfl, upd_same, Sc _ _ ht, by rw [List.length_map, sizeLine_eq]; show 1 + _ <= _; omega, fun p H' S' h' => ?_⟩
  have h'' : H' p = some (.tup ((("" : Str) :: line).map V.str)) := h'
  refine ⟨p, _, rfl, .inr (SqT.of h''), rfl, flat_strs _, ?_⟩
  rw [if_neg Bool.false_ne_true, inV_empty, decide_eq_true hb]
  exact q H' (Sc.trans S')
@[irreducible] def spCb : Sp := fun vs H Q _ => ∃ (t : Addr) (line : List Str) (b : Str), vs = [.ref t, .str b] /\ H t = some (.tup (line.map V.str)) /\ line.length <= 200 /\ (b = "" \/ b ∈ line) /\ ∀ H', Same H H' -> Q .non H'
theorem cb_sp {t : Addr} {line : List Str} {b : Str} {H : Hp} {Q : VK} {E : XK} (ht : H t = some (.tup (line.map V.str))) (hl : line.length <= 200) (hb : b = "" \/ b ∈ line) (q : ∀ H', Same H H' -> Q .non H') : spCb [.ref t, .str b] H Q E := by
 unfold spCb; exact ⟨t, line, b, rfl, ht, hl, hb, q⟩
theorem scCb : FnScope ["line", "thing"] ["line", "thing"] (defScope sCheckB) := ⟨rfl, rfl, rfl, by decide +kernel, rfl, by decide +kernel, by decide +kernel⟩
theorem ok_cb {fI : Addr} {dI : FuncData} (F : Fun K "check_behind" "check_behind" sCheckB f fd) (GI : FnOk P w K mg base CX0 1 fI dI ["line", "thing"] spIb) (kI : keepIn K (.ref fI) = true) (bI : Binds K dI ["line", "thing"] []) (mI : mg "is_behind" = some (.ref fI)) : FnOk P w K mg base CX0 2 f fd ["line", "thing"] spCb := by
 refine F.ok scCb (fun vs H Q E h => ?_) (fun cdv A outer s H vs Q E hr h => ?_)
 ·unfold spCb at h; obtain ⟨t, line, b, rfl, _⟩ := h; rfl
 ·unfold spCb at h
  obtain ⟨t, line, b, rfl, ht, hl, hb, q⟩ := h
  refine ⟨_, pss_one (ps_if (pt_not (pt_val (pe_call GI hr rfl mI kI bI .nil pass0 (pa_cons (pv 0) (pa_cons (pv 1) pa_nil))))) pss_never pss_nil), ?_⟩
  exact ⟨_, rfl, _, rfl, ib_sp ht hl hb fun H1 S1 => ⟨true, rfl, q H1 S1⟩⟩
@[irreducible] def spFin (C : Addr) : Sp := fun vs H Q _ => ∃ (x dl de dx : Addr), vs = [.ref x, .ref dl, .ref de] /\ H x = some (.ins C dx []) /\ ∀ dh, H dh = none -> Q .non (upd (upd H dh (.dT [])) x (.ins C dx (fF dl de dh 0)))
theorem fin_sp {C x dl de dx : Addr} {H : Hp} {Q : VK} {E : XK} (hx : H x = some (.ins C dx [])) (q : ∀ dh, H dh = none -> Q .non (upd (upd H dh (.dT [])) x (.ins C dx (fF dl de dh 0)))) : spFin C [.ref x, .ref dl, .ref de] H Q E := by
 unfold spFin; exact ⟨x, dl, de, dx, rfl, hx, q⟩
theorem scFin : FnScope ["self", "lines", "entries"] ["self", "lines", "entries"] (defScope sInit) := ⟨rfl, rfl, rfl, by decide +kernel, rfl, by decide +kernel, by decide +kernel⟩
theorem ok_fin {C : Addr} (F : Fun K "__init__" "Finds.__init__" sInit f fd) (T : TxtF K mg C) : FnOk P w K mg base CX0 1 f fd ["self", "lines", "entries"] (spFin C) := by
 refine F.ok scFin (fun vs H Q E h => ?_) (fun cdv A outer s H vs Q E hr h => ?_)
 ·unfold spFin at h; obtain ⟨x, dl, de, dx, rfl, _⟩ := h; rfl
 ·unfold spFin at h
  obtain ⟨x, dl, de, dx, rfl, hx, q⟩ := h
  refine ⟨_, pss_cons (ps_fld (pv 0) (pv 1) rfl) (pss_cons (ps_fld (pv 0) (pv 2) rfl) (pss_cons (ps_fld (pv 0) pe_dnewT rfl) (pss_one (ps_fld (pv 0) pe_int rfl)))), ?_⟩
  refine ⟨_, rfl, _, rfl, x, C, dx, [], rfl, hx, T.cl, T.nl, (by show 0 < 1000; decide), ?_⟩
  refine ⟨_, rfl, _, rfl, x, C, dx, _, rfl, upd_same, T.cl, T.ne, (by show 1 < 1000; decide), ?_⟩
  rw [upd_upd]
  intro dh hdh
  have nx : x ≠ dh := ne_of_none upd_same hdh
  refine ⟨_, rfl, x, C, dx, _, rfl, by rw [upd_ne nx]; exact upd_same, T.cl, T.nh, (by show 2 < 1000; decide), ?_⟩
  refine ⟨_, rfl, x, C, dx, _, rfl, upd_same, T.cl, T.nm, (by show 3 < 1000; decide), ?_⟩
  rw [upd_upd, fF_init]
  have hdH : H dh = none := by
   cases e : H dh with
   | none => rfl
   | some u => rw [upd_ne (Ne.symm nx), e] at hdh; cases hdh
  have e : ∀ o o' : HO, upd (upd (upd H x o) dh (.dT [])) x o' = upd (upd H dh (.dT [])) x o' := fun o o' => by
   funext b
   by_cases h1 : b = x
   ·subst h1; rw [upd_same, upd_same]
   ·rw [upd_ne h1, upd_ne h1]
    by_cases h2 : b = dh
    ·subst h2; rw [upd_same, upd_same]
    ·rw [upd_ne h2, upd_ne h2, upd_ne h1]
  rw [e]
  exact q dh hdH
end
end K35
namespace K35
open PySem L2 PySem.W HT
theorem tIf_nat {c : Bool} {i0 : Int} {tb : TE} {σ : St} {H : Hp} {Q : VK} (Cond : Nat -> Prop) (h1 : c = true -> ∃ s : Nat, i0 = s /\ Cond s) (h2 : c = false -> (∀ s : Nat, Cond s -> Q (.int s) H) -> tb σ H Q) (h3 : ∀ s : Nat, Cond s -> Q (.int s) H) : if c = true then tC (.int i0) σ H Q else tb σ H Q := by
 cases c with
 | false => exact h2 rfl h3
 | true =>
  obtain ⟨s, e, hc⟩ := h1 rfl
  show Q (.int i0) H
  rw [e]; exact h3 s hc
theorem idxOf_at {b : Str} {line : List Str} (h : b ∈ line) : line[line.idxOf b]? = some b /\ ∀ m, m < line.idxOf b -> line[m]? ≠ some b := by
 have hl := List.idxOf_lt_length_iff.mpr h
 refine ⟨by rw [List.getElem?_eq_getElem hl, List.getElem_idxOf], fun m hm z => ?_⟩
 obtain ⟨hm', e⟩ := List.getElem?_eq_some_iff.mp z
 have := List.not_of_lt_findIdx (p := fun x => x == b) (xs := line) (i := m) hm
 simp [e] at this
theorem fnd_ent {bk : Bk} {n : Str} {l : List Str} (ok : BkOk bk) : ∀ x d, fnd bk n l = some (x, d) -> Nm x /\ Ent d := fun x d h => by
 have hm := lookBk_some (fnd_mem h).2
 exact ⟨(ok.nm _ hm).1, ok.ent _ hm⟩
section
variable {P : Program} {w : World} {K : Frag} {mg : Str -> Option Value} {base : Heap} {f : Addr} {fd : FuncData}
@[irreducible] def spWalk (C : Addr) : Sp := fun vs H Q _ => ∃ (x dx dl de dh a : Addr) (kl : List (Key × V)) (ke kh : List (List Key × V)) (m : Int) (bk : Bk) (kind name beh : Str) (line : List Str), vs = [.ref x, .str kind, .str name, .str beh] /\ FI C x dx dl de dh kl ke kh m bk H /\ valV kl (Sum.inr kind) = some (.ref a) /\ H a = some (.tup (line.map V.str)) /\ line.length <= 200 /\ (beh = "" \/ beh ∈ line) /\
 ∀ v m' H', (∀ b u, b ≠ x -> H b = some u -> H' b = some u) -> H' x = some (.ins C dx (fF dl de dh m')) -> OutV H' v (fnd bk name (behR line beh)) -> Q v H'
theorem walk_sp {C x dx dl de dh a : Addr} {kl : List (Key × V)} {ke kh : List (List Key × V)} {m : Int} {bk : Bk} {kind name beh : Str} {line : List Str} {H : Hp} {Q : VK} {E : XK} (fi : FI C x dx dl de dh kl ke kh m bk H) (ea : valV kl (Sum.inr kind) = some (.ref a)) (ha : H a = some (.tup (line.map V.str))) (hl : line.length <= 200) (hb : beh = "" \/ beh ∈ line)
  (q : ∀ v m' H', (∀ b u, b ≠ x -> H b = some u -> H' b = some u) -> H' x = some (.ins C dx (fF dl de dh m')) -> OutV H' v (fnd bk name (behR line beh)) -> Q v H') : spWalk C [.ref x, .str kind, .str name, .str beh] H Q E := by
 unfold spWalk; exact ⟨x, dx, dl, de, dh, a, kl, ke, kh, m, bk, kind, name, beh, line, rfl, fi, ea, ha, hl, hb, q⟩
abbrev nWk : List Str := ["self", "kind", "name", "behind", "line", "start", "other"]
theorem scWk : FnScope nWk ["self", "kind", "name", "behind"] (defScope sWalk) := ⟨rfl, rfl, rfl, by decide +kernel, rfl, by decide +kernel, by decide +kernel⟩
theorem ok_walk {C : Addr} (F : Fun K "walk" "Finds.walk" sWalk f fd) (T : TxtF K mg C) : FnOk P w K mg base CX0 1 f fd ["self", "kind", "name", "behind"] (spWalk C) := by
 refine F.ok scWk (fun vs H Q E h => ?_) (fun cdv A outer s H vs Q E hr h => ?_)
 ·unfold spWalk at h; obtain ⟨x, dx, dl, de, dh, a, kl, ke, kh, m, bk, kind, name, beh, line, rfl, _⟩ := h; rfl
 ·unfold spWalk at h
  obtain ⟨x, dx, dl, de, dh, a, kl, ke, kh, m, bk, kind, name, beh, line, rfl, fi, ea, ha, hl, hb, q⟩ := h
  have hu := hr.units
  have hu1 := Nat.lt_of_le_of_lt (Nat.add_le_add_left (show 1 <= 64 by decide) _) hu
  refine ⟨_, pss_cons (ps_set (i := 4) scWk.nd rfl (Or.inl rfl) (pe_dget hu1 (pe_fld (pv 0) rfl) (pv 1) (fun _ _ => rfl)))
   (pss_cons (ps_set (i := 5) scWk.nd rfl (Or.inl rfl) (pe_ifExp (pt_cmpR op_eq (pv 3) pe_str (nomark _)) pe_int (pe_op op_add (pe_bm PySem.F.plainAttrs_tuple PySem.F.slot_tuple_index PySem.F.type_tuple_index mt_indexT (pv 4) (pa_cons (pv 3) pa_nil)) pe_int)))
   (pss_cons (ps_for PassesOwn.never rfl (pi_tup (pe_slice sl_tupA (pv 4) (po_some (pv 5)) po_none)) (pg_name (i := 6) scWk.nd rfl (Or.inl rfl))
    (pss_cons (ps_fldaug (pv 0) pe_int in_add)
    (pss_one (ps_if (pt_cmp (pc_din hu1 (pe_tup (pa_cons (pv 6) (pa_cons (pv 2) pa_nil))) (pe_fld (pv 0) rfl))) (pss_one (ps_ret (pe_tup (pa_cons (pv 6) (pa_cons (pe_dget hu1 (pe_fld (pv 0) rfl) (pe_tup (pa_cons (pv 6) (pa_cons (pv 2) pa_nil))) (fun _ _ => rfl)) pa_nil))))) pss_nil))))
   (pss_one (ps_ret pe_non)))), ?_⟩
  refine ⟨_, rfl, x, C, dx, _, .ref dl, rfl, fi.hx, T.cl, T.nl, fF_lines, _, rfl, dl, .ref a, rfl, .inl ⟨kl, Sum.inr kind, .inl fi.hl, rfl, ea.symm⟩, ?_⟩
  refine ⟨_, rfl, rfl, _, rfl, ?_⟩
  refine tIf_nat (fun s0 => behR line beh = line.drop s0) (fun e => ⟨0, rfl, ?_⟩) (fun e k => ?_) ?_
  ·have e := of_decide_eq_true e
   injection e with e
   unfold behR; rw [if_pos e]; rfl
  ·have hne : beh ≠ "" := fun z => by rw [z] at e; exact absurd e (by rw [decide_eq_true rfl]; intro y; cases y)
   have hm : beh ∈ line := hb.resolve_left hne
   obtain ⟨i1, i2⟩ := idxOf_at hm
   exact ⟨_, rfl, .inr (.inr (.inr (.inr ⟨rfl, _, Rd.of ha⟩))), _, rfl, a, line, beh, line.idxOf beh, rfl, rfl, SqT.of ha, i1, i2, _, _, rfl, rfl, k (line.idxOf beh + 1) (by unfold behR; rw [if_neg hne])⟩
  intro s0 hs0
  refine ⟨_, rfl, _, rfl, _, rfl, a, _, rfl, ha, fun sp H0 S0 hsp => ?_⟩
  rw [cut_from, <- List.map_drop, <- hs0] at hsp
  obtain ⟨rest, hrest⟩ : ∃ rest, behR line beh = rest := ⟨_, rfl⟩
  rw [hrest] at hsp q
  have hx0 := S0 _ _ fi.hx
  refine ⟨sp, rfl, ⟨_, SqT.of hsp⟩, for_tup (xs := rest.map V.str) (fun i σ H1 => ∃ (m' : Int) (v6 : Option V), σ = [some (.ref x), some (.str kind), some (.str name), some (.str beh), some (.ref a), some (.int s0), v6] /\ (∀ b u, b ≠ x -> H0 b = some u -> H1 b = some u) /\ H1 x = some (.ins C dx (fF dl de dh m')) /\ ∀ y ∈ rest.take i, lookBk bk y name = none)
   ⟨m, none, rfl, fun b u _ e => e, hx0, fun y hy => (by cases hy)⟩ (fun i σ H1 _ ⟨_, _, _, z, _⟩ => SqT.of (z _ _ (ne_of hsp hx0 (by intro y; cases y)) hsp)) ?_ ?_⟩
  ·rintro i y σ H1 hy ⟨m', v6, rfl, kp, hx1, no⟩
   have hil : i < rest.length := by simpa using (List.getElem?_eq_some_iff.mp hy).1
   obtain rfl : V.str rest[i] = y := by simpa [hil] using hy
   have tki : rest.take (i + 1) = rest.take i ++ [rest[i]] := by rw [List.take_succ, List.getElem?_eq_getElem hil]; rfl
   refine ⟨_, rfl, x, C, dx, _, .int m', rfl, hx1, T.cl, T.nm, fF_met, _, _, rfl, rfl, dx, _, hx1, by show 4 < 1000; decide, ?_⟩
   rw [fF_put]
   have kp2 : ∀ b u, b ≠ x -> H0 b = some u -> upd H1 x (.ins C dx (fF dl de dh (m' + 1))) b = some u := fun b u n e => by rw [upd_ne n]; exact kp b u n e
   have hx2 : upd H1 x (.ins C dx (fF dl de dh (m' + 1))) x = some (.ins C dx (fF dl de dh (m' + 1))) := upd_same
   generalize upd H1 x (.ins C dx (fF dl de dh (m' + 1))) = H2 at kp2 hx2 ⊢
   refine ⟨_, rfl, _, rfl, by show 2 <= sizeLine; rw [sizeLine_eq]; decide, fun kt hkt => ?_⟩
   have Sk := same_new (o := .tup [V.str rest[i], V.str name]) hkt
   have hk3 : upd H2 kt (.tup [V.str rest[i], V.str name]) kt = some (.tup (([Sum.inr rest[i], Sum.inr name] : List Key).map kV)) := upd_same
   have hx3 := Sk _ _ hx2
   have kp3 : ∀ b u, b ≠ x -> H0 b = some u -> upd H2 kt (.tup [V.str rest[i], V.str name]) b = some u := fun b u n e => Sk _ _ (kp2 b u n e)
   generalize upd H2 kt (.tup [V.str rest[i], V.str name]) = H3 at Sk hk3 hx3 kp3 ⊢
   have ned : de ≠ x := ne_of fi.he fi.hx (by intro z; cases z)
   have he3 : H3 de = some (.dT ke) := kp3 _ _ ned (S0 _ _ fi.he)
   have D3 : DueV H3 ke bk := fi.du.keep (fun b xs e => kp3 _ _ (ne_of e fi.hx (by intro z; cases z)) (S0 _ _ e)) fi.ok.ent
   refine ⟨_, rfl, x, C, dx, _, .ref de, rfl, hx3, T.cl, T.ne, fF_entries, de, _, rfl, DGet.t (k := [Sum.inr rest[i], Sum.inr name]) he3 hk3, _, rfl, ?_⟩
   rcases D3.look (k := rest[i]) (n := name) fi.ok.nd with ⟨l1, l2⟩ | ⟨v, d, l1, l2, l3⟩
   ·rw [l2]
    refine ⟨m' + 1, _, rfl, kp3, hx3, fun y hy => ?_⟩
    rw [tki] at hy
    rcases List.mem_append.mp hy with z | z
    ·exact no y z
    ·rw [List.mem_singleton.mp z]; exact l1
   ·rw [l2]
    refine ⟨_, rfl, _, rfl, x, C, dx, _, .ref de, rfl, hx3, T.cl, T.ne, fF_entries, _, rfl, _, rfl, by show 2 <= sizeLine; rw [sizeLine_eq]; decide, fun k2 hk2 => ?_⟩
    have S4 := same_new (o := .tup [V.str rest[i], V.str name]) hk2
    have hk4 : upd H3 k2 (.tup [V.str rest[i], V.str name]) k2 = some (.tup (([Sum.inr rest[i], Sum.inr name] : List Key).map kV)) := upd_same
    have he4 := S4 _ _ he3
    have hx4 := S4 _ _ hx3
    have r4 := l3.same S4
    have kp4 : ∀ b u, b ≠ x -> H0 b = some u -> upd H3 k2 (.tup [V.str rest[i], V.str name]) b = some u := fun b u n e => S4 _ _ (kp3 b u n e)
    generalize upd H3 k2 (.tup [V.str rest[i], V.str name]) = H4 at S4 hk4 he4 hx4 r4 kp4 ⊢
    refine ⟨de, v, rfl, by rw [<- l2]; exact DGet.t (k := [Sum.inr rest[i], Sum.inr name]) he4 hk4, by show 2 <= sizeLine; rw [sizeLine_eq]; decide, fun t ht => ?_⟩
    have S5 := same_new (o := .tup [V.str rest[i], v]) ht
    have ef : fnd bk name rest = some (rest[i], d) := by
     conv => lhs; rw [<- List.take_append_drop i rest, List.drop_eq_getElem_cons hil]
     rw [fnd_append (x := rest[i]) _ no]
     exact fnd_yes l1
    refine q (.ref t) (m' + 1) _ (fun b u n e => S5 _ _ (kp4 b u n (S0 _ _ e))) (S5 _ _ hx4) ?_
    rw [ef]
    exact ⟨t, v, rfl, upd_same, r4.same S5⟩
  ·rintro σ H1 ⟨m', v6, rfl, kp, hx1, no⟩
   rw [List.length_map, List.take_length] at no
   refine q .non m' H1 (fun b u n e => kp b u n (S0 _ _ e)) hx1 ?_
   have ef : fnd bk name rest = none := by
    have := fnd_append (x := name) rest no []
    rw [List.append_nil] at this; exact this
   rw [ef]; rfl
def HitsOk (H : Hp) (kh : List (List Key × V)) (bk : Bk) (L : Str -> List Str) : Prop := ∀ k n b v, valV kh [Sum.inr k, Sum.inr n, Sum.inr b] = some v -> OutV H v (fnd bk n (behR (L k) b))
theorem HitsOk.keep {H H' : Hp} {kh : List (List Key × V)} {bk : Bk} {L : Str -> List Str} (h : HitsOk H kh bk L) (ok : BkOk bk) (k : ∀ b xs, H b = some (.tup xs) -> H' b = some (.tup xs)) : HitsOk H' kh bk L := fun a n b v e => (h a n b v e).keep k fun x d z => (fnd_ent ok x d z).2
@[irreducible] def spLook (C : Addr) : Sp := fun vs H Q _ => ∃ (x dx dl de dh : Addr) (kl : List (Key × V)) (ke kh : List (List Key × V)) (m : Int) (bk : Bk) (kind name beh : Str) (L : Str -> List Str), vs = [.ref x, .str kind, .str name, .str beh] /\ FI C x dx dl de dh kl ke kh m bk H /\ LnT H kl L kind /\ (L kind).length <= 200 /\ (beh = "" \/ beh ∈ L kind) /\ HitsOk H kh bk L /\ kh.length <= 2000 /\
 ∀ v kh' m' H', (∀ b u, b ≠ x -> b ≠ dh -> H b = some u -> H' b = some u) -> FI C x dx dl de dh kl ke kh' m' bk H' -> HitsOk H' kh' bk L -> kh'.length <= kh.length + 1 -> OutV H' v (fnd bk name (behR (L kind) beh)) -> Q v H'
theorem look_sp {C x dx dl de dh : Addr} {kl : List (Key × V)} {ke kh : List (List Key × V)} {m : Int} {bk : Bk} {kind name beh : Str} {L : Str -> List Str} {H : Hp} {Q : VK} {E : XK} (fi : FI C x dx dl de dh kl ke kh m bk H) (ea : LnT H kl L kind) (hl : (L kind).length <= 200) (hb : beh = "" \/ beh ∈ L kind) (ho : HitsOk H kh bk L) (h1 : kh.length <= 2000)
  (q : ∀ v kh' m' H', (∀ b u, b ≠ x -> b ≠ dh -> H b = some u -> H' b = some u) -> FI C x dx dl de dh kl ke kh' m' bk H' -> HitsOk H' kh' bk L -> kh'.length <= kh.length + 1 -> OutV H' v (fnd bk name (behR (L kind) beh)) -> Q v H') : spLook C [.ref x, .str kind, .str name, .str beh] H Q E := by
 unfold spLook; exact ⟨x, dx, dl, de, dh, kl, ke, kh, m, bk, kind, name, beh, L, rfl, fi, ea, hl, hb, ho, h1, q⟩
abbrev nLk : List Str := ["self", "kind", "name", "behind", "place"]
theorem scLk : FnScope nLk ["self", "kind", "name", "behind"] (defScope sLook) := ⟨rfl, rfl, rfl, by decide +kernel, rfl, by decide +kernel, by decide +kernel⟩
theorem ok_look {C fW : Addr} {dW : FuncData} (F : Fun K "look" "Finds.look" sLook f fd) (T : TxtF K mg C) (GW : FnOk P w K mg base CX0 1 fW dW ["self", "kind", "name", "behind"] (spWalk C)) (MW : Meth K C "walk" fW) (bW : Binds K dW ["self", "kind", "name", "behind"] []) : FnOk P w K mg base CX0 2 f fd ["self", "kind", "name", "behind"] (spLook C) := by
 refine F.ok scLk (fun vs H Q E h => ?_) (fun cdv A outer s H vs Q E hr h => ?_)
 ·unfold spLook at h; obtain ⟨x, dx, dl, de, dh, kl, ke, kh, m, bk, kind, name, beh, L, rfl, _⟩ := h; rfl
 ·unfold spLook at h
  obtain ⟨x, dx, dl, de, dh, kl, ke, kh, m, bk, kind, name, beh, L, rfl, fi, ⟨a, ea, ha⟩, hl, hb, ho, hk1, q⟩ := h
  have hu := hr.units
  have hu1 := Nat.lt_of_le_of_lt (Nat.add_le_add_left (show 1 <= 64 by decide) _) hu
  refine ⟨_, pss_cons (ps_set (i := 4) scLk.nd rfl (Or.inl rfl) (pe_tup (pa_cons (pv 1) (pa_cons (pv 2) (pa_cons (pv 3) pa_nil)))))
   (pss_cons (ps_if (pt_cmp (pc_dnotin hu1 (pv 4) (pe_fld (pv 0) rfl))) (pss_one (ps_dput hu1 (pe_fld (pv 0) rfl) (pv 4) (pe_meth (pv 0) T.cl MW GW hr bW .nil pass0 (pa_cons (pv 1) (pa_cons (pv 2) (pa_cons (pv 3) pa_nil)))) rfl)) pss_nil)
   (pss_one (ps_ret (pe_dget hu1 (pe_fld (pv 0) rfl) (pv 4) (fun _ _ => rfl))))), ?_⟩
  refine ⟨_, rfl, _, rfl, _, rfl, by show 3 <= sizeLine; rw [sizeLine_eq]; decide, fun pt hpt => ?_⟩
  have S1 := same_new (o := .tup [V.str kind, V.str name, V.str beh]) hpt
  have hp1 : upd H pt (.tup [V.str kind, V.str name, V.str beh]) pt = some (.tup (([Sum.inr kind, Sum.inr name, Sum.inr beh] : List Key).map kV)) := upd_same
  generalize upd H pt (.tup [V.str kind, V.str name, V.str beh]) = H1 at S1 hp1 ⊢
  have fi1 : FI C x dx dl de dh kl ke kh m bk H1 := ⟨S1 _ _ fi.hx, S1 _ _ fi.hl, S1 _ _ fi.he, S1 _ _ fi.hh, fi.du.same S1, fi.ok, fi.nn⟩
  have ho1 : HitsOk H1 kh bk L := ho.keep fi.ok fun b xs e => S1 _ _ e
  have nxh : x ≠ dh := ne_of fi.hx fi.hh (by intro z; cases z)
  have nlh : dl ≠ dh := ne_of fi.hl fi.hh (by intro z; cases z)
  refine ⟨_, rfl, _, rfl, x, C, dx, _, .ref dh, rfl, fi1.hx, T.cl, T.nh, fF_hits, dh, _, rfl, DGet.t (k := [Sum.inr kind, Sum.inr name, Sum.inr beh]) fi1.hh hp1, _, rfl, ?_⟩
  cases ev : valV kh [Sum.inr kind, Sum.inr name, Sum.inr beh] with
  | some v =>
   refine ⟨_, rfl, x, C, dx, _, .ref dh, rfl, fi1.hx, T.cl, T.nh, fF_hits, _, rfl, dh, v, rfl, by rw [<- ev]; exact DGet.t (k := [Sum.inr kind, Sum.inr name, Sum.inr beh]) fi1.hh hp1, ?_⟩
   exact q v kh m H1 (fun b u _ _ e => S1 _ _ e) fi1 ho1 (Nat.le_succ _) (ho1 kind name beh v ev)
  | none =>
   refine ⟨_, rfl, x, dx, _, rfl, fi1.hx, fF_no (by decide +kernel) (by decide +kernel) (by decide +kernel) (by decide +kernel), _, rfl, _, rfl, _, rfl, walk_sp fi1 ea (S1 _ _ ha) hl hb fun v m' H2 kp2 hx2 ov2 => ?_⟩
   have up2 : ∀ b xs, H1 b = some (.tup xs) -> H2 b = some (.tup xs) := fun b xs e => kp2 _ _ (ne_of e fi1.hx (by intro z; cases z)) e
   have hh2 := kp2 _ _ (Ne.symm nxh) fi1.hh
   have hp2 := up2 _ _ hp1
   have D2 : DueV H2 ke bk := fi1.du.keep up2 fi.ok.ent
   refine ⟨_, rfl, x, C, dx, _, .ref dh, rfl, hx2, T.cl, T.nh, fF_hits, _, rfl, dh, _, rfl, DPut.t (k := [Sum.inr kind, Sum.inr name, Sum.inr beh]) hh2 hp2 (by rw [sizeLine_eq]; omega), ?_⟩
   have hh3 : upd H2 dh (.dT (putK kh [Sum.inr kind, Sum.inr name, Sum.inr beh] v)) dh = some (.dT (putK kh [Sum.inr kind, Sum.inr name, Sum.inr beh] v)) := upd_same
   have kp3 : ∀ b u, b ≠ dh -> H2 b = some u -> upd H2 dh (.dT (putK kh [Sum.inr kind, Sum.inr name, Sum.inr beh] v)) b = some u := fun b u n e => by rw [upd_ne n]; exact e
   generalize upd H2 dh (.dT (putK kh [Sum.inr kind, Sum.inr name, Sum.inr beh] v)) = H3 at hh3 kp3 ⊢
   have up3 : ∀ b xs, H2 b = some (.tup xs) -> H3 b = some (.tup xs) := fun b xs e => kp3 _ _ (ne_of e hh2 (by intro z; cases z)) e
   have hx3 := kp3 _ _ nxh hx2
   have fi3 : FI C x dx dl de dh kl ke (putK kh [Sum.inr kind, Sum.inr name, Sum.inr beh] v) m' bk H3 := ⟨hx3, kp3 _ _ nlh (kp2 _ _ (ne_of fi1.hl fi1.hx (by intro z; cases z)) fi1.hl), kp3 _ _ fi.nn (kp2 _ _ (ne_of fi1.he fi1.hx (by intro z; cases z)) fi1.he), hh3, D2.keep up3 fi.ok.ent, fi.ok, fi.nn⟩
   have ov3 : OutV H3 v (fnd bk name (behR (L kind) beh)) := ov2.keep up3 fun x d z => (fnd_ent fi.ok x d z).2
   have ho3 : HitsOk H3 (putK kh [Sum.inr kind, Sum.inr name, Sum.inr beh] v) bk L := fun k n b u e => by
    rw [valV_put] at e
    by_cases z : ([Sum.inr k, Sum.inr n, Sum.inr b] : List Key) = [Sum.inr kind, Sum.inr name, Sum.inr beh]
    ·rw [if_pos z] at e
     cases e
     injection z with z1 z
     injection z with z2 z
     injection z with z3 z
     injection z1 with z1
     injection z2 with z2
     injection z3 with z3
     rw [z1, z2, z3]; exact ov3
    ·rw [if_neg z] at e
     exact ((ho1 k n b u e).keep up2 fun x d z => (fnd_ent fi.ok x d z).2).keep up3 fun x d z => (fnd_ent fi.ok x d z).2
   refine ⟨_, rfl, x, C, dx, _, .ref dh, rfl, hx3, T.cl, T.nh, fF_hits, _, rfl, dh, v, rfl, ?_, ?_⟩
   ·have := DGet.t (k := [Sum.inr kind, Sum.inr name, Sum.inr beh]) hh3 (up3 _ _ hp2)
    rw [valV_put, if_pos rfl] at this; exact this
   ·exact q v _ m' H3 (fun b u n1 n2 e => kp3 _ _ n2 (kp2 _ _ n1 (S1 _ _ e))) fi3 ho3 (length_putK _ _ _) ov3
end
end K35
namespace K35
open PySem L2 PySem.W HT
structure FB (H : Hp) (t tb : Addr) (o : Obj) (ws wb : List V) (fam : List (Str × List Str)) (L : Str -> List Str) (bk : Bk) : Prop where
 ht : H t = some (.frz o (.tup ws))
 od : o.dict = none
 fv : FamV H ws fam
 fo : FamOk fam L
 hb : H tb = some (.tup wb)
 bv : BookV H wb bk
 ok : BkOk bk
theorem FB.same {H H' : Hp} {t tb : Addr} {o : Obj} {ws wb : List V} {fam : List (Str × List Str)} {L : Str -> List Str} {bk : Bk} (h : FB H t tb o ws wb fam L bk) (S : Same H H') : FB H' t tb o ws wb fam L bk :=
 ⟨S _ _ h.ht, h.od, h.fv.same S, h.fo, S _ _ h.hb, BookV.same S h.bv, h.ok⟩
theorem FB.few {H : Hp} {t tb : Addr} {o : Obj} {ws wb : List V} {fam : List (Str × List Str)} {L : Str -> List Str} {bk : Bk} (h : FB H t tb o ws wb fam L bk) {k : Str} (hk : k ∈ fam.map (·.1)) : (L k).length <= 200 := by
 obtain ⟨p, hp, rfl⟩ := List.mem_map.mp hk
 obtain ⟨_, q, _, e, hl⟩ := h.fo.line p hp
 rw [e, List.length_cons]; omega
section
variable {P : Program} {w : World} {K : Frag} {mg : Str -> Option Value} {base : Heap} {f : Addr} {fd : FuncData}
@[irreducible] def spFi (C : Addr) : Sp := fun vs H Q _ => ∃ (t tb : Addr) (o : Obj) (ws wb : List V) (fam : List (Str × List Str)) (L : Str -> List Str) (bk : Bk), vs = [.ref t, .ref tb] /\ FB H t tb o ws wb fam L bk /\
 ∀ x dx dl de dh kl ke H', Same H H' -> FI C x dx dl de dh kl ke [] 0 bk H' -> (∀ p ∈ fam, LnT H' kl L p.1) -> H x = none -> H dh = none -> Q (.ref x) H'
theorem fi_sp {C t tb : Addr} {o : Obj} {ws wb : List V} {fam : List (Str × List Str)} {L : Str -> List Str} {bk : Bk} {H : Hp} {Q : VK} {E : XK} (fb : FB H t tb o ws wb fam L bk)
  (q : ∀ x dx dl de dh kl ke H', Same H H' -> FI C x dx dl de dh kl ke [] 0 bk H' -> (∀ p ∈ fam, LnT H' kl L p.1) -> H x = none -> H dh = none -> Q (.ref x) H') : spFi C [.ref t, .ref tb] H Q E := by
 unfold spFi; exact ⟨t, tb, o, ws, wb, fam, L, bk, rfl, fb, q⟩
theorem scFi : FnScope ["family", "book"] ["family", "book"] (defScope sFindsIn) := ⟨rfl, rfl, rfl, by decide +kernel, rfl, by decide +kernel, by decide +kernel⟩
theorem ok_fi {C fL fE fI : Addr} {dL dE dI : FuncData} (F : Fun K "finds_in" "finds_in" sFindsIn f fd) (T : TxtF K mg C)
  (GL : FnOk P w K mg base CX0 5 fL dL ["family"] spLines) (kL : keepIn K (.ref fL) = true) (bL : Binds K dL ["family"] []) (mL : mg "lines_of" = some (.ref fL))
  (GE : FnOk P w K mg base CX0 1 fE dE ["book"] spEb) (kE : keepIn K (.ref fE) = true) (bE : Binds K dE ["book"] []) (mE : mg "entries_by_place" = some (.ref fE))
  (M : Mk K C fI) (GI : FnOk P w K mg base CX0 1 fI dI ["self", "lines", "entries"] (spFin C)) (bI : Binds K dI ["self", "lines", "entries"] []) : FnOk P w K mg base CX0 6 f fd ["family", "book"] (spFi C) := by
 refine F.ok scFi (fun vs H Q E h => ?_) (fun cdv A outer s H vs Q E hr h => ?_)
 ·unfold spFi at h; obtain ⟨t, tb, o, ws, wb, fam, L, bk, rfl, _⟩ := h; rfl
 ·unfold spFi at h
  obtain ⟨t, tb, o, ws, wb, fam, L, bk, rfl, fb, q⟩ := h
  have hr5 : Room 5 _ := hr
  have hr2 : Room 2 _ := hr5.mono (by decide)
  have hr1 : Room 1 _ := hr5.mono (by decide)
  refine ⟨_, pss_one (ps_ret (pe_make M GI hr2 rfl T.mgC bI .nil pass0 (pa_cons (pe_call GL hr5 rfl mL kL bL .nil pass0 (pa_cons (pv 0) pa_nil)) (pa_cons (pe_call GE hr1 rfl mE kE bE .nil pass0 (pa_cons (pv 1) pa_nil)) pa_nil)))), ?_⟩
  refine ⟨_, rfl, lines_sp fb.ht fb.fv fb.fo fun dl kl H1 hdl S1 h1 ln1 _ => ?_⟩
  have fb1 := fb.same S1
  refine ⟨_, rfl, eb_sp fb1.hb fb1.bv fb1.ok fun de ke H2 hde S2 h2 D2 => ?_⟩
  intro x dx hx hdx ne
  have Sa := same_new (o := .own x) hdx
  have hx' : upd H2 dx (.own x) x = none := by rw [upd_ne (Ne.symm ne)]; exact hx
  have Sb := Sa.trans (same_new (o := .ins C dx []) hx')
  have hx3 : upd (upd H2 dx (.own x)) x (.ins C dx []) x = some (.ins C dx []) := upd_same
  have xe : ∀ b u, b ≠ x -> upd (upd H2 dx (.own x)) x (.ins C dx []) b = some u -> True := fun _ _ _ _ => trivial
  generalize upd (upd H2 dx (.own x)) x (.ins C dx []) = H3 at Sb hx3 ⊢
  refine fin_sp hx3 fun dh hdh => ⟨rfl, ?_⟩
  have Sc := same_new (o := .dT []) hdh
  have nxh : x ≠ dh := ne_of_none hx3 hdh
  have hh4 : upd H3 dh (.dT []) dh = some (.dT []) := upd_same
  generalize upd H3 dh (.dT []) = H4 at Sc hh4 ⊢
  have S12 := S1.trans S2
  have S24 := Sb.trans Sc
  have ke5 : ∀ b u, H2 b = some u -> upd H4 x (.ins C dx (fF dl de dh 0)) b = some u := fun b u e => by rw [upd_ne (ne_of_none e hx)]; exact S24 _ _ e
  refine q x dx dl de dh kl ke _ (fun b u e => ke5 _ _ (S12 _ _ e)) ⟨upd_same, ke5 _ _ (S2 _ _ h1), ke5 _ _ h2, by rw [upd_ne (Ne.symm nxh)]; exact hh4, D2.same ke5, fb.ok, ?_⟩ (fun p hp => (ln1 p hp).same fun b u e => ke5 _ _ (S2 _ _ e)) (S12.free hx) ((S12.trans Sb).free hdh)
  exact ne_of_none (Sb _ _ h2) hdh
@[irreducible] def spFa : Sp := fun vs H Q _ => ∃ (t tb : Addr) (o : Obj) (ws wb : List V) (fam : List (Str × List Str)) (L : Str -> List Str) (bk : Bk) (kind name beh : Str), vs = [.ref t, .ref tb, .str kind, .str name, .str beh] /\ FB H t tb o ws wb fam L bk /\ kind ∈ fam.map (·.1) /\ Nm name /\ (beh = "" \/ beh ∈ L kind) /\
 ∀ v H', Same H H' -> OutV H' v (fnd bk name (behR (L kind) beh)) -> Q v H'
theorem fa_sp {t tb : Addr} {o : Obj} {ws wb : List V} {fam : List (Str × List Str)} {L : Str -> List Str} {bk : Bk} {kind name beh : Str} {H : Hp} {Q : VK} {E : XK} (fb : FB H t tb o ws wb fam L bk) (hk : kind ∈ fam.map (·.1)) (hn : Nm name) (hb : beh = "" \/ beh ∈ L kind)
  (q : ∀ v H', Same H H' -> OutV H' v (fnd bk name (behR (L kind) beh)) -> Q v H') : spFa [.ref t, .ref tb, .str kind, .str name, .str beh] H Q E := by
 unfold spFa; exact ⟨t, tb, o, ws, wb, fam, L, bk, kind, name, beh, rfl, fb, hk, hn, hb, q⟩
abbrev nFa : List Str := ["family", "book", "kind", "name", "behind", "finds"]
abbrev pFa : List Str := ["family", "book", "kind", "name", "behind"]
theorem scFa : FnScope nFa pFa (defScope sFoundAt) := ⟨rfl, rfl, rfl, by decide +kernel, rfl, by decide +kernel, by decide +kernel⟩
theorem ok_fa {C fC fN fF fB fL : Addr} {dC dN dF dB dL : FuncData} {dv : Value} (F : FunD K "found_at" "found_at" sFoundAt dv f fd) (T : TxtF K mg C)
  (GC : FnOk P w K mg base CX0 3 fC dC ["family", "thing"] spCheck) (kC : keepIn K (.ref fC) = true) (bC : Binds K dC ["family", "thing"] []) (mC : mg "check_kind" = some (.ref fC))
  (GN : FnOk P w K mg base CX0 2 fN dN ["thing"] spCkN) (kN : keepIn K (.ref fN) = true) (bN : Binds K dN ["thing"] []) (mN : mg "check_name" = some (.ref fN))
  (GF : FnOk P w K mg base CX0 6 fF dF ["family", "book"] (spFi C)) (kF : keepIn K (.ref fF) = true) (bF : Binds K dF ["family", "book"] []) (mF : mg "finds_in" = some (.ref fF))
  (GB : FnOk P w K mg base CX0 2 fB dB ["line", "thing"] spCb) (kB : keepIn K (.ref fB) = true) (bB : Binds K dB ["line", "thing"] []) (mB : mg "check_behind" = some (.ref fB))
  (GL : FnOk P w K mg base CX0 2 fL dL ["self", "kind", "name", "behind"] (spLook C)) (ML : Meth K C "look" fL) (bL : Binds K dL ["self", "kind", "name", "behind"] []) : FnOk P w K mg base CX0 7 f fd pFa spFa := by
 refine F.ok scFa (fun vs H Q E h => ?_) (fun cdv A outer s H vs Q E hr h => ?_)
 ·unfold spFa at h; obtain ⟨t, tb, o, ws, wb, fam, L, bk, kind, name, beh, rfl, _⟩ := h; rfl
 ·unfold spFa at h
  obtain ⟨t, tb, o, ws, wb, fam, L, bk, kind, name, beh, rfl, fb, hk, hn, hb, q⟩ := h
  have hu := hr.units
  have hu1 := Nat.lt_of_le_of_lt (Nat.add_le_add_left (show 1 <= 64 by decide) _) hu
  have hr6 : Room 6 _ := hr
  have hr3 : Room 3 _ := hr6.mono (by decide)
  have hr2 : Room 2 _ := hr6.mono (by decide)
  refine ⟨_, pss_cons (ps_expr (pe_call GC hr3 rfl mC kC bC .nil pass0 (pa_cons (pv 0) (pa_cons (pv 2) pa_nil))))
   (pss_cons (ps_expr (pe_call GN hr2 rfl mN kN bN .nil pass0 (pa_cons (pv 3) pa_nil)))
   (pss_cons (ps_set (i := 5) scFa.nd rfl (Or.inl rfl) (pe_call GF hr6 rfl mF kF bF .nil pass0 (pa_cons (pv 0) (pa_cons (pv 1) pa_nil))))
   (pss_cons (ps_expr (pe_call GB hr2 rfl mB kB bB .nil pass0 (pa_cons (pe_dget hu1 (pe_fld (pv 5) rfl) (pv 2) (fun _ _ => rfl)) (pa_cons (pv 4) pa_nil))))
   (pss_one (ps_ret (pe_meth (pv 5) T.cl ML GL hr2 bL .nil pass0 (pa_cons (pv 2) (pa_cons (pv 3) (pa_cons (pv 4) pa_nil))))))))), ?_⟩
  obtain ⟨kv, hpv, hkeys⟩ := fb.fv.pairs
  obtain ⟨pk, hpk, ek⟩ := List.mem_map.mp hk
  have hkn : Nm kind := ek ▸ fb.fo.nm pk hpk
  refine ⟨_, rfl, _, rfl, check_sp fb.ht fb.od hpv (by rw [hkeys]; exact fb.fo.nd) hkn (by rw [hkeys]; exact hk) fun H1 S1 => ?_⟩
  refine ⟨_, rfl, ckN_sp hn fun H2 S2 => ?_⟩
  have S2 := S1.trans S2
  refine ⟨_, rfl, _, rfl, fi_sp (fb.same S2) fun x dx dl de dh kl ke H3 S3 fi ln hx hdh => ?_⟩
  obtain ⟨a, ea, ha⟩ : LnT H3 kl L kind := ek ▸ ln pk hpk
  refine ⟨_, rfl, x, C, dx, _, .ref dl, rfl, fi.hx, T.cl, T.nl, fF_lines, _, rfl, dl, .ref a, rfl, .inl ⟨kl, Sum.inr kind, .inl fi.hl, rfl, ea.symm⟩, _, rfl, cb_sp ha (fb.few hk) hb fun H4 S4 => ?_⟩
  have fi4 : FI C x dx dl de dh kl ke [] 0 bk H4 := ⟨S4 _ _ fi.hx, S4 _ _ fi.hl, S4 _ _ fi.he, S4 _ _ fi.hh, fi.du.same S4, fi.ok, fi.nn⟩
  refine ⟨_, rfl, x, dx, _, rfl, fi4.hx, fF_no (by decide +kernel) (by decide +kernel) (by decide +kernel) (by decide +kernel), _, rfl, _, rfl, _, rfl, look_sp fi4 ⟨a, ea, S4 _ _ ha⟩ (fb.few hk) hb (fun k n b v e => (by cases e)) (Nat.zero_le _) fun v kh' m' H5 kp5 _ _ _ ov => ?_⟩
  have hx2 := S2.free hx
  have hh2 := S2.free hdh
  exact q v H5 (fun b u e => kp5 _ _ (ne_of_none e hx2) (ne_of_none e hh2) (S4 _ _ (S3 _ _ (S2 _ _ e)))) ov
end
end K35
namespace K35
open PySem L2 PySem.W HT
theorem cut_to (xs : List V) (k : Nat) : cutV xs none (some (k : Int)) = xs.take k := by
 unfold cutV
 have e1 : HT.sIx xs.length 0 none = 0 := rfl
 rw [e1, List.drop_zero, Nat.sub_zero]
 have e2 : HT.sIx xs.length xs.length (some (k : Int)) = min k xs.length := by
  unfold HT.sIx
  simp
  omega
 rw [e2]
 by_cases h : k <= xs.length
 ·rw [Nat.min_eq_left h]
 ·rw [Nat.min_eq_right (by omega), List.take_of_length_le (Nat.le_refl _), List.take_of_length_le (by omega)]
theorem put_ok {due : Bk} {k n : Str} {d : PyData} (ok : BkOk due) (hk : Nm k) (hn : Nm n) (hd : Ent d) (few : (woN due k n).length <= 47) : BkOk (woN due k n ++ [(k, n, d)]) := by
 have w := woN_ok ok k n
 refine ⟨fun p hp => ?_, fun p hp => ?_, ?_, by rw [List.length_append, List.length_singleton]; omega⟩
 ·rcases List.mem_append.mp hp with z | z
  ·exact w.nm p z
  ·rw [List.mem_singleton.mp z]; exact ⟨hk, hn⟩
 ·rcases List.mem_append.mp hp with z | z
  ·exact w.ent p z
  ·rw [List.mem_singleton.mp z]; exact hd
 ·rw [List.map_append]
  refine List.nodup_append.mpr ⟨w.nd, by simp, fun a ha b hb => ?_⟩
  have : b = [k, n] := by simpa [bkKey] using hb
  rw [this]
  intro z
  exact woN_not (z ▸ ha)
structure DueOk (H : Hp) (b : Addr) (kvs : List (List Key × V)) (due : Bk) (ks ns : List Str) : Prop where
 hb : H b = some (.dT kvs)
 dv : DueV H kvs due
 ok : BkOk due
 sub : ∀ q ∈ due, q.1 ∈ ks /\ q.2.1 ∈ ns
structure Nms (H : Hp) (l : Addr) (ys : List Str) : Prop where
 hl : H l = some (.lst (ys.map V.str))
 ne : ys ≠ []
 few : ys.length <= 20
 nm : ∀ y ∈ ys, Nm y
theorem Nms.pot {p l : Addr} {H H' : Hp} {ys : List Str} (h : Nms H l ys) (pk : PotOk p H) (pa : PotAt p H H') : Nms H' l ys := ⟨pa.kp _ _ h.hl (strs_pot pk h.hl), h.ne, h.few, h.nm⟩
theorem DueOk.pot {p b : Addr} {H H' : Hp} {kvs : List (List Key × V)} {due : Bk} {ks ns : List Str} (h : DueOk H b kvs due ks ns) (pk : PotOk p H) (pa : PotAt p H H') : DueOk H' b kvs due ks ns := by
 obtain ⟨x, y, e0, _⟩ := id pk
 exact ⟨pa.kp _ _ h.hb (ne_of h.hb e0 (by intro z; cases z)), h.dv.keep (pot_tup pk pa) h.ok.ent, h.ok, h.sub⟩
theorem DueOk.same {b : Addr} {H H' : Hp} {kvs : List (List Key × V)} {due : Bk} {ks ns : List Str} (h : DueOk H b kvs due ks ns) (S : Same H H') : DueOk H' b kvs due ks ns := ⟨S _ _ h.hb, h.dv.same S, h.ok, h.sub⟩
theorem three_at {i : Int} (h0 : 0 <= i) (h1 : i < 3) : ∃ v : Int, atI [V.int 4, .int 13, .int 49] i = some (.int v) /\ 0 < v /\ v <= 49 := by
 obtain ⟨n, rfl⟩ := Int.eq_ofNat_of_zero_le h0
 match n, h1 with
 | 0, _ => exact ⟨4, atI_nat rfl, by decide, by decide⟩
 | 1, _ => exact ⟨13, atI_nat rfl, by decide, by decide⟩
 | 2, _ => exact ⟨49, atI_nat rfl, by decide, by decide⟩
 | n + 3, h => exact absurd h (by omega)
section
variable {P : Program} {w : World} {K : Frag} {mg : Str -> Option Value} {base : Heap} {f : Addr} {fd : FuncData}
@[irreducible] def spBook : Sp := fun vs H Q _ => ∃ (p lk ln : Addr) (ks ns : List Str), vs = [.ref p, .ref lk, .ref ln] /\ PotOk p H /\ Nms H lk ks /\ Nms H ln ns /\
 ∀ (d : Addr) (kvs : List (List Key × V)) (due : Bk) (H' : Hp), H d = none -> PotAt p H H' -> DueOk H' d kvs due ks ns -> Q (.ref d) H'
theorem book_sp {p lk ln : Addr} {ks ns : List Str} {H : Hp} {Q : VK} {E : XK} (pk : PotOk p H) (nk : Nms H lk ks) (nn : Nms H ln ns)
  (q : ∀ (d : Addr) (kvs : List (List Key × V)) (due : Bk) (H' : Hp), H d = none -> PotAt p H H' -> DueOk H' d kvs due ks ns -> Q (.ref d) H') : spBook [.ref p, .ref lk, .ref ln] H Q E := by
 unfold spBook; exact ⟨p, lk, ln, ks, ns, rfl, pk, nk, nn, q⟩
abbrev aBook : List Str := ["_law_pot_here", "_law_kinds", "_law_names_here"]
abbrev nBook : List Str := ["_law_pot_here", "_law_kinds", "_law_names_here", "_law_book_here", "_law_many", "_law_turn", "_law_kind", "_law_at"]
theorem scBook : FnScope nBook aBook (defScope sBook) := ⟨rfl, rfl, rfl, by decide +kernel, rfl, by decide +kernel, by decide +kernel⟩
theorem ok_book {fD fE : Addr} {dD dE : FuncData} (F : Fun K "_law_book" "_law_book" sBook f fd) (B : Blt mg)
  (GD : FnOk P w K mg base CX0 1 fD dD ["_law_pot_here", "_law_many"] spDigit) (kD : keepIn K (.ref fD) = true) (bD : Binds K dD ["_law_pot_here", "_law_many"] []) (mD : mg "_law_digit" = some (.ref fD))
  (GE : FnOk P w K mg base CX0 4 fE dE ["_law_pot_here", "_law_names_here", "_law_at"] spEnt) (kE : keepIn K (.ref fE) = true) (bE : Binds K dE ["_law_pot_here", "_law_names_here", "_law_at"] []) (mE : mg "_law_entry" = some (.ref fE)) : FnOk P w K mg base CX0 5 f fd aBook spBook := by
 refine F.ok scBook (fun vs H Q E h => ?_) (fun cdv A outer s H vs Q E hr h => ?_)
 ·unfold spBook at h; obtain ⟨p, lk, ln, ks, ns, rfl, _⟩ := h; rfl
 ·unfold spBook at h
  obtain ⟨p, lk, ln, ks, ns, rfl, pk, nk, nn, q⟩ := h
  have hu := hr.units
  have hu1 := Nat.lt_of_le_of_lt (Nat.add_le_add_left (show 1 <= 64 by decide) _) hu
  have hr4 : Room 4 _ := hr
  have hr1 : Room 1 _ := hr4.mono (by decide)
  refine ⟨_, pss_cons (ps_set (i := 3) scBook.nd rfl (Or.inl rfl) pe_dnewT)
   (pss_cons (ps_set (i := 4) scBook.nd rfl (Or.inl rfl) (pe_call GD hr1 rfl mD kD bD .nil pass0 (pa_cons (pv 0) (pa_cons (pe_ix ix_list (pe_lst (pa_cons pe_int (pa_cons pe_int (pa_cons pe_int pa_nil)))) (pe_call GD hr1 rfl mD kD bD .nil pass0 (pa_cons (pv 0) (pa_cons pe_int pa_nil))) (fun _ _ => rfl)) pa_nil))))
   (pss_cons (ps_for PassesOwn.never rfl (pi_range1 rfl B.range (pa_cons (pv 4) pa_nil)) (pg_name (i := 5) scBook.nd rfl (Or.inl rfl))
    (pss_cons (ps_set (i := 6) scBook.nd rfl (Or.inl rfl) (pe_ix ix_list (pv 1) (pe_call GD hr1 rfl mD kD bD .nil pass0 (pa_cons (pv 0) (pa_cons (pe_callB call_len_seq rfl B.len boot_len (pa_cons (pv 1) pa_nil)) pa_nil))) (fun _ _ => rfl)))
    (pss_cons (ps_set (i := 7) scBook.nd rfl (Or.inl rfl) (pe_call GD hr1 rfl mD kD bD .nil pass0 (pa_cons (pv 0) (pa_cons (pe_callB call_len_seq rfl B.len boot_len (pa_cons (pv 2) pa_nil)) pa_nil))))
    (pss_one (ps_dput hu1 (pv 3) (pe_tup (pa_cons (pv 6) (pa_cons (pe_ix ix_list (pv 2) (pv 7) (fun _ _ => rfl)) pa_nil))) (pe_call GE hr4 rfl mE kE bE .nil pass0 (pa_cons (pv 0) (pa_cons (pv 2) (pa_cons (pv 7) pa_nil)))) rfl)))))
   (pss_one (ps_ret (pv 3))))), ?_⟩
  have kl : 0 < ks.length := List.length_pos_iff.mpr nk.ne
  have nl : 0 < ns.length := List.length_pos_iff.mpr nn.ne
  have k20 := nk.few
  have n20 := nn.few
  intro d hd
  have npd : p ≠ d := pk.ne hd
  have P0 := (PotAt.refl pk).new (o := .dT []) hd
  have hd0 : upd H d (.dT []) d = some (.dT []) := upd_same
  generalize upd H d (.dT []) = H0 at P0 hd0 ⊢
  have ndp : d ≠ p := Ne.symm npd
  refine ⟨_, rfl, by show 3 <= sizeLine; rw [sizeLine_eq]; decide, fun c hc => ?_⟩
  have P1 := P0.new (o := .lst [V.int 4, .int 13, .int 49]) hc
  have hc1 : upd H0 c (.lst [V.int 4, .int 13, .int 49]) c = some (.lst [V.int 4, .int 13, .int 49]) := upd_same
  have hd1 : upd H0 c (.lst [V.int 4, .int 13, .int 49]) d = some (.dT []) := by rw [upd_ne (ne_of_none hd0 hc)]; exact hd0
  have ncp : c ≠ p := Ne.symm (P0.ok.ne hc)
  generalize upd H0 c (.lst [V.int 4, .int 13, .int 49]) = H1 at P1 hc1 hd1 ⊢
  refine ⟨_, rfl, digit_sp (p := p) (m := 3) P1.ok (by decide) (by decide) fun i3 H2 a0 a1 p2 => ?_⟩
  obtain ⟨v, hv, v0, v1⟩ := three_at a0 a1
  refine ⟨c, _, i3, .int v, rfl, rfl, SqL.of (p2.kp _ _ hc1 ncp), hv, ?_⟩
  have P2 := P1.trans p2
  refine digit_sp (p := p) (m := v) P2.ok v0 (by omega) fun mn H3 b0 b1 p3 => ?_
  have P3 := P2.trans p3
  have hd3 : H3 d = some (.dT []) := p3.kp _ _ (p2.kp _ _ hd1 ndp) ndp
  obtain ⟨M, rfl⟩ := Int.eq_ofNat_of_zero_le b0
  refine ⟨_, rfl, (M : Int), rfl, by omega, by omega, for_range (fun i σ H4 => ∃ (kvs : List (List Key × V)) (due : Bk) (v5 v6 v7 : Option V), σ = [some (.ref p), some (.ref lk), some (.ref ln), some (.ref d), some (.int M), v5, v6, v7] /\ PotAt p H H4 /\ DueOk H4 d kvs due ks ns /\ due.length <= i)
   ⟨[], [], none, none, none, rfl, P3, ⟨hd3, .nil, ⟨fun q hq => (by cases hq), fun q hq => (by cases hq), List.nodup_nil, Nat.zero_le _⟩, fun q hq => (by cases hq)⟩, Nat.le_refl _⟩ ?_ ?_⟩
  ·rintro i σ H4 hi ⟨kvs, due, v5, v6, v7, rfl, P4, D4, dl⟩
   have hi' : i < M := by simpa using hi
   have nk4 := nk.pot pk P4
   have nn4 := nn.pot pk P4
   refine ⟨_, rfl, _, rfl, _, rfl, lk, _, rfl, .inl (SqL.of nk4.hl), ?_⟩
   rw [List.length_map]
   refine digit_sp (p := p) (m := (ks.length : Int)) P4.ok (by omega) (by omega) fun dk H5 c0 c1 p5 => ?_
   have P5 := P4.trans p5
   obtain ⟨jk, rfl⟩ := Int.eq_ofNat_of_zero_le c0
   have hjk : jk < ks.length := by omega
   refine ⟨lk, _, (jk : Int), .str ks[jk], rfl, rfl, SqL.of (nk.pot pk P5).hl, atI_nat (by rw [List.getElem?_map, List.getElem?_eq_getElem hjk]; rfl), ?_⟩
   have hkm : ks[jk] ∈ ks := List.getElem_mem hjk
   generalize ks[jk] = k at hkm ⊢
   refine ⟨_, rfl, _, rfl, ln, _, rfl, .inl (SqL.of (nn.pot pk P5).hl), ?_⟩
   rw [List.length_map]
   refine digit_sp (p := p) (m := (ns.length : Int)) P5.ok (by omega) (by omega) fun dn H6 e0 e1 p6 => ?_
   have P6 := P5.trans p6
   obtain ⟨jn, rfl⟩ := Int.eq_ofNat_of_zero_le e0
   have hjn : jn < ns.length := by omega
   have nn6 := nn.pot pk P6
   refine ⟨_, rfl, _, rfl, _, rfl, ent_sp (p := p) (k := jn) P6.ok nn6.hl nn.ne n20 nn.nm fun ve dd H7 p7 r7 en => ?_⟩
   have P7 := P6.trans p7
   have D7 := ((D4.pot P4.ok p5).pot P5.ok p6).pot P6.ok p7
   have hnm : ns[jn] ∈ ns := List.getElem_mem hjn
   refine ⟨_, rfl, _, rfl, _, rfl, _, rfl, ln, _, (jn : Int), .str ns[jn], rfl, rfl, SqL.of (nn.pot pk P7).hl, atI_nat (by rw [List.getElem?_map, List.getElem?_eq_getElem hjn]; rfl), by show 2 <= sizeLine; rw [sizeLine_eq]; decide, fun kt hkt => ?_⟩
   generalize ns[jn] = n at hnm hkt ⊢
   have S8 := same_new (o := .tup [V.str k, V.str n]) hkt
   have P8 := P7.new (o := .tup [V.str k, V.str n]) hkt
   have hk8 : upd H7 kt (.tup [V.str k, V.str n]) kt = some (.tup (([Sum.inr k, Sum.inr n] : List Key).map kV)) := upd_same
   have D8 := D7.same S8
   have r8 := r7.same S8
   generalize upd H7 kt (.tup [V.str k, V.str n]) = H8 at S8 P8 hk8 D8 r8 ⊢
   have kvl := D8.dv.length
   refine ⟨d, _, rfl, DPut.t (k := [Sum.inr k, Sum.inr n]) D8.hb hk8 (by rw [sizeLine_eq]; omega), ?_⟩
   have up : ∀ b xs, H8 b = some (.tup xs) -> upd H8 d (.dT (putK kvs [Sum.inr k, Sum.inr n] ve)) b = some (.tup xs) := fun b xs e => by rw [upd_ne (ne_of e D8.hb (by intro z; cases z))]; exact e
   obtain ⟨due', dv', pm'⟩ := (D8.dv.keep up D8.ok.ent).put (k := k) (n := n) (v := ve) (d := dd) D8.ok.nd (en.keep r8 up)
   have wl : (woN due k n).length <= i := Nat.le_trans (List.length_filter_le _ _) dl
   have okc := put_ok D8.ok (nk.nm k hkm) (nn.nm n hnm) en (by omega)
   refine ⟨_, due', _, _, _, rfl, P8.write hd npd, ⟨upd_same, dv', bk_perm pm' okc, fun z hz => ?_⟩, by rw [pm'.length_eq, List.length_append, List.length_singleton]; omega⟩
   rcases List.mem_append.mp (pm'.mem_iff.mp hz) with y | y
   ·exact D8.sub z (List.mem_filter.mp y).1
   ·rw [List.mem_singleton.mp y]; exact ⟨hkm, hnm⟩
  ·rintro σ H4 ⟨kvs, due, v5, v6, v7, rfl, P4, D4, dl⟩
   exact ⟨_, rfl, q d kvs due H4 hd P4 D4⟩
end
end K35
namespace K35
open PySem L2 PySem.W HT
abbrev Out := Option (Str × PyData)
def hits (bk : Bk) (n : Str) (l : List Str) : List (Str × PyData) := l.filterMap fun x => (lookBk bk x n).map fun d => (x, d)
theorem hits_no {bk : Bk} {n x : Str} {r : List Str} (h : lookBk bk x n = none) : hits bk n (x :: r) = hits bk n r := by unfold hits; rw [List.filterMap_cons, h]; rfl
theorem hits_yes {bk : Bk} {n x : Str} {d : PyData} {r : List Str} (h : lookBk bk x n = some d) : hits bk n (x :: r) = (x, d) :: hits bk n r := by unfold hits; rw [List.filterMap_cons, h]; rfl
theorem fnd_hits {bk : Bk} {n : Str} : ∀ l : List Str, fnd bk n l = (hits bk n l).head?
 | [] => rfl
 | x :: r => by
  cases e : lookBk bk x n with
  | none => rw [fnd_no e, hits_no e]; exact fnd_hits r
  | some d => rw [fnd_yes e, hits_yes e]; rfl
theorem fnd_split {bk : Bk} {n x : Str} {d : PyData} : ∀ {l : List Str}, fnd bk n l = some (x, d) -> ∃ pre rest, l = pre ++ x :: rest /\ hits bk n l = (x, d) :: hits bk n rest
 | [], h => by cases h
 | y :: l, h => by
  cases e : lookBk bk y n with
  | some d' =>
   rw [fnd_yes e] at h
   cases h
   exact ⟨[], l, rfl, hits_yes e⟩
  | none =>
   rw [fnd_no e] at h
   obtain ⟨pre, rest, e1, e2⟩ := fnd_split (l := l) h
   exact ⟨y :: pre, rest, by rw [e1]; rfl, by rw [hits_no e, e2]⟩
def nxt (b : Str) : Out -> Str
 | none => b
 | some p => p.1
def behAt (bk : Bk) (line : List Str) (n : Str) : Nat -> Str
 | 0 => ""
 | i + 1 => nxt (behAt bk line n i) (fnd bk n (behR line (behAt bk line n i)))
theorem behR_sub {line : List Str} {b x : Str} (h : x ∈ behR line b) : x ∈ line := by
 unfold behR at h
 split at h
 ·exact h
 ·exact List.mem_of_mem_drop h
theorem behAt_ok {bk : Bk} {line : List Str} {n : Str} : ∀ i, behAt bk line n i = "" \/ behAt bk line n i ∈ line
 | 0 => .inl rfl
 | i + 1 => by
  show nxt _ _ = "" \/ nxt _ _ ∈ line
  cases e : fnd bk n (behR line (behAt bk line n i)) with
  | none => exact behAt_ok i
  | some p => exact .inr (behR_sub (fnd_mem (x := p.1) (d := p.2) e).1)
theorem drop_at {line a rest : List Str} {x : Str} (nd : line.Nodup) (e : line = a ++ x :: rest) : line.drop (line.idxOf x + 1) = rest := by
 have hx : x ∉ a := fun z => by
  rw [e] at nd
  exact (List.nodup_append.mp nd).2.2 x z x List.mem_cons_self rfl
 have ei : line.idxOf x = a.length := by
  rw [e, List.idxOf_append, if_neg hx, List.idxOf_cons_self, Nat.zero_add]
 rw [ei, e, List.drop_append, List.drop_of_length_le (by omega)]
 simp
theorem behR_suf {line : List Str} (b : Str) : ∃ a, line = a ++ behR line b := by
 unfold behR
 split
 ·exact ⟨[], rfl⟩
 ·exact ⟨_, (List.take_append_drop _ line).symm⟩
theorem hits_beh {bk : Bk} {line : List Str} {n : Str} (nd : line.Nodup) (ne : ∀ x ∈ line, x ≠ "") : ∀ i, hits bk n (behR line (behAt bk line n i)) = (hits bk n line).drop i
 | 0 => by
  show hits bk n (behR line "") = _
  unfold behR; rw [if_pos rfl, List.drop_zero]
 | i + 1 => by
  have ih := hits_beh (bk := bk) (n := n) nd ne i
  show hits bk n (behR line (nxt _ (fnd bk n (behR line (behAt bk line n i))))) = _
  cases e : fnd bk n (behR line (behAt bk line n i)) with
  | none =>
   show hits bk n (behR line (behAt bk line n i)) = _
   rw [fnd_hits, List.head?_eq_none_iff] at e
   rw [e] at ih
   rw [e, <- List.drop_drop, <- ih]; rfl
  | some p =>
   obtain ⟨pre, rest, e1, e2⟩ := fnd_split (x := p.1) (d := p.2) e
   obtain ⟨a, ea⟩ := behR_suf (line := line) (behAt bk line n i)
   have hl : line = (a ++ pre) ++ p.1 :: rest := by rw [List.append_assoc, <- e1]; exact ea
   have hp : p.1 ∈ line := by rw [hl]; exact List.mem_append_right _ List.mem_cons_self
   show hits bk n (behR line p.1) = _
   have er : behR line p.1 = rest := by unfold behR; rw [if_neg (ne _ hp)]; exact drop_at nd hl
   rw [er, <- List.drop_drop, <- ih, e2]; rfl
def goneL (bk : Bk) (line : List Str) (n : Str) (m : Nat) : List Out := (List.range m).map fun i => fnd bk n (behR line (behAt bk line n i))
def dueL (bk : Bk) (line : List Str) (n : Str) (m : Nat) : List Out := (hits bk n line).map some ++ List.replicate (m - (hits bk n line).length) none
theorem hits_len {bk : Bk} {line : List Str} {n : Str} : (hits bk n line).length <= line.length := List.length_filterMap_le _ _
theorem gone_due {bk : Bk} {line : List Str} {n : Str} (nd : line.Nodup) (ne : ∀ x ∈ line, x ≠ "") {m : Nat} (hm : line.length <= m) : goneL bk line n m = dueL bk line n m := by
 have hl := hits_len (bk := bk) (line := line) (n := n)
 apply List.ext_getElem?
 intro i
 unfold goneL dueL
 rw [List.getElem?_map]
 by_cases c : i < m
 ·rw [List.getElem?_range c, Option.map_some, fnd_hits, hits_beh nd ne, List.head?_drop]
  by_cases d : i < (hits bk n line).length
  ·rw [List.getElem?_append_left (by rw [List.length_map]; exact d), List.getElem?_map, List.getElem?_eq_getElem d]; rfl
  ·rw [List.getElem?_append_right (by rw [List.length_map]; omega), List.length_map, List.getElem?_eq_none (by omega), List.getElem?_replicate, if_pos (by omega)]
 ·rw [List.getElem?_eq_none (by rw [List.length_range]; omega), List.getElem?_eq_none (by rw [List.length_append, List.length_map, List.length_replicate]; omega)]; rfl
theorem hits_perm {n : Str} {a b : Bk} (p : a.Perm b) (nd : (b.map bkKey).Nodup) (l : List Str) : hits a n l = hits b n l := by
 unfold hits
 congr 1
 funext x
 rw [lookBk_perm p nd]
def OutsV (H : Hp) (ys : List V) (rs : List Out) : Prop := Paired (fun v r => OutV H v r) ys rs
def OutsOk (rs : List Out) : Prop := ∀ r ∈ rs, ∀ x d, r = some (x, d) -> Nm x /\ Ent d
theorem OutsV.keep {H H' : Hp} (k : ∀ b xs, H b = some (.tup xs) -> H' b = some (.tup xs)) : ∀ {ys : List V} {rs : List Out}, OutsV H ys rs -> OutsOk rs -> OutsV H' ys rs
 | _, _, .nil, _ => .nil
 | _, _, .cons h t, ok => .cons (h.keep k fun x d z => (ok _ List.mem_cons_self x d z).2) (OutsV.keep k t fun r hr => ok r (List.mem_cons_of_mem _ hr))
theorem OutsV.rep {H : Hp} : ∀ {ys : List V} {rs : List Out}, OutsV H ys rs -> RepAll H ys (rs.map outD)
 | _, _, .nil => .nil
 | _, _, .cons h t => .cons h.rep (OutsV.rep t)
theorem outs_lay : ∀ {rs : List Out}, OutsOk rs -> PyData.canLayAll0 (rs.map outD) = true /\ PyData.depthAll (rs.map outD) <= 5
 | [], _ => ⟨rfl, by decide⟩
 | r :: rs, h => by
  obtain ⟨b1, b2⟩ := outs_lay fun x hx => h x (List.mem_cons_of_mem _ hx)
  obtain ⟨a1, a2⟩ := outD_lay (h r List.mem_cons_self)
  refine ⟨?_, ?_⟩
  ·show ((outD r).canLay0 && PyData.canLayAll0 (rs.map outD)) = true
   rw [a1, b1]; rfl
  ·rw [List.map_cons]
   simp only [PyData.depthAll]; omega
theorem goneL_ok {bk : Bk} {line : List Str} {n : Str} (ok : BkOk bk) (m : Nat) : OutsOk (goneL bk line n m) := fun r hr x d e => by
 obtain ⟨i, _, rfl⟩ := List.mem_map.mp hr
 exact fnd_ent ok x d e
theorem hits_ok {bk : Bk} {line : List Str} {n : Str} (ok : BkOk bk) : OutsOk ((hits bk n line).map some) := fun r hr x d e => by
 obtain ⟨p, hp, rfl⟩ := List.mem_map.mp hr
 obtain ⟨y, _, hy⟩ := List.mem_filterMap.mp hp
 obtain ⟨d', hd', rfl⟩ := Option.map_eq_some_iff.mp hy
 injection e with e
 injection e with e1 e2
 subst e1 e2
 have hm := lookBk_some hd'
 exact ⟨(ok.nm _ hm).1, ok.ent _ hm⟩
theorem repN (k : Nat) : (List.replicate k [V.non]).flatten = List.replicate k V.non := by
 induction k with
 | zero => rfl
 | succ k ih => rw [List.replicate_succ, List.flatten_cons, ih, List.replicate_succ]; rfl
theorem outs_none {H : Hp} : ∀ k : Nat, OutsV H (List.replicate k V.non) (List.replicate k none)
 | 0 => .nil
 | k + 1 => .cons rfl (outs_none k)
theorem outs_append {H : Hp} : ∀ {a b : List V} {x y : List Out}, OutsV H a x -> OutsV H b y -> OutsV H (a ++ b) (x ++ y)
 | _, _, _, _, .nil, h => h
 | _, _, _, _, .cons r t, h => .cons r (outs_append t h)
section
variable {P : Program} {w : World} {K : Frag} {mg : Str -> Option Value} {base : Heap} {f : Addr} {fd : FuncData}
@[irreducible] def spGo : Sp := fun vs H Q _ => ∃ (t tb : Addr) (o : Obj) (ws wb : List V) (fam : List (Str × List Str)) (L : Str -> List Str) (bk : Bk) (kind name : Str) (m : Nat), vs = [.ref t, .ref tb, .str kind, .str name, .int m] /\ FB H t tb o ws wb fam L bk /\ kind ∈ fam.map (·.1) /\ Nm name /\ m <= 300 /\
 ∀ (r : Addr) (ys : List V) (H' : Hp), Same H H' -> H' r = some (.lst ys) -> OutsV H' ys (goneL bk (L kind) name m) -> Q (.ref r) H'
theorem go_sp {t tb : Addr} {o : Obj} {ws wb : List V} {fam : List (Str × List Str)} {L : Str -> List Str} {bk : Bk} {kind name : Str} {m : Nat} {H : Hp} {Q : VK} {E : XK} (fb : FB H t tb o ws wb fam L bk) (hk : kind ∈ fam.map (·.1)) (hn : Nm name) (h3 : m <= 300)
  (q : ∀ (r : Addr) (ys : List V) (H' : Hp), Same H H' -> H' r = some (.lst ys) -> OutsV H' ys (goneL bk (L kind) name m) -> Q (.ref r) H') : spGo [.ref t, .ref tb, .str kind, .str name, .int m] H Q E := by
 unfold spGo; exact ⟨t, tb, o, ws, wb, fam, L, bk, kind, name, m, rfl, fb, hk, hn, h3, q⟩
abbrev aGo : List Str := ["_law_family_here", "_law_book_here", "_law_kind", "_law_name", "_law_most"]
abbrev nGo : List Str := ["_law_family_here", "_law_book_here", "_law_kind", "_law_name", "_law_most", "_law_pairs", "_law_behind", "_law_turn", "_law_pair"]
theorem scGo : FnScope nGo aGo (defScope sGone) := ⟨rfl, rfl, rfl, by decide +kernel, rfl, by decide +kernel, by decide +kernel⟩
theorem ok_go {fA : Addr} {dA : FuncData} (F : Fun K "_law_gone" "_law_gone" sGone f fd) (B : Blt mg) (GA : FnOk P w K mg base CX0 7 fA dA pFa spFa) (kA : keepIn K (.ref fA) = true) (bA : Binds K dA pFa []) (mA : mg "found_at" = some (.ref fA)) : FnOk P w K mg base CX0 8 f fd aGo spGo := by
 refine F.ok scGo (fun vs H Q E h => ?_) (fun cdv A outer s H vs Q E hr h => ?_)
 ·unfold spGo at h; obtain ⟨t, tb, o, ws, wb, fam, L, bk, kind, name, m, rfl, _⟩ := h; rfl
 ·unfold spGo at h
  obtain ⟨t, tb, o, ws, wb, fam, L, bk, kind, name, m, rfl, fb, hk, hn, h300, q⟩ := h
  refine ⟨_, pss_cons (ps_set (i := 5) scGo.nd rfl (Or.inl rfl) (pe_lst pa_nil))
   (pss_cons (ps_set (i := 6) scGo.nd rfl (Or.inl rfl) pe_str)
   (pss_cons (ps_for PassesOwn.never rfl (pi_range1 rfl B.range (pa_cons (pv 4) pa_nil)) (pg_name (i := 7) scGo.nd rfl (Or.inl rfl))
    (pss_cons (ps_set (i := 8) scGo.nd rfl (Or.inl rfl) (pe_call GA hr rfl mA kA bA .nil pass0 (pa_cons (pv 0) (pa_cons (pv 1) (pa_cons (pv 2) (pa_cons (pv 3) (pa_cons (pv 6) pa_nil)))))))
    (pss_cons (ps_expr (pe_bm PySem.F.plainAttrs_list PySem.F.slot_list_append PySem.F.type_list_append mt_append (pv 5) (pa_cons (pv 8) pa_nil)))
    (pss_one (ps_if (pt_cmpR op_notN (pv 8) pe_non (nomark _)) (pss_one (ps_set (i := 6) scGo.nd rfl (Or.inl rfl) (pe_ix ix_tup (pv 8) pe_int (fun _ _ => rfl)))) pss_nil)))))
   (pss_one (ps_ret (pv 5))))), ?_⟩
  refine ⟨Nat.zero_le _, fun c hc => ?_⟩
  have S0 := same_new (o := .lst []) hc
  have hc0 : upd H c (.lst []) c = some (.lst []) := upd_same
  generalize upd H c (.lst []) = H0 at S0 hc0 ⊢
  refine ⟨_, rfl, (m : Int), rfl, by omega, by omega, for_range (fun i σ H1 => ∃ (ys : List V) (v7 v8 : Option V), σ = [some (.ref t), some (.ref tb), some (.str kind), some (.str name), some (.int m), some (.ref c), some (.str (behAt bk (L kind) name i)), v7, v8] /\ Same H H1 /\ H1 c = some (.lst ys) /\ OutsV H1 ys (goneL bk (L kind) name i))
   ⟨[], none, none, rfl, S0, hc0, .nil⟩ ?_ ?_⟩
  ·rintro i σ H1 hi ⟨ys, v7, v8, rfl, S1, h1, O1⟩
   have hi' : i < m := by simpa using hi
   refine ⟨_, rfl, _, rfl, _, rfl, _, rfl, _, rfl, fa_sp (fb.same S1) hk hn (behAt_ok i) fun v H2 S2 ov => ?_⟩
   have h2 := S2 _ _ h1
   have yl := Paired.length O1
   unfold goneL at yl
   rw [List.length_map, List.length_range] at yl
   refine ⟨_, rfl, .inl ⟨rfl, _, SqL.of h2⟩, _, rfl, c, _, _, rfl, rfl, h2, by rw [sizeLine_eq]; omega, ?_⟩
   have up : ∀ {zs : List V} b xs, H2 b = some (.tup xs) -> upd H2 c (.lst zs) b = some (.tup xs) := fun b xs e => by rw [upd_ne (ne_of e h2 (by intro z; cases z))]; exact e
   have S3 : Same H (upd H2 c (.lst (ys ++ [v]))) := fun b u e => by rw [upd_ne (ne_of_none e hc)]; exact S2 _ _ (S1 _ _ e)
   have h3 : upd H2 c (.lst (ys ++ [v])) c = some (.lst (ys ++ [v])) := upd_same
   have ov3 := ov.keep (H' := upd H2 c (.lst (ys ++ [v]))) up fun x d z => (fnd_ent fb.ok x d z).2
   have O3 : OutsV (upd H2 c (.lst (ys ++ [v]))) (ys ++ [v]) (goneL bk (L kind) name (i + 1)) := by
    unfold goneL
    rw [List.range_succ, List.map_append]
    exact Paired.snoc ((O1.keep (fun b xs e => S2 _ _ e) (goneL_ok fb.ok i)).keep up (goneL_ok fb.ok i)) ov3
   generalize upd H2 c (.lst (ys ++ [v])) = H3 at S3 h3 ov3 O3 ⊢
   refine ⟨_, rfl, rfl, _, rfl, ?_⟩
   have eb : behAt bk (L kind) name (i + 1) = nxt (behAt bk (L kind) name i) (fnd bk name (behR (L kind) (behAt bk (L kind) name i))) := rfl
   cases ef : fnd bk name (behR (L kind) (behAt bk (L kind) name i)) with
   | none =>
    rw [ef] at ov3 eb
    obtain rfl : v = .non := ov3
    refine ite_ff (by simp) ⟨_, some (.int (0 + (i : Int))), some .non, ?_, S3, h3, O3⟩
    rw [eb]; rfl
   | some p =>
    rw [ef] at ov3 eb
    obtain ⟨tt, u, rfl, htt, _⟩ := ov3
    refine ite_tt (by simp) ?_
    refine ⟨_, rfl, tt, _, 0, .str p.1, rfl, rfl, SqT.of htt, at_0, _, some (.int (0 + (i : Int))), some (.ref tt), ?_, S3, h3, O3⟩
    rw [eb]; rfl
  ·rintro σ H1 ⟨ys, v7, v8, rfl, S1, h1, O1⟩
   exact ⟨_, rfl, q c ys H1 S1 h1 O1⟩
@[irreducible] def spDu : Sp := fun vs H Q _ => ∃ (l d : Addr) (line : List Str) (kvs : List (List Key × V)) (due : Bk) (name : Str) (m : Nat), vs = [.ref l, .ref d, .str name, .int m] /\ H l = some (.lst (line.map V.str)) /\ line.length <= 200 /\ H d = some (.dT kvs) /\ DueV H kvs due /\ BkOk due /\ line.length <= m /\ m <= 300 /\
 ∀ (r : Addr) (ys : List V) (H' : Hp), Same H H' -> H' r = some (.lst ys) -> OutsV H' ys (dueL due line name m) -> Q (.ref r) H'
theorem du_sp {l d : Addr} {line : List Str} {kvs : List (List Key × V)} {due : Bk} {name : Str} {m : Nat} {H : Hp} {Q : VK} {E : XK} (hl : H l = some (.lst (line.map V.str))) (h2 : line.length <= 200) (hd : H d = some (.dT kvs)) (dv : DueV H kvs due) (ok : BkOk due) (hm : line.length <= m) (h3 : m <= 300)
  (q : ∀ (r : Addr) (ys : List V) (H' : Hp), Same H H' -> H' r = some (.lst ys) -> OutsV H' ys (dueL due line name m) -> Q (.ref r) H') : spDu [.ref l, .ref d, .str name, .int m] H Q E := by
 unfold spDu; exact ⟨l, d, line, kvs, due, name, m, rfl, hl, h2, hd, dv, ok, hm, h3, q⟩
abbrev aDu : List Str := ["_law_line_here", "_law_book_here", "_law_name", "_law_most"]
abbrev nDu : List Str := ["_law_line_here", "_law_book_here", "_law_name", "_law_most", "_law_pairs"]
theorem scDu : FnScope nDu aDu (defScope sDue) := ⟨rfl, rfl, rfl, by decide +kernel, rfl, by decide +kernel, by decide +kernel⟩
abbrev eDu : Expr := asgV (bodyAt (defBody sDue) 0)
theorem csDu : CompScope nDu (defScope sDue) ["_law_kind", "_law_book_here", "_law_name"] [none, some 1, some 2] (compSc eDu) := ⟨rfl, by decide +kernel, by decide +kernel, rfl, fv_of (by decide +kernel), by decide +kernel⟩
theorem ok_du (F : Fun K "_law_due" "_law_due" sDue f fd) (B : Blt mg) : FnOk P w K mg base CX0 1 f fd aDu spDu := by
 refine F.ok scDu (fun vs H Q E h => ?_) (fun cdv A outer s H vs Q E hr h => ?_)
 ·unfold spDu at h; obtain ⟨l, d, line, kvs, due, name, m, rfl, _⟩ := h; rfl
 ·unfold spDu at h
  obtain ⟨l, d, line, kvs, due, name, m, rfl, hl, h200, hd, dv, ok, hm, h300, q⟩ := h
  have hu := hr.units
  have hu1 := Nat.lt_of_le_of_lt (Nat.add_le_add_left (show 1 <= 64 by decide) _) hu
  refine ⟨_, pss_cons (ps_setComp rfl csDu scDu.nd (i := 4) rfl rfl (pi_list (pv 0)) (fun s H fp => ⟨pg_name (i := 0) csDu.nd rfl (Or.inl rfl), pifs_one (pt_cmp (pc_din hu1 (pe_tup (pa_cons (pv 0) (pa_cons (pv 2) pa_nil))) (pv 1))), pe_tup (pa_cons (pv 0) (pa_cons (pe_dget hu1 (pv 1) (pe_tup (pa_cons (pv 0) (pa_cons (pv 2) pa_nil))) (fun _ _ => rfl)) pa_nil))⟩))
   (pss_one (ps_ret (pe_op op_cat (pv 4) (pe_op op_rep (pe_lst (pa_cons pe_non pa_nil)) (pe_op op_sub (pv 3) (pe_callB call_len_seq rfl B.len boot_len (pa_cons (pv 4) pa_nil))))))), ?_⟩
  refine ⟨_, rfl, l, rfl, ⟨_, SqL.of hl⟩, fun c hc => ?_⟩
  refine comp_list (xs := line.map V.str) (fun i ys τ H1 => ∃ t0 : Option V, τ = [t0, some (.ref d), some (.str name)] /\ H1 c = some (.lst ys) /\ Same H H1 /\ OutsV H1 ys ((hits due name (line.take i)).map some)) ⟨none, rfl, upd_same, same_new hc, .nil⟩ (fun i ys τ H1 ⟨_, _, z1, z2, _⟩ => ⟨z1, SqL.of (z2 _ _ hl)⟩) ?_ ?_
  ·rintro i y ys τ H1 hy ⟨t0, rfl, h1, S1, O1⟩
   have hjl : i < (line.map V.str).length := (List.getElem?_eq_some_iff.mp hy).1
   have hil : i < line.length := by simpa using hjl
   obtain rfl : V.str line[i] = y := by simpa [hil] using hy
   have tki : line.take (i + 1) = line.take i ++ [line[i]] := by rw [List.take_succ, List.getElem?_eq_getElem hil]; rfl
   refine ⟨_, rfl, _, rfl, by show 2 <= sizeLine; rw [sizeLine_eq]; decide, fun kt hkt => ?_⟩
   have S2 := S1.trans (same_new (o := .tup [V.str line[i], V.str name]) hkt)
   have T2 := same_new (o := .tup [V.str line[i], V.str name]) hkt
   have hk2 : upd H1 kt (.tup [V.str line[i], V.str name]) kt = some (.tup (([Sum.inr line[i], Sum.inr name] : List Key).map kV)) := upd_same
   generalize upd H1 kt (.tup [V.str line[i], V.str name]) = H2 at S2 T2 hk2 ⊢
   have yl := Paired.length O1
   have hle := hits_len (bk := due) (line := line.take i) (n := name)
   rw [List.length_map] at yl
   rw [List.length_take] at hle
   refine ⟨_, rfl, d, _, rfl, DGet.t (k := [Sum.inr line[i], Sum.inr name]) (S2 _ _ hd) hk2, _, rfl, ?_⟩
   rcases (dv.same S2).look (k := line[i]) (n := name) ok.nd with ⟨l1, l2⟩ | ⟨v, dd, l1, l2, l3⟩
   ·rw [l2]
    have eh : hits due name (line.take (i + 1)) = hits due name (line.take i) := by
     rw [tki]; unfold hits; rw [List.filterMap_append]
     show _ ++ hits due name [line[i]] = _
     rw [hits_no l1]; exact List.append_nil _
    refine cw_next hjl ⟨_, rfl, T2 _ _ h1, S2, ?_⟩
    rw [eh]; exact O1.keep (fun b xs e => T2 _ _ e) (hits_ok ok)
   ·rw [l2]
    have eh : hits due name (line.take (i + 1)) = hits due name (line.take i) ++ [(line[i], dd)] := by
     rw [tki]; unfold hits; rw [List.filterMap_append]
     show _ ++ hits due name [line[i]] = _
     rw [hits_yes l1]; rfl
    refine ⟨_, rfl, _, rfl, _, rfl, _, rfl, by show 2 <= sizeLine; rw [sizeLine_eq]; decide, fun k2 hk2' => ?_⟩
    have T3 := T2.trans (same_new (o := .tup [V.str line[i], V.str name]) hk2')
    have S3 := S1.trans T3
    have hk3 : upd H2 k2 (.tup [V.str line[i], V.str name]) k2 = some (.tup (([Sum.inr line[i], Sum.inr name] : List Key).map kV)) := upd_same
    have r3 := l3.same (same_new (o := .tup [V.str line[i], V.str name]) hk2')
    generalize upd H2 k2 (.tup [V.str line[i], V.str name]) = H3 at T3 S3 hk3 r3 ⊢
    refine ⟨d, v, rfl, by rw [<- l2]; exact DGet.t (k := [Sum.inr line[i], Sum.inr name]) (S3 _ _ hd) hk3, by show 2 <= sizeLine; rw [sizeLine_eq]; decide, fun t ht => ?_⟩
    have S4 := same_new (o := .tup [V.str line[i], v]) ht
    have ht4 : upd H3 t (.tup [V.str line[i], v]) t = some (.tup [V.str line[i], v]) := upd_same
    have r4 := r3.same S4
    generalize upd H3 t (.tup [V.str line[i], v]) = H4 at S4 ht4 r4 ⊢
    have T4 := T3.trans S4
    have h4 := T4 _ _ h1
    have up : ∀ {zs : List V} b xs, H4 b = some (.tup xs) -> upd H4 c (.lst zs) b = some (.tup xs) := fun b xs e => by rw [upd_ne (ne_of e h4 (by intro z; cases z))]; exact e
    have en : Ent dd := ok.ent _ (lookBk_some l1)
    refine ⟨h4, by rw [sizeLine_eq]; omega, cw_next hjl ⟨_, rfl, upd_same, fun b u e => by rw [upd_ne (ne_of_none e hc)]; exact T4 _ _ (S1 _ _ e), ?_⟩⟩
    rw [eh, List.map_append]
    exact Paired.snoc ((O1.keep (fun b xs e => T4 _ _ e) (hits_ok ok)).keep up (hits_ok ok)) ⟨t, v, rfl, up _ _ ht4, en.keep r4 up⟩
  ·rintro ys τ H1 ⟨t0, rfl, h1, S1, O1⟩
   rw [List.length_map, List.take_length] at O1
   have yl := Paired.length O1
   have hle := hits_len (bk := due) (line := line) (n := name)
   rw [List.length_map] at yl
   refine ⟨_, rfl, by show 1 <= sizeLine; rw [sizeLine_eq]; decide, fun c1 hc1 => ?_⟩
   have S2 := same_new (o := .lst [V.non]) hc1
   have hc2 : upd H1 c1 (.lst [V.non]) c1 = some (.lst [V.non]) := upd_same
   generalize upd H1 c1 (.lst [V.non]) = H2 at S2 hc2 ⊢
   obtain ⟨k, hk⟩ : ∃ k : Nat, (m : Int) - (ys.length : Int) = k := ⟨m - ys.length, by omega⟩
   refine ⟨_, rfl, _, rfl, c, _, rfl, .inl (SqL.of (S2 _ _ h1)), _, _, rfl, rfl, ?_⟩
   show rRep (V.ref c1) (V.int ((m : Int) - (ys.length : Int))) H2 _
   rw [hk]
   refine ⟨c1, (k : Int), _, rfl, rfl, hc2, by omega, by omega, by show 1 * _ <= _; rw [Int.toNat_natCast, sizeLine_eq]; omega, fun c2 hc2' => ?_⟩
   rw [Int.toNat_natCast, repN]
   have S3 := S2.trans (same_new (o := .lst (List.replicate k V.non)) hc2')
   have hc3 : upd H2 c2 (.lst (List.replicate k V.non)) c2 = some (.lst (List.replicate k V.non)) := upd_same
   generalize upd H2 c2 (.lst (List.replicate k V.non)) = H3 at S3 hc3 ⊢
   refine ⟨c, c2, _, _, rfl, rfl, S3 _ _ h1, hc3, by rw [List.length_replicate, sizeLine_eq]; omega, fun r hr' => ?_⟩
   have S4 := S3.trans (same_new (o := .lst (ys ++ List.replicate k V.non)) hr')
   refine q r _ _ (S1.trans S4) upd_same ?_
   unfold dueL
   have ek : m - (hits due name line).length = k := by omega
   rw [ek]
   exact outs_append (O1.keep (fun b xs e => S4 _ _ e) (hits_ok ok)) (outs_none k)
end
end K35
namespace K35
open PySem L2 PySem.W HT
def KF (p : Addr) (H H' : Hp) : Prop := ∀ b u, b ≠ p -> H b = some u -> H' b = some u \/ ∃ kvs o, u = .dK kvs /\ H' b = some (.frz o (.dK kvs))
theorem KF.of {p : Addr} {H H' : Hp} (h : ∀ b u, b ≠ p -> H b = some u -> H' b = some u) : KF p H H' := fun b u n e => .inl (h b u n e)
theorem KF.trans {p : Addr} {H H1 H2 : Hp} (a : KF p H H1) (b : KF p H1 H2) : KF p H H2 := fun c u n e => by
 rcases a c u n e with z | ⟨kvs, o, rfl, z⟩
 ·exact b c u n z
 ·rcases b c _ n z with y | ⟨_, _, y, _⟩
  ·exact .inr ⟨kvs, o, rfl, y⟩
  ·cases y
theorem KF.st {p : Addr} {H H' : Hp} (h : KF p H H') {b : Addr} {u : HO} (n : b ≠ p) (e : H b = some u) (nd : ∀ kvs, u ≠ .dK kvs) : H' b = some u := by
 rcases h b u n e with z | ⟨kvs, _, z, _⟩
 ·exact z
 ·exact absurd z (nd kvs)
theorem KF.rd {p : Addr} {H H' : Hp} (h : KF p H H') {b : Addr} {kvs : List (Key × V)} (n : b ≠ p) (e : Rd H b (.dK kvs)) : Rd H' b (.dK kvs) := by
 rcases e with e | ⟨o, e⟩
 ·rcases h b _ n e with z | ⟨_, o, z, y⟩
  ·exact .inl z
  ·cases z; exact .inr ⟨o, y⟩
 ·exact .inr ⟨o, h.st n e fun _ z => by cases z⟩
theorem kf_tup {p : Addr} {H H' : Hp} (pk : PotOk p H) (h : KF p H H') : ∀ b xs, H b = some (.tup xs) -> H' b = some (.tup xs) := fun b xs e => by
 obtain ⟨_, _, e2, _⟩ := pk
 exact h.st (ne_of e e2 (by intro z; cases z)) e fun _ z => by cases z
structure FDat where
 r : Addr
 d1 : Addr
 d2 : Addr
 kvs1 : List (Key × V)
 kvs2 : List (Key × V)
 ks : List Str
 L : Str -> List Str
 Ps : Str -> List Str
structure FamD (H : Hp) (x : FDat) : Prop where
 hr : H x.r = some (.tup [.ref x.d1, .ref x.d2])
 h1 : Rd H x.d1 (.dK x.kvs1)
 h2 : Rd H x.d2 (.dK x.kvs2)
 k2 : x.kvs2.map (·.1) = x.ks.map Sum.inr
 l1 : ∀ y ∈ x.ks, LnL H x.kvs1 x.L y
 l2 : ∀ y ∈ x.ks, LnL H x.kvs2 x.Ps y
 fm : Fm x.ks x.L x.Ps
 nd : x.ks.Nodup
 nm : ∀ y ∈ x.ks, Nm y
 k8 : x.ks.length <= 8
theorem FamD.kf {p : Addr} {H H' : Hp} {x : FDat} (pk : PotOk p H) (h : FamD H x) (k : KF p H H') : FamD H' x := by
 obtain ⟨px, py, pe, _⟩ := id pk
 have rdp : ∀ {b : Addr} {kvs : List (Key × V)}, Rd H b (.dK kvs) -> b ≠ p := fun e => by
  rcases e with e | ⟨o, e⟩
  ·exact ne_of e pe (by intro z; cases z)
  ·exact ne_of e pe (by intro z; cases z)
 exact ⟨kf_tup pk k _ _ h.hr, k.rd (rdp h.h1) h.h1, k.rd (rdp h.h2) h.h2, h.k2, fun y hy => let ⟨a, e1, e2⟩ := h.l1 y hy; ⟨a, e1, k.st (strs_pot pk e2) e2 fun _ z => by cases z⟩, fun y hy => let ⟨a, e1, e2⟩ := h.l2 y hy; ⟨a, e1, k.st (strs_pot pk e2) e2 fun _ z => by cases z⟩, h.fm, h.nd, h.nm, h.k8⟩
theorem FamD.same {H H' : Hp} {x : FDat} (h : FamD H x) (S : Same H H') : FamD H' x := by
 have rd : ∀ {b : Addr} {u : HO}, Rd H b u -> Rd H' b u := fun e => by
  rcases e with e | ⟨o, e⟩
  ·exact .inl (S _ _ e)
  ·exact .inr ⟨o, S _ _ e⟩
 exact ⟨S _ _ h.hr, rd h.h1, rd h.h2, h.k2, fun y hy => (h.l1 y hy).same S, fun y hy => (h.l2 y hy).same S, h.fm, h.nd, h.nm, h.k8⟩
def FamsV (H : Hp) (xs : List V) (fs : List FDat) : Prop := Paired (fun v x => v = V.ref x.r /\ FamD H x) xs fs
theorem FamsV.kf {p : Addr} {H H' : Hp} {xs : List V} {fs : List FDat} (pk : PotOk p H) (h : FamsV H xs fs) (k : KF p H H') : FamsV H' xs fs := Paired.imp' (fun _ _ ⟨e, f⟩ => ⟨e, f.kf pk k⟩) h
theorem FamD.few {H : Hp} {x : FDat} (h : FamD H x) {k : Str} (hk : k ∈ x.ks) : (x.L k).length <= 8 := by
 obtain ⟨a, b⟩ := h.fm.ld k hk
 have := len_sub a b
 have := h.k8
 omega
theorem nm_ne {x : Str} (h : Nm x) : x ≠ "" := fun z => by
 have := h.lo
 rw [z] at this
 exact absurd this (by decide)
section
variable {P : Program} {w : World} {K : Frag} {mg : Str -> Option Value} {base : Heap} {f : Addr} {fd : FuncData}
@[irreducible] def spHo : Sp := fun vs H Q _ => ∃ (p lf d lk : Addr) (xs : List V) (fs : List FDat) (kvs : List (List Key × V)) (due : Bk) (ks ns : List Str) (name : Str), vs = [.ref p, .ref lf, .ref d, .ref lk, .str name] /\ PotOk p H /\ H lf = some (.lst xs) /\ lf ≠ p /\ FamsV H xs fs /\ DueOk H d kvs due ks ns /\ Nms H lk ks /\ (∀ x ∈ fs, ∀ k ∈ ks, k ∈ x.ks) /\ Nm name /\
 ∀ H', KF p H H' -> PotOk p H' -> Q (.bl true) H'
theorem ho_sp {p lf d lk : Addr} {xs : List V} {fs : List FDat} {kvs : List (List Key × V)} {due : Bk} {ks ns : List Str} {name : Str} {H : Hp} {Q : VK} {E : XK} (pk : PotOk p H) (hf : H lf = some (.lst xs)) (nf : lf ≠ p) (fv : FamsV H xs fs) (du : DueOk H d kvs due ks ns) (nk : Nms H lk ks) (sub : ∀ x ∈ fs, ∀ k ∈ ks, k ∈ x.ks) (hn : Nm name)
  (q : ∀ H', KF p H H' -> PotOk p H' -> Q (.bl true) H') : spHo [.ref p, .ref lf, .ref d, .ref lk, .str name] H Q E := by
 unfold spHo; exact ⟨p, lf, d, lk, xs, fs, kvs, due, ks, ns, name, rfl, pk, hf, nf, fv, du, nk, sub, hn, q⟩
abbrev aHo : List Str := ["_law_pot_here", "_law_families", "_law_book_here", "_law_kinds", "_law_name"]
abbrev nHo : List Str := ["_law_pot_here", "_law_families", "_law_book_here", "_law_kinds", "_law_name", "_law_kind", "_law_handed", "_law_lines", "_law_parents_here", "_law_most", "_law_told"]
theorem scHo : FnScope nHo aHo (defScope sHolds) := ⟨rfl, rfl, rfl, by decide +kernel, rfl, by decide +kernel, by decide +kernel⟩
theorem ok_ho {fD fB fT fG fU : Addr} {dD dB dT dG dU : FuncData} (F : Fun K "_law_holds" "_law_holds" sHolds f fd) (B : Blt mg)
  (GD : FnOk P w K mg base CX0 1 fD dD ["_law_pot_here", "_law_many"] spDigit) (kD : keepIn K (.ref fD) = true) (bD : Binds K dD ["_law_pot_here", "_law_many"] []) (mD : mg "_law_digit" = some (.ref fD))
  (GB : FnOk P w K mg base CX0 1 fB dB ["_law_book_here"] spBt) (kB : keepIn K (.ref fB) = true) (bB : Binds K dB ["_law_book_here"] []) (mB : mg "_law_book_tuple" = some (.ref fB))
  (GT : FnOk P w K mg base CX0 1 fT dT ["_law_parents_here"] spFt) (kT : keepIn K (.ref fT) = true) (bT : Binds K dT ["_law_parents_here"] []) (mT : mg "_law_family_tuple" = some (.ref fT))
  (GG : FnOk P w K mg base CX0 8 fG dG aGo spGo) (kG : keepIn K (.ref fG) = true) (bG : Binds K dG aGo []) (mG : mg "_law_gone" = some (.ref fG))
  (GU : FnOk P w K mg base CX0 1 fU dU aDu spDu) (kU : keepIn K (.ref fU) = true) (bU : Binds K dU aDu []) (mU : mg "_law_due" = some (.ref fU)) : FnOk P w K mg base CX0 9 f fd aHo spHo := by
 refine F.ok scHo (fun vs H Q E h => ?_) (fun cdv A outer s H vs Q E hr h => ?_)
 ·unfold spHo at h; obtain ⟨p, lf, d, lk, xs, fs, kvs, due, ks, ns, name, rfl, _⟩ := h; rfl
 ·unfold spHo at h
  obtain ⟨p, lf, d, lk, xs, fs, kvs, due, ks, ns, name, rfl, pk, hf, nf, fv, du, nk, sub, hn, q⟩ := h
  have hu := hr.units
  have hu1 := Nat.lt_of_le_of_lt (Nat.add_le_add_left (show 1 <= 64 by decide) _) hu
  have hr8 : Room 8 _ := hr
  have hr1 : Room 1 _ := hr8.mono (by decide)
  refine ⟨_, pss_cons (ps_set (i := 5) scHo.nd rfl (Or.inl rfl) (pe_ix ix_list (pv 3) (pe_call GD hr1 rfl mD kD bD .nil pass0 (pa_cons (pv 0) (pa_cons (pe_callB call_len_seq rfl B.len boot_len (pa_cons (pv 3) pa_nil)) pa_nil))) (fun _ _ => rfl)))
   (pss_cons (ps_set (i := 6) scHo.nd rfl (Or.inl rfl) (pe_call GB hr1 rfl mB kB bB .nil pass0 (pa_cons (pv 2) pa_nil)))
   (pss_cons (ps_for PassesOwn.never rfl (pi_list (pv 1)) (pg_tup rfl (pgs_cons (pg_name (i := 7) scHo.nd rfl (Or.inl rfl)) (pgs_cons (pg_name (i := 8) scHo.nd rfl (Or.inl rfl)) pgs_nil)))
    (pss_cons (ps_set (i := 9) scHo.nd rfl (Or.inl rfl) (pe_op op_add (pe_callB call_len_seq rfl B.len boot_len (pa_cons (pe_dget hu1 (pv 7) (pv 5) (fun _ _ => rfl)) pa_nil)) pe_int))
    (pss_cons (ps_set (i := 10) scHo.nd rfl (Or.inl rfl) (pe_call GG hr8 rfl mG kG bG .nil pass0 (pa_cons (pe_call GT hr1 rfl mT kT bT .nil pass0 (pa_cons (pv 8) pa_nil)) (pa_cons (pv 6) (pa_cons (pv 5) (pa_cons (pv 4) (pa_cons (pv 9) pa_nil)))))))
    (pss_one (ps_if (pt_cmpR (op_neD hu) (pv 10) (pe_call GU hr1 rfl mU kU bU .nil pass0 (pa_cons (pe_dget hu1 (pv 7) (pv 5) (fun _ _ => rfl)) (pa_cons (pv 2) (pa_cons (pv 4) (pa_cons (pv 9) pa_nil))))) (nomark _)) (pss_one (ps_ret pe_bl)) pss_nil)))))
   (pss_one (ps_ret pe_bl)))), ?_⟩
  have kl : 0 < ks.length := List.length_pos_iff.mpr nk.ne
  have k20 := nk.few
  refine ⟨_, rfl, _, rfl, _, rfl, lk, _, rfl, .inl (SqL.of nk.hl), ?_⟩
  rw [List.length_map]
  refine digit_sp (p := p) (m := (ks.length : Int)) pk (by omega) (by omega) fun ik H1 e0 e1 p1 => ?_
  obtain ⟨jk, rfl⟩ := Int.eq_ofNat_of_zero_le e0
  have hjk : jk < ks.length := by omega
  refine ⟨lk, _, (jk : Int), .str ks[jk], rfl, rfl, SqL.of (nk.pot pk p1).hl, atI_nat (by rw [List.getElem?_map, List.getElem?_eq_getElem hjk]; rfl), ?_⟩
  have hkm : ks[jk] ∈ ks := List.getElem_mem hjk
  generalize ks[jk] = kind at hkm ⊢
  have D1 := du.pot pk p1
  have K1 : KF p H H1 := KF.of fun b u n e => p1.kp _ _ e n
  refine ⟨_, rfl, bt_sp D1.hb D1.dv D1.ok fun tb wb bk H2 S2 htb bv pmk srt => ?_⟩
  have K2 : KF p H H2 := K1.trans (KF.of fun b u _ e => S2 _ _ e)
  have pk2 : PotOk p H2 := let ⟨a, b, e, r⟩ := p1.ok; ⟨a, b, S2 _ _ e, r⟩
  have D2 := D1.same S2
  have okb : BkOk bk := bk_perm pmk du.ok
  have hf2 := K2.st nf hf fun _ z => by cases z
  refine ⟨_, rfl, lf, rfl, ⟨_, SqL.of hf2⟩, for_list (xs := xs) (fun i σ H3 => ∃ (v7 v8 v9 v10 : Option V), σ = [some (.ref p), some (.ref lf), some (.ref d), some (.ref lk), some (.str name), some (.str kind), some (.ref tb), v7, v8, v9, v10] /\ KF p H2 H3 /\ PotOk p H3)
   ⟨none, none, none, none, rfl, KF.of fun b u _ e => e, pk2⟩ (fun i σ H3 _ ⟨_, _, _, _, _, z, _⟩ => SqL.of (z.st nf hf2 fun _ y => by cases y)) ?_ ?_⟩
  ·rintro i v σ H3 hv ⟨v7, v8, v9, v10, rfl, K3, pk3⟩
   have K03 := K2.trans K3
   obtain ⟨x, hx, rfl, fd⟩ := L2.Paired.get (fv.kf pk K03) hv
   have hxm : x ∈ fs := List.mem_of_getElem? hx
   have hkx := sub x hxm kind hkm
   obtain ⟨la, ea, ha⟩ := fd.l1 kind hkx
   have hL := fd.few hkx
   refine ⟨x.r, _, rfl, SqT.of fd.hr, rfl, _, _, rfl, _, _, rfl, rfl, ?_⟩
   refine ⟨_, rfl, _, rfl, x.d1, .ref la, rfl, .inl ⟨x.kvs1, Sum.inr kind, fd.h1, rfl, ea.symm⟩, la, _, rfl, .inl (SqL.of ha), _, _, rfl, rfl, ?_⟩
   rw [List.length_map]
   refine ⟨_, rfl, ft_sp fd.h2 fd.k2 fd.nd fd.k8 fd.l2 fun t o ws fam H4 fz ht4 ho4 fv4 pm4 => ?_⟩
   have K4 : KF p H3 H4 := fun b u _ e => fz b u e
   have pk4 : PotOk p H4 := by
    obtain ⟨a, b, e, r⟩ := pk3
    rcases fz _ _ e with z | ⟨_, _, z, _⟩
    ·exact ⟨a, b, z, r⟩
    ·cases z
   have fd4 := fd.kf pk3 K4
   have K24 := K3.trans K4
   have tup4 := kf_tup pk2 K24
   have fb4 : FB H4 t tb o ws wb fam x.L bk := ⟨ht4, ho4, fv4, (fd.fm.famOk fd.nd fd.nm fd.k8).perm pm4, tup4 _ _ htb, BookV.keep tup4 bv okb.ent, okb⟩
   have hkf : kind ∈ fam.map (·.1) := List.mem_map.mpr ⟨(kind, x.Ps kind), pm4.mem_iff.mpr (List.mem_map.mpr ⟨kind, hkx, rfl⟩), rfl⟩
   refine ⟨_, rfl, _, rfl, _, rfl, _, rfl, go_sp (m := (x.L kind).length + 2) fb4 hkf hn (by omega) fun r ys H5 S5 h5 O5 => ?_⟩
   have fd5 := fd4.same S5
   obtain ⟨lc, ec, hc⟩ := fd5.l1 kind hkx
   have K25 : KF p H2 H5 := K24.trans (KF.of fun b u _ e => S5 _ _ e)
   have tup5 := kf_tup pk2 K25
   have hd5 : H5 d = some (.dT kvs) := K25.st (by obtain ⟨a, b, e, _⟩ := pk2; exact ne_of D2.hb e (by intro z; cases z)) D2.hb fun _ z => by cases z
   refine ⟨_, rfl, _, rfl, _, rfl, x.d1, .ref lc, rfl, .inl ⟨x.kvs1, Sum.inr kind, fd5.h1, rfl, ec.symm⟩, _, rfl, _, rfl, _, rfl, du_sp (m := (x.L kind).length + 2) hc (by omega) hd5 (D2.dv.keep tup5 du.ok.ent) du.ok (by omega) (by omega) fun r2 y2 H6 S6 h6 O6 => ?_⟩
   have eg : goneL bk (x.L kind) name ((x.L kind).length + 2) = dueL due (x.L kind) name ((x.L kind).length + 2) := by
    rw [gone_due (fd.fm.ld kind hkx).1 (fun y hy => nm_ne (fd.nm y ((fd.fm.ld kind hkx).2 y hy))) (by omega)]
    unfold dueL
    rw [hits_perm pmk du.ok.nd]
   have ok5 := goneL_ok (line := x.L kind) (n := name) okb ((x.L kind).length + 2)
   rw [<- eg] at O6
   obtain ⟨y1, y2⟩ := outs_lay ok5
   refine ⟨_, _, .lst (S6 _ _ h5) (O5.keep (fun b xs e => S6 _ _ e) ok5).rep, .lst h6 O6.rep, y1, y1, by show PyData.depthAll _ + 1 <= 60; omega, _, rfl, ?_⟩
   rw [PySem.SeqAt.eqv_refl (.list _) y1]
   exact ⟨_, _, _, _, rfl, K25.trans (KF.of fun b u _ e => S6 _ _ e), let ⟨a, b, e, r⟩ := pk4; ⟨a, b, S6 _ _ (S5 _ _ e), r⟩⟩
  ·rintro σ H3 ⟨v7, v8, v9, v10, rfl, K3, pk3⟩
   exact q H3 (K2.trans K3) pk3
end
end K35
namespace K35
open PySem L2 PySem.W HT
theorem len_subG {α : Type} [DecidableEq α] : ∀ {a b : List α}, a.Nodup -> (∀ x ∈ a, x ∈ b) -> a.length <= b.length
 | [], _, _, _ => Nat.zero_le _
 | x :: a, b, nd, h => by
  rw [List.nodup_cons] at nd
  have hx := h x List.mem_cons_self
  have := len_subG (b := b.erase x) nd.2 fun y hy => (List.mem_erase_of_ne (show y ≠ x from fun z => nd.1 (by rw [<- z]; exact hy))).mpr (h y (List.mem_cons_of_mem _ hy))
  rw [List.length_erase_of_mem hx] at this
  have : 0 < b.length := List.length_pos_of_mem hx
  rw [List.length_cons]; omega
theorem room_for {due : Bk} {k n : Str} {ks ns : List Str} (ok : BkOk due) (sub : ∀ q ∈ due, q.1 ∈ ks /\ q.2.1 ∈ ns) (hk : k ∈ ks) (hn : n ∈ ns) (k8 : ks.length <= 8) (n6 : ns.length <= 6) : (woN due k n).length <= 47 := by
 have w := woN_ok ok k n
 have nd : ([k, n] :: (woN due k n).map bkKey).Nodup := List.nodup_cons.mpr ⟨woN_not, w.nd⟩
 have := len_subG (b := ks.flatMap fun a => ns.map fun b => [a, b]) nd fun x hx => by
  rw [List.mem_flatMap]
  rcases List.mem_cons.mp hx with z | z
  ·exact ⟨k, hk, List.mem_map.mpr ⟨n, hn, z.symm⟩⟩
  ·obtain ⟨q, hq, rfl⟩ := List.mem_map.mp z
   obtain ⟨h1, h2⟩ := sub q (List.mem_filter.mp hq).1
   exact ⟨q.1, h1, List.mem_map.mpr ⟨q.2.1, h2, rfl⟩⟩
 rw [List.length_cons, List.length_map, List.length_flatMap] at this
 have e : (ks.map fun a => (ns.map fun b => [a, b]).length).sum = ks.length * ns.length := by
  have : (ks.map fun a => (ns.map fun b => ([a, b] : List Str)).length) = ks.map fun _ => ns.length := List.map_congr_left fun a _ => by rw [List.length_map]
  rw [this, List.map_const', List.sum_replicate_nat]
 rw [e] at this
 have : ks.length * ns.length <= 8 * 6 := Nat.mul_le_mul k8 n6
 omega
theorem cat_perm (ks : List Str) (i : Nat) : ((ks.drop i).reverse ++ ks.take i).Perm ks := by
 refine ((List.reverse_perm _).append_right _).trans ?_
 refine List.perm_append_comm.trans ?_
 rw [List.take_append_drop]
theorem via1 {G : Prop} {Cond C : Hp -> Prop} (h1 : (∀ H6, Cond H6 -> C H6) -> G) (h2 : ∀ H6, Cond H6 -> C H6) : G := h1 h2
theorem KF.pot {d p : Addr} {G H H' : Hp} (h : KF d G H) (np : ∀ b u, G b = some u -> b ≠ p) (k : KF p H H') : KF d G H' := fun b u n e => by
 rcases h b u n e with z | ⟨kvs, o, rfl, z⟩
 ·exact k b u (np b u e) z
 ·exact .inr ⟨kvs, o, rfl, k.st (np b _ e) z fun _ y => by cases y⟩
theorem KF.put {d : Addr} {G H : Hp} {o : HO} (h : KF d G H) : KF d G (upd H d o) := fun b u n e => by
 rw [upd_ne n]; exact h b u n e
theorem DueOk.kf {p d : Addr} {H H' : Hp} {kvs : List (List Key × V)} {due : Bk} {ks ns : List Str} (h : DueOk H d kvs due ks ns) (pk : PotOk p H) (k : KF p H H') : DueOk H' d kvs due ks ns := by
 obtain ⟨x, y, e0, _⟩ := id pk
 exact ⟨k.st (ne_of h.hb e0 (by intro z; cases z)) h.hb (fun _ z => by cases z), h.dv.keep (kf_tup pk k) h.ok.ent, h.ok, h.sub⟩
theorem FamD.kfd {d : Addr} {H H' : Hp} {x : FDat} {kvs : List (List Key × V)} (hd : H d = some (.dT kvs)) (h : FamD H x) (k : KF d H H') : FamD H' x := by
 have rdp : ∀ {b : Addr} {kvs : List (Key × V)}, Rd H b (.dK kvs) -> b ≠ d := fun e => by
  rcases e with e | ⟨o, e⟩
  ·exact ne_of e hd (by intro z; cases z)
  ·exact ne_of e hd (by intro z; cases z)
 exact ⟨k.st (ne_of h.hr hd (by intro z; cases z)) h.hr (fun _ z => by cases z), k.rd (rdp h.h1) h.h1, k.rd (rdp h.h2) h.h2, h.k2, fun y hy => let ⟨a, e1, e2⟩ := h.l1 y hy; ⟨a, e1, k.st (ne_of e2 hd (by intro z; cases z)) e2 fun _ z => by cases z⟩, fun y hy => let ⟨a, e1, e2⟩ := h.l2 y hy; ⟨a, e1, k.st (ne_of e2 hd (by intro z; cases z)) e2 fun _ z => by cases z⟩, h.fm, h.nd, h.nm, h.k8⟩
structure LB (K : Frag) (H : Hp) (a lk ln lf : Addr) (sc : List Int) (ks ns : List Str) (xs : List V) (fs : List FDat) : Prop where
 sc : SqL K H a (sc.map V.int)
 nk : Nms H lk ks
 nn : Nms H ln ns
 hf : H lf = some (.lst xs)
 fv : FamsV H xs fs
theorem LB.kfd {K : Frag} {H H' : Hp} {a lk ln lf d : Addr} {sc : List Int} {ks ns : List Str} {xs : List V} {fs : List FDat} {kvs : List (List Key × V)} (h : LB K H a lk ln lf sc ks ns xs fs) (hd : H d = some (.dT kvs)) (k : KF d H H') : LB K H' a lk ln lf sc ks ns xs fs := by
 refine ⟨?_, ⟨k.st (ne_of h.nk.hl hd (by intro z; cases z)) h.nk.hl (fun _ z => by cases z), h.nk.ne, h.nk.few, h.nk.nm⟩, ⟨k.st (ne_of h.nn.hl hd (by intro z; cases z)) h.nn.hl (fun _ z => by cases z), h.nn.ne, h.nn.few, h.nn.nm⟩, k.st (ne_of h.hf hd (by intro z; cases z)) h.hf (fun _ z => by cases z), Paired.imp' (fun _ _ ⟨e, f⟩ => ⟨e, f.kfd hd k⟩) h.fv⟩
 rcases h.sc with (e | ⟨o, e⟩) | e
 ·exact .inl (.inl (k.st (ne_of e hd (by intro z; cases z)) e fun _ z => by cases z))
 ·exact .inl (.inr ⟨o, k.st (ne_of e hd (by intro z; cases z)) e fun _ z => by cases z⟩)
 ·exact .inr e
section
variable {P : Program} {w : World} {K : Frag} {mg : Str -> Option Value} {base : Heap} {f : Addr} {fd : FuncData}
theorem pot_sp {a : Addr} {ns : List Int} {k : Int} {H : Hp} {Q : VK} {E : XK} (h : SqL K H a (ns.map V.int)) (k0 : 0 <= k) (k1 : k <= 100) (hl : ns.length <= 63) (q : ∀ p H', H p = none -> PotOk p H' -> Same H H' -> Q (.ref p) H') : spPot K [.ref a, .int k] H Q E := by
 unfold spPot
 exact ⟨a, ns, k, rfl, h, k0, k1, hl, fun p x y hp x0 y0 y1 => q p _ hp ⟨x, y, upd_same, x0, y0, y1⟩ (same_new hp)⟩
theorem names_sp {p : Addr} {m : Nat} {H : Hp} {Q : VK} {E : XK} (h : PotOk p H) (hm : m <= 20) (q : ∀ (l : Addr) (ys : List Str) (H' : Hp), H l = none -> ys.length = m -> (∀ y ∈ ys, Nm y) -> ys.Nodup -> PotAt p H H' -> H' l = some (.lst (ys.map V.str)) -> Q (.ref l) H') : spNames [.ref p, .int m] H Q E := by
 unfold spNames; exact ⟨p, m, rfl, h, hm, q⟩
theorem sqL_same {H H' : Hp} {a : Addr} {xs : List V} (h : SqL K H a xs) (s : Same H H') : SqL K H' a xs := by
 rcases h with (h | ⟨o, h⟩) | h
 ·exact .inl (.inl (s _ _ h))
 ·exact .inl (.inr ⟨o, s _ _ h⟩)
 ·exact .inr h
@[irreducible] def spLaw (K : Frag) : Sp := fun vs H Q _ => ∃ (a : Addr) (ns : List Int), vs = [.ref a] /\ SqL K H a (ns.map V.int) /\ ns.length <= 63 /\ ∀ H', Q (.bl true) H'
abbrev nLaw : List Str := ["_law_script", "_law_pot_here", "_law_kinds", "_law_names_here", "_law_turn", "_law_families", "_law_book_here", "_law_k", "_law_at", "_law_key"]
theorem scLaw : FnScope nLaw ["_law_script"] (defScope sLaw) := ⟨rfl, rfl, rfl, by decide +kernel, rfl, by decide +kernel, by decide +kernel⟩
theorem ok_law {fP fD fN fF fK fE fH : Addr} {dP dD dN dF dK' dE dH : FuncData} (F : Fun K "law" "law" sLaw f fd) (B : Blt mg)
  (GP : FnOk P w K mg base CX0 1 fP dP ["_law_script", "_law_k"] (spPot K)) (kP : keepIn K (.ref fP) = true) (bP : Binds K dP ["_law_script", "_law_k"] []) (mP : mg "_law_pot" = some (.ref fP))
  (GD : FnOk P w K mg base CX0 1 fD dD ["_law_pot_here", "_law_many"] spDigit) (kD : keepIn K (.ref fD) = true) (bD : Binds K dD ["_law_pot_here", "_law_many"] []) (mD : mg "_law_digit" = some (.ref fD))
  (GN : FnOk P w K mg base CX0 3 fN dN ["_law_pot_here", "_law_many"] spNames) (kN : keepIn K (.ref fN) = true) (bN : Binds K dN ["_law_pot_here", "_law_many"] []) (mN : mg "_law_names" = some (.ref fN))
  (GF : FnOk P w K mg base CX0 3 fF dF ["_law_pot_here", "_law_kinds"] spFm) (kF : keepIn K (.ref fF) = true) (bF : Binds K dF ["_law_pot_here", "_law_kinds"] []) (mF : mg "_law_family" = some (.ref fF))
  (GK : FnOk P w K mg base CX0 5 fK dK' aBook spBook) (kK : keepIn K (.ref fK) = true) (bK : Binds K dK' aBook []) (mK : mg "_law_book" = some (.ref fK))
  (GE : FnOk P w K mg base CX0 4 fE dE ["_law_pot_here", "_law_names_here", "_law_at"] spEnt) (kE : keepIn K (.ref fE) = true) (bE : Binds K dE ["_law_pot_here", "_law_names_here", "_law_at"] []) (mE : mg "_law_entry" = some (.ref fE))
  (GH : FnOk P w K mg base CX0 9 fH dH aHo spHo) (kH : keepIn K (.ref fH) = true) (bH : Binds K dH aHo []) (mH : mg "_law_holds" = some (.ref fH)) :
  FnOk P w K mg base CX0 10 f fd ["_law_script"] (spLaw K) := by
 refine F.ok scLaw (fun vs H Q E h => ?_) (fun cdv A outer s H vs Q E hr h => ?_)
 ·unfold spLaw at h; obtain ⟨a, ns, rfl, _⟩ := h; rfl
 ·unfold spLaw at h
  obtain ⟨a, sc, rfl, hS, hns, q⟩ := h
  have hu := hr.units
  have hu1 := Nat.lt_of_le_of_lt (Nat.add_le_add_left (show 1 <= 64 by decide) _) hu
  have hr9 : Room 9 _ := hr
  have hr5 : Room 5 _ := hr9.mono (by decide)
  have hr4 : Room 4 _ := hr9.mono (by decide)
  have hr3 : Room 3 _ := hr9.mono (by decide)
  have hr1 : Room 1 _ := hr9.mono (by decide)
  refine ⟨_, pss_cons (ps_set (i := 1) scLaw.nd rfl (Or.inl rfl) (pe_call GP hr1 rfl mP kP bP .nil pass0 (pa_cons (pv 0) (pa_cons pe_int pa_nil))))
   (pss_cons (ps_set (i := 2) scLaw.nd rfl (Or.inl rfl) (pe_call GN hr3 rfl mN kN bN .nil pass0 (pa_cons (pv 1) (pa_cons (pe_op op_add pe_int (pe_call GD hr1 rfl mD kD bD .nil pass0 (pa_cons (pv 1) (pa_cons pe_int pa_nil)))) pa_nil))))
   (pss_cons (ps_set (i := 3) scLaw.nd rfl (Or.inl rfl) (pe_call GN hr3 rfl mN kN bN .nil pass0 (pa_cons (pv 1) (pa_cons (pe_op op_add pe_int (pe_call GD hr1 rfl mD kD bD .nil pass0 (pa_cons (pv 1) (pa_cons pe_int pa_nil)))) pa_nil))))
   (pss_cons (ps_set (i := 4) scLaw.nd rfl (Or.inl rfl) (pe_call GD hr1 rfl mD kD bD .nil pass0 (pa_cons (pv 1) (pa_cons (pe_callB call_len_seq rfl B.len boot_len (pa_cons (pv 2) pa_nil)) pa_nil))))
   (pss_cons (ps_set (i := 5) scLaw.nd rfl (Or.inl rfl) (pe_lst (pa_cons (pe_call GF hr3 rfl mF kF bF .nil pass0 (pa_cons (pv 1) (pa_cons (pv 2) pa_nil))) (pa_cons (pe_call GF hr3 rfl mF kF bF .nil pass0 (pa_cons (pv 1) (pa_cons (pe_op op_cat (pe_rev (pe_slice sl_list (pv 2) (po_some (pv 4)) po_none)) (pe_slice sl_list (pv 2) po_none (po_some (pv 4)))) pa_nil))) pa_nil))))
   (pss_cons (ps_set (i := 6) scLaw.nd rfl (Or.inl rfl) (pe_call GK hr5 rfl mK kK bK .nil pass0 (pa_cons (pv 1) (pa_cons (pv 2) (pa_cons (pv 3) pa_nil)))))
   (pss_cons (ps_for PassesOwn.never rfl (pi_range2 rfl B.range (pa_cons pe_int (pa_cons (pe_op op_add (pe_callB (call_min2 rfl) rfl B.min boot_min (pa_cons (pe_callB call_len_seq rfl B.len boot_len (pa_cons (pv 0) pa_nil)) (pa_cons pe_int pa_nil))) pe_int) pa_nil))) (pg_name (i := 7) scLaw.nd rfl (Or.inl rfl))
    (pss_cons (ps_set (i := 1) scLaw.nd rfl (Or.inl rfl) (pe_call GP hr1 rfl mP kP bP .nil pass0 (pa_cons (pv 0) (pa_cons (pv 7) pa_nil))))
    (pss_cons (ps_set (i := 8) scLaw.nd rfl (Or.inl rfl) (pe_call GD hr1 rfl mD kD bD .nil pass0 (pa_cons (pv 1) (pa_cons (pe_callB call_len_seq rfl B.len boot_len (pa_cons (pv 3) pa_nil)) pa_nil))))
    (pss_cons (ps_if (pt_not (pt_val (pe_call GH hr9 rfl mH kH bH .nil pass0 (pa_cons (pv 1) (pa_cons (pv 5) (pa_cons (pv 6) (pa_cons (pv 2) (pa_cons (pe_ix ix_list (pv 3) (pv 8) (fun _ _ => rfl)) pa_nil)))))))) (pss_one (ps_ret pe_bl)) pss_nil)
    (pss_cons (ps_set (i := 9) scLaw.nd rfl (Or.inl rfl) (pe_tup (pa_cons (pe_ix ix_list (pv 2) (pe_call GD hr1 rfl mD kD bD .nil pass0 (pa_cons (pv 1) (pa_cons (pe_callB call_len_seq rfl B.len boot_len (pa_cons (pv 2) pa_nil)) pa_nil))) (fun _ _ => rfl)) (pa_cons (pe_ix ix_list (pv 3) (pv 8) (fun _ _ => rfl)) pa_nil))))
    (pss_cons (ps_if (pt_cmp (pc_din hu1 (pv 9) (pv 6)))
      (pss_one (ps_expr (pe_bm PySem.F.plainAttrs_dict PySem.F.slot_dict_pop PySem.F.type_dict_pop (mt_popT hu1) (pv 6) (pa_cons (pv 9) pa_nil))))
      (pss_one (ps_dput hu1 (pv 6) (pv 9) (pe_call GE hr4 rfl mE kE bE .nil pass0 (pa_cons (pv 1) (pa_cons (pv 3) (pa_cons (pv 8) pa_nil)))) rfl)))
    (pss_one (ps_if (pt_not (pt_val (pe_call GH hr9 rfl mH kH bH .nil pass0 (pa_cons (pv 1) (pa_cons (pv 5) (pa_cons (pv 6) (pa_cons (pv 2) (pa_cons (pe_ix ix_list (pv 3) (pv 8) (fun _ _ => rfl)) pa_nil)))))))) (pss_one (ps_ret pe_bl)) pss_nil)))))))) 
   (pss_one (ps_ret pe_bl)))))))), ?_⟩
  refine ⟨_, rfl, pot_sp (k := 0) hS (by decide) (by decide) hns fun p H1 hp pk S1 => ?_⟩
  refine ⟨_, rfl, _, rfl, digit_sp (p := p) (m := 8) pk (by decide) (by decide) fun dk H2 a0 a1 p2 => ?_⟩
  obtain ⟨mk, rfl⟩ := Int.eq_ofNat_of_zero_le a0
  refine ⟨1, (mk : Int), rfl, rfl, names_sp (m := 1 + mk) p2.ok (by omega) fun lk ks H3 hlk kl knm knd p3 h3 => ?_⟩
  have P3 := p2.trans p3
  refine ⟨_, rfl, _, rfl, digit_sp (p := p) (m := 6) P3.ok (by decide) (by decide) fun dn H4 b0 b1 p4 => ?_⟩
  obtain ⟨mn, rfl⟩ := Int.eq_ofNat_of_zero_le b0
  have P4 := P3.trans p4
  refine ⟨1, (mn : Int), rfl, rfl, names_sp (m := 1 + mn) P4.ok (by omega) fun ln ns H5 hln nl nnm nnd p5 h5 => ?_⟩
  have P5 := P4.trans p5
  have nlk : lk ≠ p := strs_pot P3.ok h3
  have hlk5 := p5.kp _ _ (p4.kp _ _ h3 nlk) nlk
  refine ⟨_, rfl, _, rfl, lk, _, rfl, .inl (SqL.of hlk5), ?_⟩
  rw [List.length_map]
  refine digit_sp (p := p) (m := (ks.length : Int)) P5.ok (by omega) (by omega) fun dt H6 c0 c1 p6 => ?_
  obtain ⟨tn, rfl⟩ := Int.eq_ofNat_of_zero_le c0
  have P6 := P5.trans p6
  have nln : ln ≠ p := strs_pot P5.ok h5
  have hlk6 := p6.kp _ _ hlk5 nlk
  have hln6 := p6.kp _ _ h5 nln
  refine ⟨_, rfl, _, rfl, fm_sp P6.ok hlk6 knd knm (by omega) fun r1 d1 d2 kvs1 kvs2 L Ps H7 fm => ?_⟩
  have P7 := P6.trans fm.pa
  have hlk7 := fm.pa.kp _ _ hlk6 nlk
  have hln7 := fm.pa.kp _ _ hln6 nln
  refine ⟨_, rfl, _, rfl, _, rfl, _, rfl, lk, _, rfl, SqL.of hlk7, fun e1 he1 => ?_⟩
  rw [cut_from, <- List.map_drop]
  have S8 := same_new (o := .lst ((ks.drop tn).map V.str)) he1
  have P8 := P7.new (o := .lst ((ks.drop tn).map V.str)) he1
  have he18 : upd H7 e1 (.lst ((ks.drop tn).map V.str)) e1 = some (.lst ((ks.drop tn).map V.str)) := upd_same
  generalize upd H7 e1 (.lst ((ks.drop tn).map V.str)) = H8 at S8 P8 he18 ⊢
  refine ⟨e1, _, rfl, SqL.of he18, fun e2 he2 => ?_⟩
  rw [<- List.map_reverse]
  have S9 := S8.trans (same_new (o := .lst ((ks.drop tn).reverse.map V.str)) he2)
  have P9 := P8.new (o := .lst ((ks.drop tn).reverse.map V.str)) he2
  have he29 : upd H8 e2 (.lst ((ks.drop tn).reverse.map V.str)) e2 = some (.lst ((ks.drop tn).reverse.map V.str)) := upd_same
  generalize upd H8 e2 (.lst ((ks.drop tn).reverse.map V.str)) = H9 at S9 P9 he29 ⊢
  refine ⟨_, rfl, _, rfl, _, rfl, lk, _, rfl, SqL.of (S9 _ _ hlk7), fun e3 he3 => ?_⟩
  rw [cut_to, <- List.map_take]
  have SA := S9.trans (same_new (o := .lst ((ks.take tn).map V.str)) he3)
  have PA := P9.new (o := .lst ((ks.take tn).map V.str)) he3
  have he3A : upd H9 e3 (.lst ((ks.take tn).map V.str)) e3 = some (.lst ((ks.take tn).map V.str)) := upd_same
  have he2A := (same_new (o := .lst ((ks.take tn).map V.str)) he3) _ _ he29
  generalize upd H9 e3 (.lst ((ks.take tn).map V.str)) = HA at SA PA he3A he2A ⊢
  refine ⟨e2, e3, _, _, rfl, rfl, he2A, he3A, by rw [List.length_map, List.length_map, List.length_reverse, List.length_drop, List.length_take, sizeLine_eq]; omega, fun e4 he4 => ?_⟩
  rw [<- List.map_append]
  have pks := cat_perm ks tn
  obtain ⟨k2, hk2⟩ : ∃ k2, (ks.drop tn).reverse ++ ks.take tn = k2 := ⟨_, rfl⟩
  rw [hk2] at pks ⊢
  have SB := SA.trans (same_new (o := .lst (k2.map V.str)) he4)
  have PB := PA.new (o := .lst (k2.map V.str)) he4
  have he4B : upd HA e4 (.lst (k2.map V.str)) e4 = some (.lst (k2.map V.str)) := upd_same
  generalize upd HA e4 (.lst (k2.map V.str)) = HB at SB PB he4B ⊢
  have k2nd : k2.Nodup := pks.nodup_iff.mpr knd
  have k2nm : ∀ x ∈ k2, Nm x := fun x hx => knm x (pks.mem_iff.mp hx)
  have k2l : k2.length <= 8 := by rw [pks.length_eq]; omega
  refine fm_sp PB.ok he4B k2nd k2nm k2l fun r2 g1 g2 kvt1 kvt2 L2' Ps2 HC fn => ?_
  have PC := PB.trans fn.pa
  refine ⟨by show 2 <= sizeLine; rw [sizeLine_eq]; decide, fun lf hlf => ?_⟩
  have SD := same_new (o := .lst [V.ref r1, V.ref r2]) hlf
  have PD := PC.new (o := .lst [V.ref r1, V.ref r2]) hlf
  have hlfD : upd HC lf (.lst [V.ref r1, V.ref r2]) lf = some (.lst [V.ref r1, V.ref r2]) := upd_same
  generalize upd HC lf (.lst [V.ref r1, V.ref r2]) = HD at SD PD hlfD ⊢
  have f1 : FamD H7 ⟨r1, d1, d2, kvs1, kvs2, ks, L, Ps⟩ := ⟨fm.hr, .inl fm.h1, .inl fm.h2, fm.k2, fm.l1, fm.l2, fm.fm, knd, knm, by show ks.length <= 8; omega⟩
  have f2 : FamD HC ⟨r2, g1, g2, kvt1, kvt2, k2, L2', Ps2⟩ := ⟨fn.hr, .inl fn.h1, .inl fn.h2, fn.k2, fn.l1, fn.l2, fn.fm, k2nd, k2nm, k2l⟩
  have f1D : FamD HD ⟨r1, d1, d2, kvs1, kvs2, ks, L, Ps⟩ := ((f1.same SB).kf PB.ok (KF.of fun b u n e => fn.pa.kp _ _ e n)).same SD
  have hlkD : HD lk = some (.lst (ks.map V.str)) := SD _ _ (fn.pa.kp _ _ (SB _ _ hlk7) nlk)
  have hlnD : HD ln = some (.lst (ns.map V.str)) := SD _ _ (fn.pa.kp _ _ (SB _ _ hln7) nln)
  have nlf : lf ≠ p := fun z => by
   obtain ⟨x1, x2, x3, _⟩ := PD.ok
   rw [z, x3] at hlfD; cases hlfD
  refine ⟨_, rfl, _, rfl, _, rfl, book_sp (p := p) PD.ok ⟨hlkD, fun z => by rw [z, List.length_nil] at kl; omega, by omega, knm⟩ ⟨hlnD, fun z => by rw [z, List.length_nil] at nl; omega, by omega, nnm⟩ fun d kvs due HE hdD pE DE => ?_⟩
  have KE : KF p HD HE := KF.of fun b u n e => pE.kp _ _ e n
  have keepH : Same H HE := fun b u e => by
   have n := ne_of_none e hp
   exact pE.kp _ _ (PD.kp _ _ (S1 _ _ e) n) n
  have fs2 : ∀ x ∈ ([⟨r1, d1, d2, kvs1, kvs2, ks, L, Ps⟩, ⟨r2, g1, g2, kvt1, kvt2, k2, L2', Ps2⟩] : List FDat), ∀ k ∈ ks, k ∈ x.ks := fun x hx k hk => by
   rcases List.mem_cons.mp hx with z | z
   ·rw [z]; exact hk
   ·rw [List.mem_singleton.mp z]; exact pks.mem_iff.mpr hk
  have lb0 : LB K HE a lk ln lf sc ks ns [V.ref r1, V.ref r2] [⟨r1, d1, d2, kvs1, kvs2, ks, L, Ps⟩, ⟨r2, g1, g2, kvt1, kvt2, k2, L2', Ps2⟩] :=
   ⟨sqL_same hS keepH, ⟨pE.kp _ _ hlkD nlk, fun z => by rw [z, List.length_nil] at kl; omega, by omega, knm⟩, ⟨pE.kp _ _ hlnD nln, fun z => by rw [z, List.length_nil] at nl; omega, by omega, nnm⟩, pE.kp _ _ hlfD nlf, .cons ⟨rfl, f1D.kf PD.ok KE⟩ (.cons ⟨rfl, (f2.same SD).kf PD.ok KE⟩ .nil)⟩
  generalize ([⟨r1, d1, d2, kvs1, kvs2, ks, L, Ps⟩, ⟨r2, g1, g2, kvt1, kvt2, k2, L2', Ps2⟩] : List FDat) = fs at lb0 fs2
  generalize ([V.ref r1, V.ref r2] : List V) = xs at lb0
  have ln6 : ns.length <= 6 := by omega
  have lk8 : ks.length <= 8 := by omega
  clear f1 f2 f1D fm fn
  refine ⟨_, rfl, a, _, rfl, .inl lb0.sc, _, _, rfl, _, _, rfl, rfl, _, _, rfl, ?_, for_range (fun i σ G1 => ∃ (kvs : List (List Key × V)) (due : Bk) (v1 v7 v8 v9 : Option V), σ = [some (.ref a), v1, some (.ref lk), some (.ref ln), some (.int tn), some (.ref lf), some (.ref d), v7, v8, v9] /\ LB K G1 a lk ln lf sc ks ns xs fs /\ DueOk G1 d kvs due ks ns)
   ⟨kvs, due, _, none, none, none, rfl, lb0, DE⟩ ?_ ?_⟩
  ·refine ⟨by decide, by decide, ?_, ?_⟩ <;> (rw [List.length_map]; split <;> omega)
  ·clear DE lb0 KE keepH
   rintro i σ G1 hi ⟨kvs, due, v1, v7, v8, v9, rfl, l1, D1⟩
   have hi9 : i < 9 := by
    refine Nat.lt_of_lt_of_le hi ?_
    rw [List.length_map]; split <;> omega
   refine ⟨_, rfl, _, rfl, pot_sp l1.sc (by omega) (by omega) hns fun pp G2 hpp pkk T2 => ?_⟩
   have old : ∀ {b : Addr} {u : HO}, G1 b = some u -> b ≠ pp := fun e => ne_of_none e hpp
   have l2 : LB K G2 a lk ln lf sc ks ns xs fs := l1.kfd D1.hb (KF.of fun b u _ e => T2 _ _ e)
   have D2 := D1.same T2
   refine ⟨_, rfl, _, rfl, ln, _, rfl, .inl (SqL.of l2.nn.hl), ?_⟩
   rw [List.length_map]
   refine digit_sp (p := pp) (m := (ns.length : Int)) pkk (by omega) (by omega) fun ia G3 e0 e1 q3 => ?_
   obtain ⟨ja, rfl⟩ := Int.eq_ofNat_of_zero_le e0
   have hja : ja < ns.length := by omega
   have T3 : Same G1 G3 := fun b u e => q3.kp _ _ (T2 _ _ e) (old e)
   have l3 : LB K G3 a lk ln lf sc ks ns xs fs := l1.kfd D1.hb (KF.of fun b u _ e => T3 _ _ e)
   have D3 := D1.same T3
   have at3 : ∀ {ns' : List V}, ns' = ns.map V.str -> atI ns' (ja : Int) = some (V.str ns[ja]) := fun z => by rw [z]; exact atI_nat (by rw [List.getElem?_map, List.getElem?_eq_getElem hja]; rfl)
   have hnm : ns[ja] ∈ ns := List.getElem_mem hja
   generalize ns[ja] = name at at3 hnm
   refine ⟨_, rfl, _, rfl, _, rfl, _, rfl, _, rfl, _, rfl, ln, _, (ja : Int), .str name, rfl, rfl, SqL.of l3.nn.hl, at3 rfl, ho_sp (p := pp) q3.ok l3.hf (old l1.hf) l3.fv D3 l3.nk fs2 (nnm _ hnm) fun G4 K4 pk4 => ⟨true, rfl, ?_⟩⟩
   have F4 : KF d G1 G4 := fun b u _ e => K4 b u (old e) (T3 _ _ e)
   have l4 := l1.kfd D1.hb F4
   have D4 := D3.kf q3.ok K4
   refine ⟨_, rfl, _, rfl, _, rfl, lk, _, rfl, .inl (SqL.of l4.nk.hl), ?_⟩
   rw [List.length_map]
   refine digit_sp (p := pp) (m := (ks.length : Int)) pk4 (by omega) (by omega) fun ik G5 g0 g1' q5 => ?_
   obtain ⟨jk, rfl⟩ := Int.eq_ofNat_of_zero_le g0
   have hjk : jk < ks.length := by omega
   have np : ∀ b u, G1 b = some u -> b ≠ pp := fun b u e => old e
   have F5 := F4.pot np (KF.of fun b u n e => q5.kp _ _ e n)
   have l5 := l1.kfd D1.hb F5
   have D5 := D4.pot pk4 q5
   refine ⟨lk, _, (jk : Int), .str ks[jk], rfl, rfl, SqL.of l5.nk.hl, atI_nat (by rw [List.getElem?_map, List.getElem?_eq_getElem hjk]; rfl), ?_⟩
   have hkm : ks[jk] ∈ ks := List.getElem_mem hjk
   generalize ks[jk] = kind at hkm ⊢
   refine ⟨_, rfl, _, rfl, ln, _, (ja : Int), .str name, rfl, rfl, SqL.of l5.nn.hl, at3 rfl, by show 2 <= sizeLine; rw [sizeLine_eq]; decide, fun kt hkt => ?_⟩
   have S6 := same_new (o := .tup [V.str kind, V.str name]) hkt
   have hk6 : upd G5 kt (.tup [V.str kind, V.str name]) kt = some (.tup (([Sum.inr kind, Sum.inr name] : List Key).map kV)) := upd_same
   have D6 := D5.same S6
   have F6 := F5.pot np (KF.of fun b u _ e => S6 _ _ e)
   have pk6 := (q5.new (o := .tup [V.str kind, V.str name]) hkt).ok
   generalize upd G5 kt (.tup [V.str kind, V.str name]) = G6 at S6 hk6 D6 F6 pk6 ⊢
   have l6 := l1.kfd D1.hb F6
   have ndp : d ≠ pp := old D1.hb
   refine ⟨_, rfl, _, rfl, d, _, rfl, DGet.t (k := [Sum.inr kind, Sum.inr name]) D6.hb hk6, _, rfl, ?_⟩
   apply via1 (Cond := fun G7 => KF d G1 G7 /\ PotOk pp G7 /\ ∃ kvs' due', DueOk G7 d kvs' due' ks ns)
   ·intro k
    rcases D6.dv.val (k := kind) (n := name) with ⟨z1, z2⟩ | ⟨v0, d0, z1, z2, z3⟩
    ·rw [z1]
     refine ⟨_, rfl, _, rfl, _, rfl, ent_sp (p := pp) (k := ja) pk6 l6.nn.hl l1.nn.ne l1.nn.few nnm fun ve dd G7 p7 r7 en => ?_⟩
     have D7 := D6.pot pk6 p7
     have F7 := F6.pot np (KF.of fun b u n e => p7.kp _ _ e n)
     have hk7 := pot_tup pk6 p7 _ _ hk6
     have kvl := D7.dv.length
     have few := D7.ok.few
     refine ⟨_, rfl, _, rfl, d, _, rfl, DPut.t (k := [Sum.inr kind, Sum.inr name]) D7.hb hk7 (by rw [sizeLine_eq]; omega), ?_⟩
     have up : ∀ b xs, G7 b = some (.tup xs) -> upd G7 d (.dT (putK kvs [Sum.inr kind, Sum.inr name] ve)) b = some (.tup xs) := fun b xs e => by rw [upd_ne (ne_of e D7.hb (by intro z; cases z))]; exact e
     obtain ⟨due', dv', pm'⟩ := (D7.dv.keep up D7.ok.ent).put (k := kind) (n := name) (v := ve) (d := dd) D7.ok.nd (en.keep r7 up)
     have okc := put_ok D7.ok (knm kind hkm) (nnm name hnm) en (room_for D7.ok D7.sub hkm hnm lk8 ln6)
     have D8 : DueOk (upd G7 d (.dT (putK kvs [Sum.inr kind, Sum.inr name] ve))) d (putK kvs [Sum.inr kind, Sum.inr name] ve) due' ks ns := ⟨upd_same, dv', bk_perm pm' okc, fun z hz => by
      rcases List.mem_append.mp (pm'.mem_iff.mp hz) with y | y
      ·exact D7.sub z (List.mem_filter.mp y).1
      ·rw [List.mem_singleton.mp y]; exact ⟨hkm, hnm⟩⟩
     have F8 := F7.put (o := .dT (putK kvs [Sum.inr kind, Sum.inr name] ve))
     have pk8 : PotOk pp (upd G7 d (.dT (putK kvs [Sum.inr kind, Sum.inr name] ve))) := let ⟨x, y, e, r⟩ := p7.ok; ⟨x, y, by rw [upd_ne (Ne.symm ndp)]; exact e, r⟩
     generalize upd G7 d (.dT (putK kvs [Sum.inr kind, Sum.inr name] ve)) = G8 at D8 F8 pk8 ⊢
     exact k G8 ⟨F8, pk8, _, _, D8⟩
    ·rw [z1]
     refine ⟨_, rfl, .inr (.inr (.inl ⟨rfl, .inr ⟨_, D6.hb⟩⟩)), _, rfl, d, kvs, [Sum.inr kind, Sum.inr name], kt, v0, rfl, rfl, D6.hb, hk6, z1, ?_⟩
     have up : ∀ b xs, G6 b = some (.tup xs) -> upd G6 d (.dT (dropK kvs [Sum.inr kind, Sum.inr name])) b = some (.tup xs) := fun b xs e => by rw [upd_ne (ne_of e D6.hb (by intro z; cases z))]; exact e
     have wok := woN_ok D6.ok kind name
     have D8 : DueOk (upd G6 d (.dT (dropK kvs [Sum.inr kind, Sum.inr name]))) d (dropK kvs [Sum.inr kind, Sum.inr name]) (woN due kind name) ks ns := ⟨upd_same, DueV.keep up D6.dv.drop wok.ent, wok, fun x hx => D6.sub x (List.mem_filter.mp hx).1⟩
     have F8 := F6.put (o := .dT (dropK kvs [Sum.inr kind, Sum.inr name]))
     have pk8 : PotOk pp (upd G6 d (.dT (dropK kvs [Sum.inr kind, Sum.inr name]))) := let ⟨x, y, e, r⟩ := pk6; ⟨x, y, by rw [upd_ne (Ne.symm ndp)]; exact e, r⟩
     generalize upd G6 d (.dT (dropK kvs [Sum.inr kind, Sum.inr name])) = G8 at D8 F8 pk8 ⊢
     exact k G8 ⟨F8, pk8, _, _, D8⟩
   intro G8 hcond
   obtain ⟨F8, pk8, kvs', due', D8⟩ := hcond
   have l8 := l1.kfd D1.hb F8
   refine ⟨_, rfl, _, rfl, _, rfl, _, rfl, _, rfl, _, rfl, ln, _, (ja : Int), .str name, rfl, rfl, SqL.of l8.nn.hl, at3 rfl, ho_sp (p := pp) pk8 l8.hf (old l1.hf) l8.fv D8 l8.nk fs2 (nnm _ hnm) fun G9 K9 pk9 => ⟨true, rfl, ?_⟩⟩
   exact ⟨kvs', due', _, _, _, _, rfl, l1.kfd D1.hb (F8.pot np K9), D8.kf pk8 K9⟩
  ·rintro σ G1 ⟨kvs, due, v1, v7, v8, v9, rfl, l1, D1⟩
   exact q _
end
end K35
namespace K35
open PySem L2 PySem.W
theorem all_mk {l : OpenLaw} {w : World} {K : Frag} {h : Heap} {mg : Str -> Option Value} {fa fNm fCn fMg fLf fWi fKd fCq fLs fLr fFa fFi fIb fCb fEb fIn fLo fWk fP fD fN fMe fLn fPr fFy fFt fNu fSt fEn fBo fBt fGo fDu fHo fL C : Addr} (X : K.In h) (G : h.Ns mainGlobals mg) (hfa : mg "law" = some (.ref fa))
  {odNm anNm odCn anCn odMg anMg odLf anLf odWi anWi odKd anKd odCq anCq odLs anLs odLr anLr odFa anFa odFi anFi odIb anIb odCb anCb odEb anEb odIn anIn odLo anLo odWk anWk odP anP odD anD odN anN odMe anMe odLn anLn odPr anPr odFy anFy odFt anFt odNu anNu odSt anSt odEn anEn odBo anBo odBt anBt odGo anGo odDu anDu odHo anHo odL anL : Option Addr} {slNm slCn slMg slLf slWi slKd slCq slLs slLr slFa slFi slIb slCb slEb slIn slLo slWk slP slD slN slMe slLn slPr slFy slFt slNu slSt slEn slBo slBt slGo slDu slHo slL : Array (Option Value)} {ocNm kVNm dcNm pmNm cdNm ctNm ocCn kVCn dcCn pmCn cdCn ctCn ocMg kVMg dcMg pmMg cdMg ctMg ocLf kVLf dcLf pmLf cdLf ctLf ocWi kVWi dcWi pmWi cdWi ctWi ocKd kVKd dcKd pmKd cdKd ctKd ocCq kVCq dcCq pmCq cdCq ctCq ocLs kVLs dcLs pmLs cdLs ctLs ocLr kVLr dcLr pmLr cdLr ctLr ocFa kVFa dcFa pmFa cdFa ctFa ocFi kVFi dcFi pmFi cdFi ctFi ocIb kVIb dcIb pmIb cdIb ctIb ocCb kVCb dcCb pmCb cdCb ctCb ocEb kVEb dcEb pmEb cdEb ctEb ocIn kVIn dcIn pmIn cdIn ctIn ocLo kVLo dcLo pmLo cdLo ctLo ocWk kVWk dcWk pmWk cdWk ctWk ocP kVP dcP pmP cdP ctP ocD kVD dcD pmD cdD ctD ocN kVN dcN pmN cdN ctN ocMe kVMe dcMe pmMe cdMe ctMe ocLn kVLn dcLn pmLn cdLn ctLn ocPr kVPr dcPr pmPr cdPr ctPr ocFy kVFy dcFy pmFy cdFy ctFy ocFt kVFt dcFt pmFt cdFt ctFt ocNu kVNu dcNu pmNu cdNu ctNu ocSt kVSt dcSt pmSt cdSt ctSt ocEn kVEn dcEn pmEn cdEn ctEn ocBo kVBo dcBo pmBo cdBo ctBo ocBt kVBt dcBt pmBt cdBt ctBt ocGo kVGo dcGo pmGo cdGo ctGo ocDu kVDu dcDu pmDu cdDu ctDu ocHo kVHo dcHo pmHo cdHo ctHo ocL kVL dcL pmL cdL ctL : Value}
  {DFa : Addr} {dodFa : Option Addr} {dslFa : Array (Option Value)} {docFa : Value} {dnFa : Nat} {dtkFa : Tok}
  (aC : nsIn K mainGlobals "Finds" = some (some (.ref C)))
  (fNma : nsIn K mainGlobals "is_name" = some (some (.ref fNm)))
  (fNml : K.lookup fNm = some (fnR ocNm odNm "is_name" "is_name" sIsName .none kVNm dcNm pmNm anNm cdNm ctNm slNm))
  (fNmc : codeIn K cdNm "is_name" = true)
  (fNmk : keepIn K (.ref fNm) = true)
  (fCna : nsIn K mainGlobals "check_name" = some (some (.ref fCn)))
  (fCnl : K.lookup fCn = some (fnR ocCn odCn "check_name" "check_name" sCheckN .none kVCn dcCn pmCn anCn cdCn ctCn slCn))
  (fCnc : codeIn K cdCn "check_name" = true)
  (fCnk : keepIn K (.ref fCn) = true)
  (fMga : nsIn K mainGlobals "merged" = some (some (.ref fMg)))
  (fMgl : K.lookup fMg = some (fnR ocMg odMg "merged" "merged" sMerged .none kVMg dcMg pmMg anMg cdMg ctMg slMg))
  (fMgc : codeIn K cdMg "merged" = true)
  (fMgk : keepIn K (.ref fMg) = true)
  (fLfa : nsIn K mainGlobals "least_free" = some (some (.ref fLf)))
  (fLfl : K.lookup fLf = some (fnR ocLf odLf "least_free" "least_free" sLeast .none kVLf dcLf pmLf anLf cdLf ctLf slLf))
  (fLfc : codeIn K cdLf "least_free" = true)
  (fLfk : keepIn K (.ref fLf) = true)
  (fWia : nsIn K mainGlobals "wish_against" = some (some (.ref fWi)))
  (fWil : K.lookup fWi = some (fnR ocWi odWi "wish_against" "wish_against" sWish .none kVWi dcWi pmWi anWi cdWi ctWi slWi))
  (fWic : codeIn K cdWi "wish_against" = true)
  (fWik : keepIn K (.ref fWi) = true)
  (fKda : nsIn K mainGlobals "is_kind" = some (some (.ref fKd)))
  (fKdl : K.lookup fKd = some (fnR ocKd odKd "is_kind" "is_kind" sIsKind .none kVKd dcKd pmKd anKd cdKd ctKd slKd))
  (fKdc : codeIn K cdKd "is_kind" = true)
  (fKdk : keepIn K (.ref fKd) = true)
  (fCqa : nsIn K mainGlobals "check_kind" = some (some (.ref fCq)))
  (fCql : K.lookup fCq = some (fnR ocCq odCq "check_kind" "check_kind" sCheckK .none kVCq dcCq pmCq anCq cdCq ctCq slCq))
  (fCqc : codeIn K cdCq "check_kind" = true)
  (fCqk : keepIn K (.ref fCq) = true)
  (fLsa : nsIn K mainGlobals "lines_of" = some (some (.ref fLs)))
  (fLsl : K.lookup fLs = some (fnR ocLs odLs "lines_of" "lines_of" sLines .none kVLs dcLs pmLs anLs cdLs ctLs slLs))
  (fLsc : codeIn K cdLs "lines_of" = true)
  (fLsk : keepIn K (.ref fLs) = true)
  (fLra : nsIn K mainGlobals "line_from" = some (some (.ref fLr)))
  (fLrl : K.lookup fLr = some (fnR ocLr odLr "line_from" "line_from" sLineFrom .none kVLr dcLr pmLr anLr cdLr ctLr slLr))
  (fLrc : codeIn K cdLr "line_from" = true)
  (fLrk : keepIn K (.ref fLr) = true)
  (fFaa : nsIn K mainGlobals "found_at" = some (some (.ref fFa)))
  (fFal : K.lookup fFa = some (fnR ocFa odFa "found_at" "found_at" sFoundAt (.ref DFa) kVFa dcFa pmFa anFa cdFa ctFa slFa))
  (fFac : codeIn K cdFa "found_at" = true)
  (fFak : keepIn K (.ref fFa) = true)
  (fFad : K.lookup DFa = some ⟨docFa, dodFa, .seq #[.str "" dtkFa] dnFa, dslFa⟩)
  (fFia : nsIn K mainGlobals "finds_in" = some (some (.ref fFi)))
  (fFil : K.lookup fFi = some (fnR ocFi odFi "finds_in" "finds_in" sFindsIn .none kVFi dcFi pmFi anFi cdFi ctFi slFi))
  (fFic : codeIn K cdFi "finds_in" = true)
  (fFik : keepIn K (.ref fFi) = true)
  (fIba : nsIn K mainGlobals "is_behind" = some (some (.ref fIb)))
  (fIbl : K.lookup fIb = some (fnR ocIb odIb "is_behind" "is_behind" sIsBehind .none kVIb dcIb pmIb anIb cdIb ctIb slIb))
  (fIbc : codeIn K cdIb "is_behind" = true)
  (fIbk : keepIn K (.ref fIb) = true)
  (fCba : nsIn K mainGlobals "check_behind" = some (some (.ref fCb)))
  (fCbl : K.lookup fCb = some (fnR ocCb odCb "check_behind" "check_behind" sCheckB .none kVCb dcCb pmCb anCb cdCb ctCb slCb))
  (fCbc : codeIn K cdCb "check_behind" = true)
  (fCbk : keepIn K (.ref fCb) = true)
  (fEba : nsIn K mainGlobals "entries_by_place" = some (some (.ref fEb)))
  (fEbl : K.lookup fEb = some (fnR ocEb odEb "entries_by_place" "entries_by_place" sByPlace .none kVEb dcEb pmEb anEb cdEb ctEb slEb))
  (fEbc : codeIn K cdEb "entries_by_place" = true)
  (fEbk : keepIn K (.ref fEb) = true)
  (fIna : findIn K (.ref C) "__init__" = some (some (.ref fIn)))
  (fIni : isFn K (.ref fIn) = true)
  (fInl : K.lookup fIn = some (fnR ocIn odIn "__init__" "Finds.__init__" sInit .none kVIn dcIn pmIn anIn cdIn ctIn slIn))
  (fInc : codeIn K cdIn "Finds.__init__" = true)
  (fInk : keepIn K (.ref fIn) = true)
  (fLoa : findIn K (.ref C) "look" = some (some (.ref fLo)))
  (fLoi : isFn K (.ref fLo) = true)
  (fLol : K.lookup fLo = some (fnR ocLo odLo "look" "Finds.look" sLook .none kVLo dcLo pmLo anLo cdLo ctLo slLo))
  (fLoc : codeIn K cdLo "Finds.look" = true)
  (fLok : keepIn K (.ref fLo) = true)
  (fWka : findIn K (.ref C) "walk" = some (some (.ref fWk)))
  (fWki : isFn K (.ref fWk) = true)
  (fWkl : K.lookup fWk = some (fnR ocWk odWk "walk" "Finds.walk" sWalk .none kVWk dcWk pmWk anWk cdWk ctWk slWk))
  (fWkc : codeIn K cdWk "Finds.walk" = true)
  (fWkk : keepIn K (.ref fWk) = true)
  (fPa : nsIn K mainGlobals "_law_pot" = some (some (.ref fP)))
  (fPl : K.lookup fP = some (fnR ocP odP "_law_pot" "_law_pot" sPot .none kVP dcP pmP anP cdP ctP slP))
  (fPc : codeIn K cdP "_law_pot" = true)
  (fPk : keepIn K (.ref fP) = true)
  (fDa : nsIn K mainGlobals "_law_digit" = some (some (.ref fD)))
  (fDl : K.lookup fD = some (fnR ocD odD "_law_digit" "_law_digit" sDigit .none kVD dcD pmD anD cdD ctD slD))
  (fDc : codeIn K cdD "_law_digit" = true)
  (fDk : keepIn K (.ref fD) = true)
  (fNa : nsIn K mainGlobals "_law_names" = some (some (.ref fN)))
  (fNl : K.lookup fN = some (fnR ocN odN "_law_names" "_law_names" sNames .none kVN dcN pmN anN cdN ctN slN))
  (fNc : codeIn K cdN "_law_names" = true)
  (fNk : keepIn K (.ref fN) = true)
  (fMea : nsIn K mainGlobals "_law_merged" = some (some (.ref fMe)))
  (fMel : K.lookup fMe = some (fnR ocMe odMe "_law_merged" "_law_merged" sLMerged .none kVMe dcMe pmMe anMe cdMe ctMe slMe))
  (fMec : codeIn K cdMe "_law_merged" = true)
  (fMek : keepIn K (.ref fMe) = true)
  (fLna : nsIn K mainGlobals "_law_line" = some (some (.ref fLn)))
  (fLnl : K.lookup fLn = some (fnR ocLn odLn "_law_line" "_law_line" sLLine .none kVLn dcLn pmLn anLn cdLn ctLn slLn))
  (fLnc : codeIn K cdLn "_law_line" = true)
  (fLnk : keepIn K (.ref fLn) = true)
  (fPra : nsIn K mainGlobals "_law_parents" = some (some (.ref fPr)))
  (fPrl : K.lookup fPr = some (fnR ocPr odPr "_law_parents" "_law_parents" sLParents .none kVPr dcPr pmPr anPr cdPr ctPr slPr))
  (fPrc : codeIn K cdPr "_law_parents" = true)
  (fPrk : keepIn K (.ref fPr) = true)
  (fFya : nsIn K mainGlobals "_law_family" = some (some (.ref fFy)))
  (fFyl : K.lookup fFy = some (fnR ocFy odFy "_law_family" "_law_family" sLFamily .none kVFy dcFy pmFy anFy cdFy ctFy slFy))
  (fFyc : codeIn K cdFy "_law_family" = true)
  (fFyk : keepIn K (.ref fFy) = true)
  (fFta : nsIn K mainGlobals "_law_family_tuple" = some (some (.ref fFt)))
  (fFtl : K.lookup fFt = some (fnR ocFt odFt "_law_family_tuple" "_law_family_tuple" sFamTup .none kVFt dcFt pmFt anFt cdFt ctFt slFt))
  (fFtc : codeIn K cdFt "_law_family_tuple" = true)
  (fFtk : keepIn K (.ref fFt) = true)
  (fNua : nsIn K mainGlobals "_law_number" = some (some (.ref fNu)))
  (fNul : K.lookup fNu = some (fnR ocNu odNu "_law_number" "_law_number" sNumber .none kVNu dcNu pmNu anNu cdNu ctNu slNu))
  (fNuc : codeIn K cdNu "_law_number" = true)
  (fNuk : keepIn K (.ref fNu) = true)
  (fSta : nsIn K mainGlobals "_law_step" = some (some (.ref fSt)))
  (fStl : K.lookup fSt = some (fnR ocSt odSt "_law_step" "_law_step" sStep .none kVSt dcSt pmSt anSt cdSt ctSt slSt))
  (fStc : codeIn K cdSt "_law_step" = true)
  (fStk : keepIn K (.ref fSt) = true)
  (fEna : nsIn K mainGlobals "_law_entry" = some (some (.ref fEn)))
  (fEnl : K.lookup fEn = some (fnR ocEn odEn "_law_entry" "_law_entry" sEntry .none kVEn dcEn pmEn anEn cdEn ctEn slEn))
  (fEnc : codeIn K cdEn "_law_entry" = true)
  (fEnk : keepIn K (.ref fEn) = true)
  (fBoa : nsIn K mainGlobals "_law_book" = some (some (.ref fBo)))
  (fBol : K.lookup fBo = some (fnR ocBo odBo "_law_book" "_law_book" sBook .none kVBo dcBo pmBo anBo cdBo ctBo slBo))
  (fBoc : codeIn K cdBo "_law_book" = true)
  (fBok : keepIn K (.ref fBo) = true)
  (fBta : nsIn K mainGlobals "_law_book_tuple" = some (some (.ref fBt)))
  (fBtl : K.lookup fBt = some (fnR ocBt odBt "_law_book_tuple" "_law_book_tuple" sBookTup .none kVBt dcBt pmBt anBt cdBt ctBt slBt))
  (fBtc : codeIn K cdBt "_law_book_tuple" = true)
  (fBtk : keepIn K (.ref fBt) = true)
  (fGoa : nsIn K mainGlobals "_law_gone" = some (some (.ref fGo)))
  (fGol : K.lookup fGo = some (fnR ocGo odGo "_law_gone" "_law_gone" sGone .none kVGo dcGo pmGo anGo cdGo ctGo slGo))
  (fGoc : codeIn K cdGo "_law_gone" = true)
  (fGok : keepIn K (.ref fGo) = true)
  (fDua : nsIn K mainGlobals "_law_due" = some (some (.ref fDu)))
  (fDul : K.lookup fDu = some (fnR ocDu odDu "_law_due" "_law_due" sDue .none kVDu dcDu pmDu anDu cdDu ctDu slDu))
  (fDuc : codeIn K cdDu "_law_due" = true)
  (fDuk : keepIn K (.ref fDu) = true)
  (fHoa : nsIn K mainGlobals "_law_holds" = some (some (.ref fHo)))
  (fHol : K.lookup fHo = some (fnR ocHo odHo "_law_holds" "_law_holds" sHolds .none kVHo dcHo pmHo anHo cdHo ctHo slHo))
  (fHoc : codeIn K cdHo "_law_holds" = true)
  (fHok : keepIn K (.ref fHo) = true)
  (fLa : nsIn K mainGlobals "law" = some (some (.ref fL)))
  (fLl : K.lookup fL = some (fnR ocL odL "law" "law" sLaw .none kVL dcL pmL anL cdL ctL slL))
  (fLc : codeIn K cdL "law" = true)
  (fLk : keepIn K (.ref fL) = true)
  (pgC : plainGet K C Str.empty = true)
  (hdC : hasDictIn K C = true)
  (poC : plainOver K C = true)
  (saC : findIn K (.ref C) "__setattr__" = some (some (.builtin "object.__setattr__")))
  (mkC : makesIn K C = true)
  (kcC : keepIn K (.ref C) = true)
  (nClines : findIn K (.ref C) "lines" = some none)
  (nCentries : findIn K (.ref C) "entries" = some none)
  (nChits : findIn K (.ref C) "hits" = some none)
  (nCmet : findIn K (.ref C) "met" = some none)
  (zlen : nsIn K mainGlobals "len" = some none)
  (zmax : nsIn K mainGlobals "max" = some none)
  (zmin : nsIn K mainGlobals "min" = some none)
  (zabs : nsIn K mainGlobals "abs" = some none)
  (zrange : nsIn K mainGlobals "range" = some none)
  (zany : nsIn K mainGlobals "any" = some none)
  (zall : nsIn K mainGlobals "all" = some none)
  (zlist : nsIn K mainGlobals "list" = some none)
  (ztuple : nsIn K mainGlobals "tuple" = some none)
  (zenumerate : nsIn K mainGlobals "enumerate" = some none)
  (zisinstance : nsIn K mainGlobals "isinstance" = some none)
  (zstr : nsIn K mainGlobals "str" = some none)
  (zdict : nsIn K mainGlobals "dict" = some none)
  (zsorted : nsIn K mainGlobals "sorted" = some none) :
  ∃ fd : FuncData, (∀ (s : Shared) (v : Value), BindsTo s fd ⟨[v], []⟩ [("_law_script", v)]) /\ ∀ base : Heap, K.In base -> base.Ns mainGlobals mg -> FnOk l.prog w K mg base CX0 10 fa fd ["_law_script"] (spLaw K) := by
 have e := hfa.symm.trans (mg_of X G fLa)
 cases e
 have Bl : Blt mg := ⟨mg_none_of X G zlen, mg_none_of X G zmax, mg_none_of X G zmin, mg_none_of X G zabs, mg_none_of X G zrange, mg_none_of X G zany, mg_none_of X G zall, mg_none_of X G zlist, mg_none_of X G ztuple, mg_none_of X G zenumerate⟩
 have B2 : Blt2 mg := ⟨mg_none_of X G zisinstance, mg_none_of X G zstr, mg_none_of X G zdict, mg_none_of X G zsorted⟩
 have T : TxtF K mg C := ⟨⟨pgC, hdC, poC, saC⟩, nClines, nCentries, nChits, nCmet, mg_of X G aC⟩
 have FNm := fun_mk (st := sIsName) fNml fNmc fNmk
 have FCn := fun_mk (st := sCheckN) fCnl fCnc fCnk
 have FMg := fun_mk (st := sMerged) fMgl fMgc fMgk
 have FLf := fun_mk (st := sLeast) fLfl fLfc fLfk
 have FWi := fun_mk (st := sWish) fWil fWic fWik
 have FKd := fun_mk (st := sIsKind) fKdl fKdc fKdk
 have FCq := fun_mk (st := sCheckK) fCql fCqc fCqk
 have FLs := fun_mk (st := sLines) fLsl fLsc fLsk
 have FLr := fun_mk (st := sLineFrom) fLrl fLrc fLrk
 have FFa := funD_mk (st := sFoundAt) fFal fFac fFak
 have FFi := fun_mk (st := sFindsIn) fFil fFic fFik
 have FIb := fun_mk (st := sIsBehind) fIbl fIbc fIbk
 have FCb := fun_mk (st := sCheckB) fCbl fCbc fCbk
 have FEb := fun_mk (st := sByPlace) fEbl fEbc fEbk
 have FIn := fun_mk (st := sInit) fInl fInc fInk
 have FLo := fun_mk (st := sLook) fLol fLoc fLok
 have FWk := fun_mk (st := sWalk) fWkl fWkc fWkk
 have FP := fun_mk (st := sPot) fPl fPc fPk
 have FD := fun_mk (st := sDigit) fDl fDc fDk
 have FN := fun_mk (st := sNames) fNl fNc fNk
 have FMe := fun_mk (st := sLMerged) fMel fMec fMek
 have FLn := fun_mk (st := sLLine) fLnl fLnc fLnk
 have FPr := fun_mk (st := sLParents) fPrl fPrc fPrk
 have FFy := fun_mk (st := sLFamily) fFyl fFyc fFyk
 have FFt := fun_mk (st := sFamTup) fFtl fFtc fFtk
 have FNu := fun_mk (st := sNumber) fNul fNuc fNuk
 have FSt := fun_mk (st := sStep) fStl fStc fStk
 have FEn := fun_mk (st := sEntry) fEnl fEnc fEnk
 have FBo := fun_mk (st := sBook) fBol fBoc fBok
 have FBt := fun_mk (st := sBookTup) fBtl fBtc fBtk
 have FGo := fun_mk (st := sGone) fGol fGoc fGok
 have FDu := fun_mk (st := sDue) fDul fDuc fDuk
 have FHo := fun_mk (st := sHolds) fHol fHoc fHok
 have FL := fun_mk (st := sLaw) fLl fLc fLk
 have bNm := FNm.binds (ps := ["thing"]) fun _ _ _ _ _ _ us hl => match us, hl with | [_], _ => rfl
 have bCn := FCn.binds (ps := ["thing"]) fun _ _ _ _ _ _ us hl => match us, hl with | [_], _ => rfl
 have bMg := FMg.binds (ps := ["rows"]) fun _ _ _ _ _ _ us hl => match us, hl with | [_], _ => rfl
 have bLf := FLf.binds (ps := ["rest"]) fun _ _ _ _ _ _ us hl => match us, hl with | [_], _ => rfl
 have bWi := FWi.binds (ps := ["rest", "name"]) fun _ _ _ _ _ _ us hl => match us, hl with | [_, _], _ => rfl
 have bKd := FKd.binds (ps := ["family", "thing"]) fun _ _ _ _ _ _ us hl => match us, hl with | [_, _], _ => rfl
 have bCq := FCq.binds (ps := ["family", "thing"]) fun _ _ _ _ _ _ us hl => match us, hl with | [_, _], _ => rfl
 have bLs := FLs.binds (ps := ["family"]) fun _ _ _ _ _ _ us hl => match us, hl with | [_], _ => rfl
 have bLr := FLr.binds (ps := ["lines", "kind", "parents"]) fun _ _ _ _ _ _ us hl => match us, hl with | [_, _, _], _ => rfl
 have bFa := FFa.binds (ps := ["family", "book", "kind", "name", "behind"]) (ds := []) fFad fun _ _ _ _ _ _ us hl => by
  have h4 : us.length = 5 := by simpa using hl
  exact match us, h4 with | [_, _, _, _, _], _ => ⟨_, rfl, rfl⟩
 have bFa1 := FFa.binds (ps := ["family", "book", "kind", "name", "behind"]) (ds := [.str "" dtkFa]) fFad fun _ _ _ _ _ _ us hl => by
  have h4 : us.length = 4 := by simpa using hl
  exact match us, h4 with | [_, _, _, _], _ => ⟨_, rfl, rfl⟩
 have bFi := FFi.binds (ps := ["family", "book"]) fun _ _ _ _ _ _ us hl => match us, hl with | [_, _], _ => rfl
 have bIb := FIb.binds (ps := ["line", "thing"]) fun _ _ _ _ _ _ us hl => match us, hl with | [_, _], _ => rfl
 have bCb := FCb.binds (ps := ["line", "thing"]) fun _ _ _ _ _ _ us hl => match us, hl with | [_, _], _ => rfl
 have bEb := FEb.binds (ps := ["book"]) fun _ _ _ _ _ _ us hl => match us, hl with | [_], _ => rfl
 have bIn := FIn.binds (ps := ["self", "lines", "entries"]) fun _ _ _ _ _ _ us hl => match us, hl with | [_, _, _], _ => rfl
 have bLo := FLo.binds (ps := ["self", "kind", "name", "behind"]) fun _ _ _ _ _ _ us hl => match us, hl with | [_, _, _, _], _ => rfl
 have bWk := FWk.binds (ps := ["self", "kind", "name", "behind"]) fun _ _ _ _ _ _ us hl => match us, hl with | [_, _, _, _], _ => rfl
 have bP := FP.binds (ps := ["_law_script", "_law_k"]) fun _ _ _ _ _ _ us hl => match us, hl with | [_, _], _ => rfl
 have bD := FD.binds (ps := ["_law_pot_here", "_law_many"]) fun _ _ _ _ _ _ us hl => match us, hl with | [_, _], _ => rfl
 have bN := FN.binds (ps := ["_law_pot_here", "_law_many"]) fun _ _ _ _ _ _ us hl => match us, hl with | [_, _], _ => rfl
 have bMe := FMe.binds (ps := ["_law_rows"]) fun _ _ _ _ _ _ us hl => match us, hl with | [_], _ => rfl
 have bLn := FLn.binds (ps := ["_law_lines", "_law_kind", "_law_own"]) fun _ _ _ _ _ _ us hl => match us, hl with | [_, _, _], _ => rfl
 have bPr := FPr.binds (ps := ["_law_pot_here", "_law_made"]) fun _ _ _ _ _ _ us hl => match us, hl with | [_, _], _ => rfl
 have bFy := FFy.binds (ps := ["_law_pot_here", "_law_kinds"]) fun _ _ _ _ _ _ us hl => match us, hl with | [_, _], _ => rfl
 have bFt := FFt.binds (ps := ["_law_parents_here"]) fun _ _ _ _ _ _ us hl => match us, hl with | [_], _ => rfl
 have bNu := FNu.binds (ps := ["_law_pot_here"]) fun _ _ _ _ _ _ us hl => match us, hl with | [_], _ => rfl
 have bSt := FSt.binds (ps := ["_law_pot_here", "_law_names_here", "_law_at"]) fun _ _ _ _ _ _ us hl => match us, hl with | [_, _, _], _ => rfl
 have bEn := FEn.binds (ps := ["_law_pot_here", "_law_names_here", "_law_at"]) fun _ _ _ _ _ _ us hl => match us, hl with | [_, _, _], _ => rfl
 have bBo := FBo.binds (ps := ["_law_pot_here", "_law_kinds", "_law_names_here"]) fun _ _ _ _ _ _ us hl => match us, hl with | [_, _, _], _ => rfl
 have bBt := FBt.binds (ps := ["_law_book_here"]) fun _ _ _ _ _ _ us hl => match us, hl with | [_], _ => rfl
 have bGo := FGo.binds (ps := ["_law_family_here", "_law_book_here", "_law_kind", "_law_name", "_law_most"]) fun _ _ _ _ _ _ us hl => match us, hl with | [_, _, _, _, _], _ => rfl
 have bDu := FDu.binds (ps := ["_law_line_here", "_law_book_here", "_law_name", "_law_most"]) fun _ _ _ _ _ _ us hl => match us, hl with | [_, _, _, _], _ => rfl
 have bHo := FHo.binds (ps := ["_law_pot_here", "_law_families", "_law_book_here", "_law_kinds", "_law_name"]) fun _ _ _ _ _ _ us hl => match us, hl with | [_, _, _, _, _], _ => rfl
 have mNm := mg_of X G fNma
 have mCn := mg_of X G fCna
 have mMg := mg_of X G fMga
 have mLf := mg_of X G fLfa
 have mWi := mg_of X G fWia
 have mKd := mg_of X G fKda
 have mCq := mg_of X G fCqa
 have mLs := mg_of X G fLsa
 have mLr := mg_of X G fLra
 have mFa := mg_of X G fFaa
 have mFi := mg_of X G fFia
 have mIb := mg_of X G fIba
 have mCb := mg_of X G fCba
 have mEb := mg_of X G fEba
 have mP := mg_of X G fPa
 have mD := mg_of X G fDa
 have mN := mg_of X G fNa
 have mMe := mg_of X G fMea
 have mLn := mg_of X G fLna
 have mPr := mg_of X G fPra
 have mFy := mg_of X G fFya
 have mFt := mg_of X G fFta
 have mNu := mg_of X G fNua
 have mSt := mg_of X G fSta
 have mEn := mg_of X G fEna
 have mBo := mg_of X G fBoa
 have mBt := mg_of X G fBta
 have mGo := mg_of X G fGoa
 have mDu := mg_of X G fDua
 have mHo := mg_of X G fHoa
 have mL := mg_of X G fLa
 exact ⟨fnOf "law" "law" (defArgs sLaw) (defBody sLaw) (defScope sLaw) .none kVL dcL pmL anL cdL ctL, fun s v => .of_eq rfl, fun base _ _ =>
  let GC := ok_check FCq FKd bKd mKd (ok_kind FKd Bl B2 FNm bNm mNm)
  let GNm := ok_name FNm Bl B2
  let GCn := ok_ckN FCn GNm fNmk bNm mNm
  let GL := ok_lines FLs Bl (ok_lf FLr Bl (ok_merged FMg Bl FWi bWi mWi FLf bLf mLf) fMgk bMg mMg) fLrk bLr mLr
  let GEb := ok_eb FEb
  let GIn := ok_fin FIn T
  let GWk := ok_walk FWk T
  let MW : Meth K C "walk" fWk := ⟨fWka, fWki, fWkk⟩
  let ML : Meth K C "look" fLo := ⟨fLoa, fLoi, fLok⟩
  let GLk := ok_look FLo T GWk MW bWk
  let GFi := ok_fi FFi T GL fLsk bLs mLs GEb fEbk bEb mEb ⟨mkC, fIna, fIni, kcC⟩ GIn bIn
  let GCb := ok_cb FCb (ok_ib FIb B2) fIbk bIb mIb
  let GFa := ok_fa FFa T GC fCqk bCq mCq GCn fCnk bCn mCn GFi fFik bFi mFi GCb fCbk bCb mCb GLk ML bLo
  let GDg := ok_digit FD
  let GNu := ok_num FNu GDg fDk bD mD
  let GSt := ok_stp FSt Bl GDg fDk bD mD GNu fNuk bNu mNu
  let GEn := ok_ent FEn Bl GDg fDk bD mD GNu fNuk bNu mNu GSt fStk bSt mSt
  let GDu := ok_du FDu Bl
  let GGo := ok_go FGo Bl GFa fFak bFa mFa
  let GHo := ok_ho FHo Bl GDg fDk bD mD (ok_bt FBt Bl B2) fBtk bBt mBt (ok_ft FFt Bl B2) fFtk bFt mFt GGo fGok bGo mGo GDu fDuk bDu mDu
  ok_law FL Bl (ok_pot FP Bl) fPk bP mP GDg fDk bD mD (ok_names FN Bl FD bD mD) fNk bN mN
   (ok_fm FFy Bl B2 (ok_par FPr Bl FD bD mD) fPrk bPr mPr (ok_ll FLn Bl FMe bMe mMe) fLnk bLn mLn) fFyk bFy mFy
   (ok_book FBo Bl GDg fDk bD mD GEn fEnk bEn mEn) fBok bBo mBo GEn fEnk bEn mEn GHo fHok bHo mHo
⟩
theorem walk {l : OpenLaw} {q : Program} {loose : List Str} {XP : (Str -> Option Value) -> Heap -> Prop} {YP : World -> Heap -> Prop} {d : DefRec} {K : Params -> Frag} (hn : l.most = some 63) (hdf : d.params.defaults = [])
  (hY : ∀ (w : World) (h : Heap), YP w h -> (K w.params).In h)
  (F : ∀ (w : World) (mg : Str -> Option Value) (fa : Addr) (h : Heap), (K w.params).In h -> h.Ns mainGlobals mg -> mg d.name = some (.ref fa) ->
   ∃ fd : FuncData, (∀ (s : Shared) (u : Value), BindsTo s fd ⟨[u], []⟩ [("_law_script", u)]) /\ ∀ base : Heap, (K w.params).In base -> base.Ns mainGlobals mg -> FnOk l.prog w (K w.params) mg base CX0 10 fa fd ["_law_script"] (spLaw (K w.params))) :
  WalkO q loose XP YP l.row.toRowW d [] (fun f vs => PySem.call f vs) :=
 L2.walk_of (n := 63) (k := 10) (x := "_law_script") (CX := fun _ => CX0) (sp := fun w => spLaw (K w.params)) hn (by decide) hdf ⟨rfl, by decide, by decide, rfl⟩ hY F (fun _ _ a ns hl _ hS => by unfold spLaw; exact ⟨a, ns, rfl, hS, hl, fun _ => rfl⟩) fun _ _ _ _ _ z => z
end K35
def PySem.W.Fast.tw13693024053954525089 : Nat := 0
def PySem.W.Fast.tw15235448498455058560 : Nat := 0
def PySem.W.Fast.tw1373711535404302258 : Nat := 0
def PySem.W.Fast.tw15710461888821053260 : Nat := 0
def PySem.W.Fast.tw9373754918575548179 : Nat := 0
def PySem.W.Fast.tw16214772309207575906 : Nat := 0
def PySem.W.Fast.tw7908522702080337077 : Nat := 0
def PySem.W.Fast.tw784565864195988026 : Nat := 0
def PySem.W.Fast.tw339077255480068884 : Nat := 0
def PySem.W.Fast.tw2712259893771782405 : Nat := 0
def PySem.W.Fast.tw9324405040258909961 : Nat := 0
open PySem PySem.W PyProof.Rows
set_option maxRecDepth 100000 in
set_option maxHeartbeats 0 in
theorem PySem.Challenge.cw_parentlines_k35_whole_found_behind_one_a_holds : PySem.Challenge.rw_parentlines_k35_whole_found_behind_one_a.Holds := by
 w_on; o_law; k_head; (case hw => w_witness2)
 k_fill
 refine K35.walk (l := PySem.Challenge.rw_parentlines_k35_whole_found_behind_one_a) rfl rfl (fun w h Y => PySem.W.kIn_of Y) ?F
 case F =>
  intro w mg fa h KX G hmg
  refine' K35.all_mk KX G hmg ?qaa ?qab ?qac ?qad ?qae ?qaf ?qag ?qah ?qai ?qaj ?qak ?qal ?qam ?qan ?qao ?qap ?qaq ?qar ?qas ?qat ?qau ?qav ?qaw ?qax ?qay ?qaz ?qaA ?qaB ?qaC ?qaD ?qaE ?qaF ?qaG ?qaH ?qaI ?qaJ ?qaK ?qaL ?qaM ?qaN ?qaO ?qaP ?qaQ ?qaR ?qaS ?qaT ?qaU ?qaV ?qaW ?qaX ?qaY ?qaZ ?qba ?qbb ?qbc ?qbd ?qbe ?qbf ?qbg ?qbh ?qbi ?qbj ?qbk ?qbl ?qbm ?qbn ?qbo ?qbp ?qbq ?qbr ?qbs ?qbt ?qbu ?qbv ?qbw ?qbx ?qby ?qbz ?qbA ?qbB ?qbC ?qbD ?qbE ?qbF ?qbG ?qbH ?qbI ?qbJ ?qbK ?qbL ?qbM ?qbN ?qbO ?qbP ?qbQ ?qbR ?qbS ?qbT ?qbU ?qbV ?qbW ?qbX ?qbY ?qbZ ?qca ?qcb ?qcc ?qcd ?qce ?qcf ?qcg ?qch ?qci ?qcj ?qck ?qcl ?qcm ?qcn ?qco ?qcp ?qcq ?qcr ?qcs ?qct ?qcu ?qcv ?qcw ?qcx ?qcy ?qcz ?qcA ?qcB ?qcC ?qcD ?qcE ?qcF ?qcG ?qcH ?qcI ?qcJ ?qcK ?qcL ?qcM ?qcN ?qcO ?qcP ?qcQ ?qcR ?qcS ?qcT ?qcU ?qcV ?qcW ?qcX ?qcY ?qcZ ?qda ?qdb ?qdc ?qdd ?qde ?qdf ?qdg ?qdh ?qdi
  (case qaa | qab | qac | qad | qae | qaf | qag | qah | qai | qaj | qak | qal | qam | qan | qao | qap | qaq | qar | qas | qat | qau | qav | qaw | qax | qay | qaz | qaA | qaB | qaC | qaD | qaE | qaF | qaG | qaH | qaI | qaJ | qaK | qaL | qaM | qaN | qaO | qaP | qaQ | qaR | qaS | qaT | qaU | qaV | qaW | qaX | qaY | qaZ | qba | qbb | qbc | qbd | qbe | qbf | qbg | qbh | qbi | qbj | qbk | qbl | qbm | qbn | qbo | qbp | qbq | qbr | qbs | qbt | qbu | qbv | qbw | qbx | qby | qbz | qbA | qbB | qbC | qbD | qbE | qbF | qbG | qbH | qbI | qbJ | qbK | qbL | qbM | qbN | qbO | qbP | qbQ | qbR | qbS | qbT | qbU | qbV | qbW | qbX | qbY | qbZ | qca | qcb | qcc | qcd | qce | qcf | qcg | qch | qci | qcj | qck | qcl | qcm | qcn | qco | qcp | qcq | qcr | qcs | qct | qcu | qcv | qcw | qcx | qcy | qcz | qcA | qcB | qcC | qcD | qcE | qcF | qcG | qcH | qcI | qcJ | qcK | qcL | qcM | qcN | qcO | qcP | qcQ | qcR | qcS | qcT | qcU | qcV | qcW | qcX | qcY | qcZ | qda | qdb | qdc | qdd | qde | qdf | qdg | qdh | qdi => k_is)
