import PyProof.Rows.All
import Wide.All
import OpenK.AllK
import Wide.FinOn
import Lean
import PyProof.EqAt
import PyProof.EqKinds
import PyProof.TupleCall
import PyProof.ReprRoads
import PyProof.ReprBulk
import PyProof.EnumMake
import PyProof.EnumFor
import KE.KRevSl
import KE.KDictList
import PyProof.ZipIter
import PyProof.AttrMissHeap
import KE.KDictOf
import KE.KItemsList
import PyProof.Rows.ZipGen
import PyProof.CallFns
import PyProof.StrWalks
import PyProof.FString5
import KE.KSortTup
import PyProof.SetRoads
import PyProof.SetNew
import PyProof.Rows.SetFrom
import PyProof.WalksMore
import PyProof.ForAny
import PyProof.DictWalks
import PyProof.StrLawsIn
import PySem.Challenge.RW_parentlines_k31_entries_told_apart
set_option Elab.async false
set_option linter.all false
set_option maxRecDepth 100000
set_option maxHeartbeats 4000000
namespace L2
open PySem PySem.Spec PyProof.Rows
abbrev Key := Sum Int Str
def keyIs : Key -> Value -> Bool
 | .inl k, v => Value.isInt k v
 | .inr x, v => Value.isStrOf x v
def keyH (w : World) : Key -> Int
 | .inl k => hashInt k
 | .inr x => hashStr w x
theorem keyIs_shape : ∀ {k : Key} {v : Value}, keyIs k v = true -> (∃ i t, k = Sum.inl i /\ v = Value.int i t) \/ (∃ x t, k = Sum.inr x /\ v = Value.str x t)
 | .inl i, v, h => by
  obtain ⟨t, e⟩ := Value.isInt_shape (k := i) (v := v) h
  exact .inl ⟨i, t, rfl, e⟩
 | .inr x, v, h => by
  obtain ⟨t, e⟩ := Value.isStrOf_shape (x := x) (v := v) h
  exact .inr ⟨x, t, rfl, e⟩
theorem key_ll (a b : Int) : decide ((Sum.inl a : Key) = Sum.inl b) = (a == b) := by
 by_cases e : a = b
 ·subst e; simp
 ·have h : ¬ (Sum.inl a : Key) = Sum.inl b := fun q => e (Sum.inl.inj q)
  rw [decide_eq_false h]
  exact (beq_eq_false_iff_ne.mpr e).symm
theorem key_rr (a b : Str) : decide ((Sum.inr a : Key) = Sum.inr b) = decide (a = b) := by
 by_cases e : a = b
 ·subst e; simp
 ·have h : ¬ (Sum.inr a : Key) = Sum.inr b := fun q => e (Sum.inr.inj q)
  rw [decide_eq_false h, decide_eq_false e]
theorem key_lr (a : Int) (b : Str) : decide ((Sum.inl a : Key) = Sum.inr b) = false := decide_eq_false (fun q => nomatch q)
theorem key_rl (a : Str) (b : Int) : decide ((Sum.inr a : Key) = Sum.inl b) = false := decide_eq_false (fun q => nomatch q)
def mixKind (prog : Program) (w : World) : PySem.KeyKind prog w Key where
 is := keyIs
 hash := keyH w
 inj := fun v a b ha hb => by
  rcases keyIs_shape ha with ⟨i, t, rfl, rfl⟩ | ⟨x, t, rfl, rfl⟩
  ·rcases keyIs_shape hb with ⟨j, u, rfl, e⟩ | ⟨y, u, rfl, e⟩
   ·injection e with e1 _; rw [e1]
   ·exact nomatch e
  ·rcases keyIs_shape hb with ⟨j, u, rfl, e⟩ | ⟨y, u, rfl, e⟩
   ·exact nomatch e
   ·injection e with e1 _; rw [e1]
 byValue := fun k v h => by
  rcases keyIs_shape h with ⟨i, t, rfl, rfl⟩ | ⟨x, t, rfl, rfl⟩ <;> rfl
 pyHash := fun hv h => by
  rcases keyIs_shape hv with ⟨i, t, rfl, rfl⟩ | ⟨x, t, rfl, rfl⟩
  ·exact wpAny_pyHash_int h
  ·exact wpAny_pyHash_str h
 eqBool := fun hu hv h => by
  rcases keyIs_shape hu with ⟨i, t, rfl, rfl⟩ | ⟨x, t, rfl, rfl⟩
  ·rcases keyIs_shape hv with ⟨j, u, rfl, rfl⟩ | ⟨y, u, rfl, rfl⟩
   ·rw [key_ll] at h; exact wpAny_eqBool_int h
   ·rw [key_lr] at h; exact SeqAt.EqAt.int_str i t y u _ _ _ _ h
  ·rcases keyIs_shape hv with ⟨j, u, rfl, rfl⟩ | ⟨y, u, rfl, rfl⟩
   ·rw [key_rl] at h; exact SeqAt.EqAt.str_int x t j u _ _ _ _ h
   ·rw [key_rr] at h; exact wpAny_eqBool_str h
 «strs» := fun k x t v h => by
  rcases keyIs_shape h with ⟨i, u, rfl, e⟩ | ⟨y, u, rfl, e⟩
  ·exact nomatch e
  ·injection e with e1 _
   subst e1
   cases v <;> rfl
end L2
namespace L2
open PySem PySem.Spec PyProof.Rows
inductive V where
 | non | bl (b : Bool) | int (i : Int) | str (x : Str) | byt (b : Array UInt8) | flt (b : UInt64) | ref (a : Addr) | ty (n : String)
 deriving DecidableEq
def RelV : V -> Value -> Prop
 | .non, u => u = Value.none
 | .bl b, u => u = Value.bool b
 | .int i, u => ∃ t, u = Value.int i t
 | .str x, u => ∃ t, u = Value.str x t
 | .byt b, u => ∃ t, u = Value.bytes b t
 | .flt b, u => ∃ t, u = Value.float b t
 | .ref a, u => u = Value.ref a
 | .ty n, u => u = Value.type n
abbrev Vals : List V -> List Value -> Prop := Paired RelV
theorem Vals.length {xs : List V} {us : List Value} (r : Vals xs us) : xs.length = us.length := Paired.length r
theorem Vals.get : ∀ {xs : List V} {us : List Value} {i : Nat} {x : V}, Vals xs us -> xs[i]? = some x -> ∃ u, us[i]? = some u /\ RelV x u
 | _, _, _, _, .nil, e => by simp at e
 | _, _, 0, _, .cons r _, e => by simp at e; subst e; exact ⟨_, rfl, r⟩
 | _, _, i + 1, x, .cons _ t, e => by
  obtain ⟨u, h1, h2⟩ := Vals.get (i := i) (x := x) t (by simpa using e)
  exact ⟨u, by simpa using h1, h2⟩
theorem Vals.set {x : V} {u : Value} (r : RelV x u) : ∀ {xs : List V} {us : List Value} (i : Nat), Vals xs us -> Vals (xs.set i x) (us.set i u)
 | _, _, _, .nil => .nil
 | _, _, 0, .cons _ t => .cons r t
 | _, _, i + 1, .cons q t => .cons q (Vals.set r i t)
theorem Vals.append : ∀ {xs ys : List V} {us ws : List Value}, Vals xs us -> Vals ys ws -> Vals (xs ++ ys) (us ++ ws)
 | _, _, _, _, .nil, s => s
 | _, _, _, _, .cons r t, s => .cons r (Vals.append t s)
theorem Vals.take : ∀ {xs : List V} {us : List Value} (n : Nat), Vals xs us -> Vals (xs.take n) (us.take n)
 | _, _, 0, _ => .nil
 | _, _, _ + 1, .nil => .nil
 | _, _, n + 1, .cons r t => .cons r (Vals.take n t)
theorem Vals.drop : ∀ {xs : List V} {us : List Value} (n : Nat), Vals xs us -> Vals (xs.drop n) (us.drop n)
 | _, _, 0, r => r
 | _, _, _ + 1, .nil => .nil
 | _, _, n + 1, .cons _ t => Vals.drop n t
def RelO : Option V -> Option Value -> Prop
 | some v, some u => RelV v u
 | none, none => True
 | _, _ => False
def KV {κ : Type} : List (κ × V) -> List (κ × Value) -> Prop := Paired fun (p : κ × V) (q : κ × Value) => p.1 = q.1 /\ RelV p.2 q.2
def kV : Key -> V
 | .inl i => .int i
 | .inr x => .str x
inductive HO where
 | lst (xs : List V)
 | tup (xs : List V)
 | dK (kvs : List (Key × V)) | dT (kvs : List (List Key × V))
 | set (S : Int -> Bool) (n : Nat)
 | ins (C dx : Addr) (fs : List (Str × V))
 | own (x : Addr)
 | xd (fs : List (Str × V))
 | met (f x : Addr)
 | rng (lo hi : Int)
 | frz (o : Obj) (u : HO)
 | tbl (ps : Array Value)
 | ext (φ : Heap -> Prop)
abbrev Hp := Addr -> Option HO
def upd (H : Hp) (a : Addr) (o : HO) : Hp := fun b => if b = a then some o else H b
theorem upd_same {H : Hp} {a : Addr} {o : HO} : upd H a o a = some o := by unfold upd; rw [if_pos rfl]
theorem upd_ne {H : Hp} {a b : Addr} {o : HO} (h : b ≠ a) : upd H a o b = H b := by unfold upd; rw [if_neg h]
theorem upd_upd {H : Hp} {a : Addr} {o u : HO} : upd (upd H a o) a u = upd H a u := by
 funext b; unfold upd; split <;> rfl
theorem ne_of {H : Hp} {a b : Addr} {o u : HO} (h : H a = some o) (h' : H b = some u) (d : o ≠ u) : a ≠ b := by
 intro e; subst e; rw [h] at h'; exact d (Option.some.inj h')
theorem ne_of_none {H : Hp} {a b : Addr} {o : HO} (h : H a = some o) (h' : H b = none) : a ≠ b := by
 intro e; subst e; rw [h] at h'; cases h'
def TupN (h : Heap) (a : Addr) (items : Array Value) : Prop := ∃ o, h.get? a = some o /\ o.cls = .type "tuple" /\ ∃ n, o.data = .seq items n /\ o.dict = none
theorem TupN.is {h : Heap} {a : Addr} {items : Array Value} (x : TupN h a items) : IsTup h a items := let ⟨o, e, c, n, d, _⟩ := x; ⟨o, e, c, n, d⟩
theorem TupN.new (h : Heap) (items : Array Value) : TupN (h.push { cls := .type "tuple", data := .seq items }) h.objs.size items := ⟨_, Heap.get?_push_size _ rfl, rfl, _, rfl, rfl⟩
section
variable (P : Program) (w : World)
def ObjOk (H : Hp) (h : Heap) (a : Addr) : HO -> Prop
 | .lst xs => xs.length <= sizeLine /\ ∃ (its : List Value) (n : Nat), Vals xs its /\ h.get? a = some { cls := .type "list", data := .seq its.toArray n }
 | .tup xs => xs.length <= sizeLine /\ ∃ its : List Value, Vals xs its /\ TupN h a its.toArray
 | .dK kvs => kvs.length <= sizeLine /\ (a == sysModules) = false /\ ∃ vs, KV kvs vs /\ h.DictOf (mixKind P w) a vs
 | .dT kvs => kvs.length <= sizeLine /\ (a == sysModules) = false /\ ∃ xs : List (List Key × Addr × Value),
   Paired (fun (p : List Key × V) (q : List Key × Addr × Value) => p.1 = q.1 /\ H q.2.1 = some (.tup (p.1.map kV)) /\ RelV p.2 q.2.2) kvs xs /\
   ∃ o es ep, h.get? a = some o /\ o.ExactDict /\ o.data = .dict es ep /\ es.toList = xs.map (entryOfKey (tupleKind (mixKind P w))) /\ (xs.map (·.1)).Nodup
 | .set S n => h.SetOf (intKind P w) a S n
 | .ins C dx fs => H dx = some (.own a) /\ fs.length <= 1000 /\ dx ≠ a /\ h.get? a = some (PySem.W.instObj C dx) /\
   ∃ mA, h.Ns1 dx mA /\ (∀ f, RelO (fs.lookup f) (mA f)) /\ PySem.Within mA (fs.map (·.1))
 | .own _ => ∃ o, h.get? a = some o
 | .xd fs => ∃ mA, h.Ns1 a mA /\ ∀ f, RelO (fs.lookup f) (mA f)
 | .rng lo hi => ∃ t u v, h.get? a = some { cls := .type "range", data := .fields #[.int lo t, .int hi u, .int 1 v] }
 | .frz o u => h.get? a = some o /\ ObjOk H h a u
 | .tbl ps => h.get? a = some { cls := .none, data := .fields ps }
 | .met f x => h.get? a = some (PySem.W.methodObj (.ref f) (.ref x))
 | .ext φ => φ h /\ (∃ o, h.get? a = some o) /\ ∀ h1 h2 : Heap, φ h1 -> (∀ o, h1.get? a = some o -> h2.get? a = some o) -> φ h2
def HOk (H : Hp) (h : Heap) : Prop := ∀ a o, H a = some o -> ObjOk P w H h a o
end
section
variable {P : Program} {w : World} {H H' : Hp} {h h' : Heap} {a : Addr} {o : HO}
theorem ObjOk.lt (x : ObjOk P w H h a o) : a < h.objs.size := by
 cases o with
 | lst xs => obtain ⟨_, _, _, _, e⟩ := x; exact Heap.lt_size e
 | tup xs => obtain ⟨_, _, _, p⟩ := x; exact p.is.lt
 | dK kvs => obtain ⟨_, _, _, _, o, _, _, e, _⟩ := x; exact Heap.lt_size e
 | dT kvs => obtain ⟨_, _, _, _, o, _, _, e, _⟩ := x; exact Heap.lt_size e
 | set S n => obtain ⟨o, _, _, _, e, _⟩ := x; exact Heap.lt_size e
 | ins C dx fs => obtain ⟨_, _, _, e, _⟩ := x; exact Heap.lt_size e
 | own y => obtain ⟨_, e⟩ := x; exact Heap.lt_size e
 | xd fs => obtain ⟨_, ⟨_, _, _, e, _⟩, _⟩ := x; exact Heap.lt_size e
 | rng lo hi => obtain ⟨_, _, _, e⟩ := x; exact Heap.lt_size e
 | frz ob u => obtain ⟨e, _⟩ := x; exact Heap.lt_size e
 | tbl ps => exact Heap.lt_size (show h.get? a = some _ from x)
 | met f y => exact Heap.lt_size (show h.get? a = some _ from x)
 | ext φ => obtain ⟨_, ⟨_, e⟩, _⟩ := x; exact Heap.lt_size e
theorem Paired.mapP {α β : Type} {F G : α -> β -> Prop} : ∀ {l₁ : List α} {l₂ : List β}, Paired F l₁ l₂ -> (∀ a b, F a b -> G a b) -> Paired G l₁ l₂
 | _, _, .nil, _ => .nil
 | _, _, .cons r t, f => .cons (f _ _ r) (Paired.mapP t f)
theorem Paired.imp' {α β : Type} {F G : α -> β -> Prop} (f : ∀ a b, F a b -> G a b) {l₁ : List α} {l₂ : List β} (r : Paired F l₁ l₂) : Paired G l₁ l₂ := Paired.mapP r f
theorem ObjOk.stay (x : ObjOk P w H h a o) (k : ∀ b u, (b = a \/ H b = some (.own a)) -> h.get? b = some u -> h'.get? b = some u)
  (ho : ∀ b, H b = some (.own a) -> H' b = some (.own a)) (ht : ∀ b xs, H b = some (.tup xs) -> H' b = some (.tup xs)) : ObjOk P w H' h' a o := by
 induction o with
 | lst xs => obtain ⟨z, its, n, r, e⟩ := x; exact ⟨z, its, n, r, k _ _ (.inl rfl) e⟩
 | tup xs => obtain ⟨z, its, r, ob, e, c⟩ := x; exact ⟨z, its, r, ob, k _ _ (.inl rfl) e, c⟩
 | dK kvs => obtain ⟨z, y, vs, r, ob, es, ep, e, c⟩ := x; exact ⟨z, y, vs, r, ob, es, ep, k _ _ (.inl rfl) e, c⟩
 | dT kvs =>
  obtain ⟨z, y, xs, r, ob, es, ep, e, c⟩ := x
  exact ⟨z, y, xs, Paired.mapP r fun p q z => ⟨z.1, ht _ _ z.2.1, z.2.2⟩, ob, es, ep, k _ _ (.inl rfl) e, c⟩
 | set S n => obtain ⟨ob, es, ep, t, e, c⟩ := x; exact ⟨ob, es, ep, t, k _ _ (.inl rfl) e, c⟩
 | ins C dx fs =>
  obtain ⟨d, z, ne, e, mA, ⟨od, es, ep, e2, c⟩, r⟩ := x
  exact ⟨ho _ d, z, ne, k _ _ (.inl rfl) e, mA, ⟨od, es, ep, k _ _ (.inr d) e2, c⟩, r⟩
 | own y => obtain ⟨ob, e⟩ := x; exact ⟨ob, k _ _ (.inl rfl) e⟩
 | xd fs => obtain ⟨mA, ⟨od, es, ep, e, c⟩, r⟩ := x; exact ⟨mA, ⟨od, es, ep, k _ _ (.inl rfl) e, c⟩, r⟩
 | rng lo hi => obtain ⟨t, u, v, e⟩ := x; exact ⟨t, u, v, k _ _ (.inl rfl) e⟩
 | frz ob u ih => obtain ⟨e, q⟩ := x; exact ⟨k _ _ (.inl rfl) e, ih q⟩
 | tbl ps =>
  have e : h.get? a = some { cls := .none, data := .fields ps } := x
  show h'.get? a = some { cls := .none, data := .fields ps }
  exact k a _ (.inl rfl) e
 | met f y =>
  have e : h.get? a = some (PySem.W.methodObj (.ref f) (.ref y)) := x
  show h'.get? a = some (PySem.W.methodObj (.ref f) (.ref y))
  exact k a _ (.inl rfl) e
 | ext φ => obtain ⟨p, ⟨o, e⟩, st⟩ := x; exact ⟨st _ _ p fun o q => k _ _ (.inl rfl) q, ⟨o, k _ _ (.inl rfl) e⟩, st⟩
theorem HOk.lt (x : HOk P w H h) (e : H a = some o) : a < h.objs.size := (x a o e).lt
theorem HOk.fresh (x : HOk P w H h) (e : h.objs.size <= a) : H a = none := by
 cases q : H a with
 | none => rfl
 | some u => exact absurd (Nat.lt_of_lt_of_le (x.lt q) e) (Nat.lt_irrefl _)
theorem HOk.kept (x : HOk P w H h) (k : ∀ b u, h.get? b = some u -> h'.get? b = some u) : HOk P w H h' := fun a o e =>
 (x a o e).stay (fun b u _ q => k b u q) (fun _ q => q) fun _ _ q => q
theorem HOk.laid (x : HOk P w H h) (k : ∀ b u, h.get? b = some u -> h'.get? b = some u) (hp : h.objs.size <= a) (new : ObjOk P w (upd H a o) h' a o) : HOk P w (upd H a o) h' := fun b u e => by
 have hn := x.fresh hp
 by_cases hb : b = a
 ·subst hb; rw [upd_same] at e; cases e; exact new
 ·rw [upd_ne hb] at e
  exact (x b u e).stay (fun c v _ q => k c v q) (fun c q => by rw [upd_ne (ne_of_none q hn)]; exact q) fun c xs q => by rw [upd_ne (ne_of_none q hn)]; exact q
end
def Rd (H : Hp) (a : Addr) (u : HO) : Prop := H a = some u \/ ∃ o, H a = some (.frz o u)
theorem Rd.ok {P : Program} {w : World} {H : Hp} {h : Heap} {a : Addr} {u : HO} (r : Rd H a u) (x : HOk P w H h) : ObjOk P w H h a u := by
 rcases r with r | ⟨o, r⟩
 ·exact x a u r
 ·obtain ⟨_, q⟩ := x a _ r
  exact q
def Mut : Option HO -> Prop
 | some (.lst _) => True
 | some (.dK _) => True
 | some (.dT _) => True
 | some (.set _ _) => True
 | some (.ins _ _ _) => True
 | some (.ext _) => True
 | _ => False
section
variable {P : Program} {w : World} {H : Hp} {h h' : Heap} {x e : Addr} {o' : HO}
theorem HOk.write (ok : HOk P w H h) (mu : Mut (H x)) (he : e = x \/ H e = some (.own x)) (k : ∀ b u, b ≠ e -> h.get? b = some u -> h'.get? b = some u) (heo : ∃ u, h'.get? e = some u)
  (new : ObjOk P w (upd H x o') h' x o') : HOk P w (upd H x o') h' := fun b u q => by
 have nown : ∀ c y, H c = some (.own y) -> c ≠ x := fun c y r z => by subst z; rw [r] at mu; exact mu
 have ntup : ∀ c xs, H c = some (.tup xs) -> c ≠ x := fun c xs r z => by subst z; rw [r] at mu; exact mu
 by_cases hb : b = x
 ·subst hb; rw [upd_same] at q; cases q; exact new
 ·rw [upd_ne hb] at q
  by_cases hbe : b = e
  ·have q' : H b = some (.own x) := by
    rcases he with z | z
    ·exact absurd (hbe.trans z) hb
    ·rw [hbe]; exact z
   rw [q] at q'; cases q'
   obtain ⟨v, hv⟩ := heo
   exact ⟨v, by rw [hbe]; exact hv⟩
  ·refine (ok b u q).stay (fun c v hc r => k c v ?_ r) (fun c r => by rw [upd_ne (nown c b r)]; exact r) fun c xs r => by rw [upd_ne (ntup c xs r)]; exact r
   rcases hc with rfl | hc
   ·exact hbe
   ·rintro rfl
    rcases he with z | z
    ·exact nown c b hc z
    ·rw [hc] at z; cases z; exact hb rfl
end
structure Un (fs ex : List Addr) (H H' : Hp) (h h' : Heap) : Prop where
 keep : ∀ b o, h.get? b = some o -> H b = none -> b ∉ fs -> b ∉ ex -> h'.get? b = some o
 slot : ∀ b o, h.get? b = some o -> H b = none -> b ∈ fs -> b ∉ ex -> ∃ sl, h'.get? b = some { o with slots := sl }
 free : ∀ b o, h.get? b = some o -> H b = none -> b ∉ ex -> H' b = none
 there : ∀ b o, h.get? b = some o -> b ∉ ex -> ∃ o', h'.get? b = some o'
 tups : ∀ b xs, H b = some (.tup xs) -> H' b = some (.tup xs)
 frzs : ∀ b o u, H b = some (.frz o u) -> H' b = some (.frz o u)
 tbls : ∀ b ps, H b = some (.tbl ps) -> ∃ more, H' b = some (.tbl (ps ++ more))
section
variable {fs fs' ex ex' : List Addr} {H H1 H2 : Hp} {h h1 h2 h' : Heap} {a x e : Addr} {o : HO}
theorem Un.any (u : Un fs ex H H1 h h1) {b : Addr} {ob : Obj} (q : h.get? b = some ob) (n : H b = none) (hx : b ∉ ex) : ∃ sl, h1.get? b = some { ob with slots := sl } := by
 by_cases hb : b ∈ fs
 ·exact u.slot b ob q n hb hx
 ·exact ⟨ob.slots, u.keep b ob q n hb hx⟩
theorem Un.kept (k : ∀ b u, h.get? b = some u -> h'.get? b = some u) : Un fs ex H H h h' :=
 ⟨fun b ob q _ _ _ => k b ob q, fun b ob q _ _ _ => ⟨ob.slots, k b ob q⟩, fun _ _ _ n _ => n, fun b ob q _ => ⟨ob, k b ob q⟩, fun _ _ q => q, fun _ _ _ q => q, fun _ ps q => ⟨#[], by rw [q]; simp⟩⟩
theorem Un.refl : Un fs ex H H h h := Un.kept fun _ _ q => q
theorem Un.laid (k : ∀ b u, h.get? b = some u -> h'.get? b = some u) (hp : h.objs.size <= a) (hn : H a = none) : Un fs ex H (upd H a o) h h' where
 keep := fun b u q _ _ _ => k b u q
 slot := fun b u q _ _ _ => ⟨u.slots, k b u q⟩
 free := fun b u q n _ => by rw [upd_ne (Nat.ne_of_lt (Nat.lt_of_lt_of_le (Heap.lt_size q) hp))]; exact n
 there := fun b u q _ => ⟨u, k b u q⟩
 tups := fun b xs q => by rw [upd_ne (ne_of_none q hn)]; exact q
 frzs := fun b u xs q => by rw [upd_ne (ne_of_none q hn)]; exact q
 tbls := fun b ps q => ⟨#[], by rw [upd_ne (ne_of_none q hn), q]; simp⟩
theorem Un.write (mu : Mut (H x)) (he : e = x \/ H e = some (.own x)) (k : ∀ b u, b ≠ e -> h.get? b = some u -> h'.get? b = some u) (heo : ∃ u, h'.get? e = some u) : Un fs ex H (upd H x o) h h' := by
 have hx : ∀ b, H b = none -> b ≠ x := fun b n z => by subst z; rw [n] at mu; exact mu
 have hb : ∀ b, H b = none -> b ≠ e := fun b n z => by
  subst z
  rcases he with r | r
  ·exact hx b n r
  ·rw [n] at r; cases r
 have hm : ∀ b u, H b = some u -> ¬ Mut (some u) -> b ≠ x := fun b u q nm z => by subst z; rw [q] at mu; exact nm mu
 refine ⟨fun b u q n _ _ => k b u (hb b n) q, fun b u q n _ _ => ⟨u.slots, k b u (hb b n) q⟩, fun b u q n _ => by rw [upd_ne (hx b n)]; exact n, fun b u q _ => ?_,
  fun b xs q => by rw [upd_ne (hm b _ q fun z => z)]; exact q, fun b u xs q => by rw [upd_ne (hm b _ q fun z => z)]; exact q, fun b ps q => ⟨#[], by rw [upd_ne (hm b _ q fun z => z), q]; simp⟩⟩
 by_cases hbe : b = e
 ·subst hbe; exact heo
 ·exact ⟨u, k b u hbe q⟩
end
def trk (h : Heap) (H : Hp) : List Addr := (List.range h.objs.size).filter fun a => (H a).isSome
def hidT (h : Heap) (H : Hp) : Heap := PySem.W.hideAll h (trk h H)
theorem hidT_size (h : Heap) (H : Hp) : (hidT h H).objs.size = h.objs.size := PySem.W.hideAll_size _ _
theorem hidT_get {h : Heap} {H : Hp} {b : Addr} {o : Obj} (e : h.get? b = some o) (n : H b = none) : (hidT h H).get? b = some o :=
 PySem.W.hideAll_get _ e fun hm => by
  have q : (H b).isSome = true := (List.mem_filter.mp hm).2
  rw [n] at q; simp at q
theorem of_hidT {h : Heap} {H : Hp} {b : Addr} {o : Obj} (e : (hidT h H).get? b = some o) : h.get? b = some o /\ H b = none := by
 have e' : h.get? b = some o := PySem.W.of_hideAll (trk h H) e
 refine ⟨e', ?_⟩
 cases q : H b with
 | none => rfl
 | some x =>
  have hm : b ∈ trk h H := List.mem_filter.mpr ⟨List.mem_range.mpr (Heap.lt_size e'), by simp [q]⟩
  have z : (hidT h H).get? b = none := PySem.W.hideAll_none (trk h H) hm
  rw [z] at e; cases e
end L2
namespace L2
open PySem PySem.Spec PyProof.Rows
structure Mod (K : PySem.W.Frag) (mg : Str -> Option Value) (base : Heap) : Prop where
 kin : K.In base
 glob : base.Ns mainGlobals mg
 blt : ∃ mb, base.Ns builtinsNs mb /\ ∀ x : Str, x ≠ "__name__" -> mb x = bootBuiltins x
 nolimit : base.NoLimit
structure Cx where
 prog : Program
 w : World
 K : PySem.W.Frag
 mg : Str -> Option Value
 base : Heap
 A : Around
 N : List Str
 s₀ : Shared
 H₀ : Hp
 env : Env
 outer : List Env
 stack : List Env
 ex : List Addr
 fn : Str -> Bool
 calm : Bool
 pn : List (Addr × Obj)
 xe : Value -> Shared -> Prop
def frs (l : List Env) : List Addr := l.filterMap (·.frame)
abbrev Cx.fs (X : Cx) : List Addr := frs X.outer
def Vis (sc : Scope) (x : Str) : Prop := sc.names.lookup x = some .local \/ sc.names.lookup x = some .cell \/ sc.names.lookup x = some .free
def Loc (sc : Scope) (x : Str) : Prop := sc.names.lookup x = some .local \/ sc.names.lookup x = some .cell
def Look (env : Env) (h : Heap) (m : Str -> Option Value) (x : Str) (u : Value) : Prop :=
 (env.kindOf x = some .local /\ m x = some u) \/ ((env.kindOf x = some .cell \/ env.kindOf x = some .free) /\ ∃ c, env.cells.lookup x = some c /\ h.IsCell c (some u))
structure Cx.Ok (X : Cx) : Prop where
 mod : Mod X.K X.mg X.base
 kind : X.env.scope.kind = .function
 glob : X.env.globals = mainGlobals
 blt : X.env.builtins = builtinsNs
 above : X.s₀.heap.objs.size <= X.env.locals
 inj : ∀ x y c, X.env.cells.lookup x = some c -> X.env.cells.lookup y = some c -> x = y
 has : ∀ x, (X.env.kindOf x = some .cell \/ X.env.kindOf x = some .free) -> ∃ c, X.env.cells.lookup x = some c
 cab : ∀ x c, X.fn x = true -> X.env.cells.lookup x = some c -> X.s₀.heap.objs.size <= c
 hd : X.calm = true -> X.A.handled = none
 frames : X.A.frames = some X.stack
 stk : X.stack = X.outer \/ (X.stack = X.env :: X.outer /\ X.env.frame = some X.env.locals)
 exf : ∀ b ∈ X.ex, b ≠ X.env.locals /\ ∀ x c, X.env.cells.lookup x = some c -> c ≠ b
 bs : ∀ b o, X.base.get? b = some o -> X.s₀.heap.get? b = some o /\ X.H₀ b = none
 bsz : X.base.objs.size <= X.s₀.heap.objs.size
 noex : ∀ b o, X.base.get? b = some o -> b ∉ X.ex
 exfs : ∀ b ∈ X.ex, b ∉ X.fs
 funs : X.s₀.heap.FunFrames X.base X.outer
 frf : ∀ b ∈ X.fs, X.H₀ b = none
structure Inv (X : Cx) (pins : List (Addr × Obj)) (σ : List (Option V)) (H : Hp) (s : Shared) : Prop where
 ok : X.Ok
 os : s.os = X.s₀.os
 bare : AllBare s.gens
 base : Un X.fs X.ex X.H₀ H X.s₀.heap s.heap
 loc : ∃ m, s.heap.Ns X.env.locals m /\ ∀ (i : Nat) (x : Str) (v : V), X.N[i]? = some x -> σ[i]? = some (some v) -> Vis X.env.scope x -> ∃ u, RelV v u /\ Look X.env s.heap m x u
 cell : ∀ x c, X.env.cells.lookup x = some c -> ∃ v, s.heap.IsCell c v
 free : H X.env.locals = none
 freeC : ∀ x c, X.env.cells.lookup x = some c -> H c = none
 pin : ∀ p ∈ X.pn ++ pins, s.heap.get? p.1 = some p.2 /\ H p.1 = none /\ p.1 ≠ X.env.locals /\ p.1 ∉ X.fs /\ ∀ v, p.2.data ≠ .cell v
 hok : HOk X.prog X.w H s.heap
 len : σ.length = X.N.length
section
variable {X : Cx} {pins : List (Addr × Obj)} {σ : List (Option V)} {H H' : Hp} {s : Shared} {h' : Heap}
theorem Cx.Ok.nofr (ok : X.Ok) {b : Addr} {o : Obj} (e : X.base.get? b = some o) : b ∉ X.fs := fun hb => by
 have := (ok.funs.mem hb).1
 rw [e] at this; cases this
theorem Inv.bs (I : Inv X pins σ H s) : ∀ b o, X.base.get? b = some o -> s.heap.get? b = some o /\ H b = none := fun b o e =>
 ⟨I.base.keep b o (I.ok.bs b o e).1 (I.ok.bs b o e).2 (I.ok.nofr e) (I.ok.noex b o e), I.base.free b o (I.ok.bs b o e).1 (I.ok.bs b o e).2 (I.ok.noex b o e)⟩
theorem Inv.bk (I : Inv X pins σ H s) : ∀ b o, X.base.get? b = some o -> s.heap.get? b = some o := fun b o e => (I.bs b o e).1
theorem Inv.mod (I : Inv X pins σ H s) : Mod X.K X.mg X.base := I.ok.mod
theorem Inv.kIn (I : Inv X pins σ H s) : X.K.In s.heap := I.ok.mod.kin.keeps I.bk
theorem Inv.lt (I : Inv X pins σ H s) : X.env.locals < s.heap.objs.size := let ⟨_, hn, _⟩ := I.loc; hn.lt
theorem Inv.sz (I : Inv X pins σ H s) : X.s₀.heap.objs.size <= s.heap.objs.size := Nat.le_trans I.ok.above (Nat.le_of_lt I.lt)
theorem Inv.nofs (I : Inv X pins σ H s) {a : Addr} (h : s.heap.objs.size <= a) : a ∉ X.fs := fun hb => by
 obtain ⟨_, o, ho, _⟩ := I.ok.funs.mem hb
 exact absurd (Nat.lt_of_lt_of_le (Heap.lt_size ho) (Nat.le_trans I.sz h)) (Nat.lt_irrefl _)
theorem Inv.cne (I : Inv X pins σ H s) : ∀ x c, X.env.cells.lookup x = some c -> c ≠ X.env.locals := fun x c e z => by
 obtain ⟨v, o, ho, hd⟩ := I.cell x c e
 obtain ⟨m, ⟨o', es, ep, ho', hd', _⟩, _⟩ := I.loc
 rw [z, ho'] at ho; cases ho; rw [hd'] at hd; cases hd
theorem Inv.funs (I : Inv X pins σ H s) : s.heap.FunFrames X.base X.outer := by
 have all : ∀ (l : List Env), (∀ b ∈ frs l, b ∈ X.fs) -> X.s₀.heap.FunFrames X.base l -> s.heap.FunFrames X.base l := by
  intro l
  induction l with
  | nil => intro _ _; trivial
  | cons env r ih =>
   intro hs hl
   obtain ⟨hk, ⟨L, o, hf, hn, ho, hd⟩, hr⟩ := hl
   have hL : L ∈ X.fs := hs L (by unfold frs; rw [List.filterMap_cons, hf]; exact List.mem_cons_self)
   obtain ⟨sl, e⟩ := I.base.slot L o ho (I.ok.frf L hL) hL fun z => I.ok.exfs L z hL
   exact ⟨hk, ⟨L, _, hf, hn, e, hd⟩, ih (fun b hb => hs b (by unfold frs; rw [List.filterMap_cons, hf]; exact List.mem_cons_of_mem _ hb)) hr⟩
 exact all X.outer (fun _ hb => hb) I.ok.funs
theorem Inv.stack (I : Inv X pins σ H s) : s.heap.FunFrames X.base X.stack := by
 rcases I.ok.stk with e | ⟨e, hf⟩
 ·rw [e]; exact I.funs
 ·rw [e]
  obtain ⟨m, hn, _⟩ := I.loc
  refine .cons (by rw [I.ok.kind]; decide) hf hn ?_ I.funs
  exact Heap.get?_none_of_le (Nat.le_trans I.ok.bsz I.ok.above)
theorem Inv.stkSub (I : Inv X pins σ H s) : ∀ b ∈ frs X.stack, b ∈ X.env.locals :: X.fs := fun b hb => by
 rcases I.ok.stk with e | ⟨e, hf⟩
 ·rw [e] at hb; exact List.mem_cons_of_mem _ hb
 ·rw [e] at hb
  unfold frs at hb
  rw [List.filterMap_cons, hf] at hb
  exact hb
theorem Inv.stkFree (I : Inv X pins σ H s) : ∀ b ∈ frs X.stack, H b = none := fun b hb => by
 rcases List.mem_cons.mp (I.stkSub b hb) with e | hb
 ·rw [e]; exact I.free
 ·obtain ⟨_, o, ho, _⟩ := I.ok.funs.mem hb
  exact I.base.free b o ho (I.ok.frf b hb) fun z => I.ok.exfs b z hb
theorem Inv.step {g' : Array GenState} {t' : Nat} {d' : Drawn} {ch : List Addr} (I : Inv X pins σ H s)
  (hch : ∀ b ∈ ch, (b ∈ X.ex \/ X.s₀.heap.objs.size <= b) /\ b ≠ X.env.locals /\ (∀ x c, X.env.cells.lookup x = some c -> c ≠ b) /\ ∀ p ∈ X.pn ++ pins, p.1 ≠ b)
  (keep : ∀ b o, b ≠ X.env.locals -> b ∉ X.fs -> b ∉ ch -> s.heap.get? b = some o -> H b = none -> h'.get? b = some o)
  (slot : ∀ b o, b ≠ X.env.locals -> b ∈ X.fs -> b ∉ ch -> s.heap.get? b = some o -> H b = none -> ∃ sl, h'.get? b = some { o with slots := sl }) (free : ∀ b o, b ∉ ch -> s.heap.get? b = some o -> H b = none -> H' b = none)
  (there : ∀ b o, b ∉ ch -> s.heap.get? b = some o -> ∃ o', h'.get? b = some o')
  (tups : ∀ b xs, H b = some (.tup xs) -> H' b = some (.tup xs)) (frzs : ∀ b o u, H b = some (.frz o u) -> H' b = some (.frz o u)) (tbls : ∀ b ps, H b = some (.tbl ps) -> ∃ more, H' b = some (.tbl (ps ++ more)))
  (ns : ∀ m, s.heap.Ns X.env.locals m -> h'.Ns X.env.locals m) (hok : HOk X.prog X.w H' h') (hg : AllBare g') :
  Inv X pins σ H' { s with heap := h', gens := g', drawn := d', toks := t' } := by
 have neL : ∀ b o, X.s₀.heap.get? b = some o -> b ≠ X.env.locals := fun b o e => Nat.ne_of_lt (Nat.lt_of_lt_of_le (Heap.lt_size e) I.ok.above)
 have neC : ∀ b o, X.s₀.heap.get? b = some o -> b ∉ X.ex -> b ∉ ch := fun b o e hx hb => by
  rcases (hch b hb).1 with z | z
  ·exact hx z
  ·exact absurd (Nat.lt_of_lt_of_le (Heap.lt_size e) z) (Nat.lt_irrefl _)
 have cellK : ∀ x c, X.env.cells.lookup x = some c -> ∀ v, s.heap.IsCell c v -> h'.IsCell c v := fun x c e v ⟨o, ho, hd⟩ => by
  have nch : c ∉ ch := fun z => (hch c z).2.2.1 x c e rfl
  by_cases hc : c ∈ X.fs
  ·obtain ⟨sl, q⟩ := slot c o (I.cne x c e) hc nch ho (I.freeC x c e)
   exact ⟨_, q, hd⟩
  ·exact ⟨o, keep c o (I.cne x c e) hc nch ho (I.freeC x c e), hd⟩
 refine ⟨I.ok, I.os, hg, ⟨fun b o e n hb hx => ?_, fun b o e n hb hx => ?_, fun b o e n hx => ?_, fun b o e hx => ?_, fun b xs e => tups b xs (I.base.tups b xs e), fun b o xs e => frzs b o xs (I.base.frzs b o xs e), fun b ps e => ?_⟩, ?_, fun x c e => ?_, ?_, fun x c e => ?_, fun p hp => ?_, hok, I.len⟩
 ·exact keep b o (neL b o e) hb (neC b o e hx) (I.base.keep b o e n hb hx) (I.base.free b o e n hx)
 ·obtain ⟨sl, e1⟩ := I.base.slot b o e n hb hx
  obtain ⟨sl', e2⟩ := slot b _ (neL b o e) hb (neC b o e hx) e1 (I.base.free b o e n hx)
  exact ⟨sl', e2⟩
 ·obtain ⟨o', e1⟩ := I.base.there b o e hx
  exact free b o' (neC b o e hx) e1 (I.base.free b o e n hx)
 ·obtain ⟨o', e1⟩ := I.base.there b o e hx
  exact there b o' (neC b o e hx) e1
 ·obtain ⟨m1, e1⟩ := I.base.tbls b ps e
  obtain ⟨m2, e2⟩ := tbls b _ e1
  exact ⟨m1 ++ m2, by rw [e2, Array.append_assoc]⟩
 ·obtain ⟨m, hn, hl⟩ := I.loc
  refine ⟨m, ns m hn, fun i x v e1 e2 e3 => ?_⟩
  obtain ⟨u, r, l⟩ := hl i x v e1 e2 e3
  refine ⟨u, r, ?_⟩
  rcases l with l | ⟨k, c, e, z⟩
  ·exact .inl l
  ·exact .inr ⟨k, c, e, cellK x c e _ z⟩
 ·obtain ⟨v, z⟩ := I.cell x c e
  exact ⟨v, cellK x c e v z⟩
 ·obtain ⟨m, ⟨o, _, _, ho, _⟩, _⟩ := I.loc
  exact free _ o (fun z => (hch _ z).2.1 rfl) ho I.free
 ·obtain ⟨v, o, ho, hd⟩ := I.cell x c e
  exact free c o (fun z => (hch c z).2.2.1 x c e rfl) ho (I.freeC x c e)
 ·obtain ⟨e, n, ne, nf, d⟩ := I.pin p hp
  have nch : p.1 ∉ ch := fun z => (hch p.1 z).2.2.2 p hp rfl
  exact ⟨keep p.1 p.2 ne nf nch e n, free p.1 p.2 nch e n, ne, nf, d⟩
theorem Inv.un {t' : Nat} (I : Inv X pins σ H s) (u : Un X.fs [] H H' s.heap h') (hok : HOk X.prog X.w H' h') : Inv X pins σ H' { s with heap := h', toks := t' } := by
 obtain ⟨m, ⟨o, es, ep, ho, r⟩, _⟩ := id I.loc
 obtain ⟨sl, hL⟩ := u.any ho I.free (by simp)
 exact I.step (g' := s.gens) (d' := s.drawn) (ch := []) (fun _ z => nomatch z) (fun b o _ hb _ e n => u.keep b o e n hb (by simp)) (fun b o _ hb _ e n => u.slot b o e n hb (by simp)) (fun b o _ e n => u.free b o e n (by simp)) (fun b o _ e => u.there b o e (by simp)) u.tups u.frzs u.tbls (fun m' hm => by
  obtain ⟨o', es', ep', ho', r'⟩ := hm
  rw [ho] at ho'; cases ho'
  exact ⟨_, es', ep', hL, r'⟩) hok I.bare
theorem Inv.call {g' : Array GenState} {t' : Nat} {d' : Drawn} {ch : List Addr} (I : Inv X pins σ H s) (u : Un (frs X.stack) ch H H' s.heap h') (hok : HOk X.prog X.w H' h') (hg : AllBare g')
  (hch : ∀ b ∈ ch, (b ∈ X.ex \/ X.s₀.heap.objs.size <= b) /\ b ≠ X.env.locals /\ (∀ x c, X.env.cells.lookup x = some c -> c ≠ b) /\ ∀ p ∈ X.pn ++ pins, p.1 ≠ b) :
  Inv X pins σ H' { s with heap := h', gens := g', drawn := d', toks := t' } := by
 obtain ⟨m, ⟨o, es, ep, ho, r⟩, _⟩ := id I.loc
 obtain ⟨sl, hL⟩ := u.any ho I.free fun z => (hch _ z).2.1 rfl
 exact I.step (ch := ch) hch (fun b o hL hb hc e n => u.keep b o e n (fun z => (List.mem_cons.mp (I.stkSub b z)).elim hL hb) hc) (fun b o _ _ hc e n => u.any e n hc) (fun b o hc e n => u.free b o e n hc) (fun b o hc e => u.there b o e hc) u.tups u.frzs u.tbls (fun m' hm => by
  obtain ⟨o', es', ep', ho', r'⟩ := hm
  rw [ho] at ho'; cases ho'
  exact ⟨_, es', ep', hL, r'⟩) hok hg
theorem Inv.turned {t' : Nat} {it : Addr} (I : Inv X pins σ H s) (k : ∀ b o, b ≠ it -> s.heap.get? b = some o -> h'.get? b = some o) (hn : H it = none) (hL : it ≠ X.env.locals)
  (h1 : it ∈ X.ex \/ X.s₀.heap.objs.size <= it) (h2 : ∀ x c, X.env.cells.lookup x = some c -> c ≠ it) (h3 : ∀ p ∈ X.pn ++ pins, p.1 ≠ it) : Inv X pins σ H { s with heap := h', toks := t' } := by
 have nit : ∀ b u, H b = some u -> b ≠ it := fun b u e z => by rw [z, hn] at e; cases e
 refine I.step (g' := s.gens) (d' := s.drawn) (ch := [it]) (fun b hb => ?_) (fun b o _ _ hc e _ => k b o (fun z => hc (by simp [z])) e) (fun b o _ _ hc e _ => ⟨o.slots, k b o (fun z => hc (by simp [z])) e⟩) (fun _ _ _ _ n => n)
  (fun b o hc e => ⟨o, k b o (fun z => hc (by simp [z])) e⟩) (fun _ _ e => e) (fun _ _ _ e => e) (fun b ps e => ⟨#[], by rw [e]; simp⟩) (fun m hm => ?_) (fun b u e => ?_) I.bare
 ·have e : b = it := by simpa using hb
  subst e
  exact ⟨h1, hL, h2, h3⟩
 ·obtain ⟨o, es, ep, ho, r⟩ := hm
  exact ⟨o, es, ep, k _ o (Ne.symm hL) ho, r⟩
 ·refine (I.hok b u e).stay (fun c v hc q => k c v ?_ q) (fun _ q => q) fun _ _ q => q
  rcases hc with z | z
  ·rw [z]; exact nit b u e
  ·exact nit c _ z
theorem Inv.tok (I : Inv X pins σ H s) (t : Nat) : Inv X pins σ H { s with toks := t } := I.un (h' := s.heap) (t' := t) Un.refl I.hok
theorem Inv.kept {t' : Nat} (I : Inv X pins σ H s) (k : ∀ b u, s.heap.get? b = some u -> h'.get? b = some u) : Inv X pins σ H { s with heap := h', toks := t' } := I.un (Un.kept k) (I.hok.kept k)
theorem Inv.laid {a : Addr} {o : HO} {t' : Nat} (I : Inv X pins σ H s) (k : ∀ b u, s.heap.get? b = some u -> h'.get? b = some u) (hp : s.heap.objs.size <= a) (new : ObjOk X.prog X.w (upd H a o) h' a o) :
  Inv X pins σ (upd H a o) { s with heap := h', toks := t' } := I.un (Un.laid k hp (I.hok.fresh hp)) (I.hok.laid k hp new)
theorem Inv.write {x e : Addr} {o : HO} {t' : Nat} (I : Inv X pins σ H s) (mu : Mut (H x)) (he : e = x \/ H e = some (.own x)) (k : ∀ b u, b ≠ e -> s.heap.get? b = some u -> h'.get? b = some u) (heo : ∃ u, h'.get? e = some u)
  (new : ObjOk X.prog X.w (upd H x o) h' x o) : Inv X pins σ (upd H x o) { s with heap := h', toks := t' } := I.un (Un.write mu he k heo) (I.hok.write mu he k heo new)
theorem Inv.pins_of {pins' : List (Addr × Obj)} (I : Inv X pins σ H s) (h : ∀ p ∈ pins', s.heap.get? p.1 = some p.2 /\ H p.1 = none /\ p.1 ≠ X.env.locals /\ p.1 ∉ X.fs /\ ∀ v, p.2.data ≠ .cell v) : Inv X pins' σ H s :=
 ⟨I.ok, I.os, I.bare, I.base, I.loc, I.cell, I.free, I.freeC, fun p hp => (List.mem_append.mp hp).elim (fun z => I.pin p (List.mem_append_left _ z)) (h p), I.hok, I.len⟩
theorem nodup_ix {N : List Str} (hN : N.Nodup) {i j : Nat} {x : Str} (a : N[i]? = some x) (b : N[j]? = some x) : i = j := by
 obtain ⟨h1, e1⟩ := List.getElem?_eq_some_iff.mp a
 obtain ⟨h2, e2⟩ := List.getElem?_eq_some_iff.mp b
 exact (List.getElem_inj hN).mp (e1.trans e2.symm)
theorem store_ok2 {M : Model} {A : Around} {E : Value -> Shared -> Prop} {i : Nat} {x : Str} {v : V} {u : Value} {Q : Unit -> Shared -> Prop} (I : Inv X pins σ H s) (hN : X.N.Nodup) (hi : X.N[i]? = some x) (hx : Loc X.env.scope x) (r : RelV v u)
  (h : ∀ s', Inv X pins (σ.set i (some v)) H s' -> (∃ a, Heap.SameBut a s.heap s'.heap /\ (a = X.env.locals \/ X.env.cells.lookup x = some a)) -> Q () s') (hf : X.fn x = true \/ X.env.scope.names.lookup x = some .local := by first | exact .inl rfl | exact .inr rfl | assumption) : wpAny M A (storeName X.env x u) Q E s := by
 obtain ⟨m, hn, hl⟩ := id I.loc
 have hcls : (X.env.scope.kind == .class || (X.env.scope.kind == .module && X.env.locals != X.env.globals)) = false := by rw [I.ok.kind]; rfl
 have hiσ : i < σ.length := by rw [I.len]; exact (List.getElem?_eq_some_iff.mp hi).1
 have cne := I.cne
 have tracked : ∀ {a : Addr} {h' : Heap}, (∃ o, s.heap.get? a = some o /\ H a = none) -> Heap.SameBut a s.heap h' -> HOk X.prog X.w H h' := fun {a h'} ha hs b ob e => by
  obtain ⟨_, _, hfree⟩ := ha
  refine (I.hok b ob e).stay (fun c w' hc q => (hs.2 c ?_).trans q) (fun _ q => q) fun _ _ q => q
  rintro rfl
  rcases hc with rfl | hc
  ·rw [hfree] at e; cases e
  ·rw [hfree] at hc; cases hc
 rcases hx with hk | hk
 ·refine wpAny_storeName_local hk hn (fun h' hn' hs => ?_) hcls
  obtain ⟨oL, _, _, hoL, _⟩ := id hn
  refine h _ ⟨I.ok, I.os, I.bare, ⟨fun b o e n hb hx => ?_, fun b o e n hb hx => ?_, I.base.free, fun b o e hx => ?_, I.base.tups, I.base.frzs, I.base.tbls⟩, ⟨_, hn', fun j y v' e1 e2 e3 => ?_⟩, fun y c e => ?_, I.free, I.freeC, fun p hp => ?_, tracked ⟨oL, hoL, I.free⟩ hs, by simpa using I.len⟩ ⟨_, hs, .inl rfl⟩
  ·exact (hs.2 b (Nat.ne_of_lt (Nat.lt_of_lt_of_le (Heap.lt_size e) I.ok.above))).trans (I.base.keep b o e n hb hx)
  ·obtain ⟨sl, e1⟩ := I.base.slot b o e n hb hx
   exact ⟨sl, (hs.2 b (Nat.ne_of_lt (Nat.lt_of_lt_of_le (Heap.lt_size e) I.ok.above))).trans e1⟩
  ·obtain ⟨o', e1⟩ := I.base.there b o e hx
   exact ⟨o', (hs.2 b (Nat.ne_of_lt (Nat.lt_of_lt_of_le (Heap.lt_size e) I.ok.above))).trans e1⟩
  ·by_cases hj : j = i
   ·subst hj
    rw [hi] at e1; cases e1
    rw [List.getElem?_set_self hiσ] at e2
    cases e2
    exact ⟨u, r, .inl ⟨hk, by simp⟩⟩
   ·rw [List.getElem?_set_ne (Ne.symm hj)] at e2
    obtain ⟨u', r', q⟩ := hl j y v' e1 e2 e3
    refine ⟨u', r', ?_⟩
    rcases q with ⟨k, e⟩ | ⟨k, c, e, z⟩
    ·refine .inl ⟨k, ?_⟩
     have : y ≠ x := fun e => hj (nodup_ix hN e1 (e ▸ hi))
     simp [this, e]
    ·exact .inr ⟨k, c, e, z.sameBut hs (cne y c e)⟩
  ·obtain ⟨w', z⟩ := I.cell y c e
   exact ⟨w', z.sameBut hs (cne y c e)⟩
  ·obtain ⟨e, n, ne, nf, d⟩ := I.pin p hp
   exact ⟨(hs.2 p.1 ne).trans e, n, ne, nf, d⟩
 ·have hfn : X.fn x = true := by
   rcases hf with z | z
   ·exact z
   ·rw [z] at hk; cases hk
  obtain ⟨c, hc⟩ := I.ok.has x (.inl hk)
  obtain ⟨w', z⟩ := I.cell x c hc
  refine wpAny_storeName_cell I.ok.kind hk hc z (fun h' hc' hs => ?_)
  obtain ⟨oc, hoc, hocd⟩ := id z
  refine h { s with heap := h' } ⟨I.ok, I.os, I.bare, ⟨fun b o e n hb hx => ?_, fun b o e n hb hx => ?_, I.base.free, fun b o e hx => ?_, I.base.tups, I.base.frzs, I.base.tbls⟩, ⟨m, hn.sameBut hs (Ne.symm (cne x c hc)), fun j y v' e1 e2 e3 => ?_⟩, fun y c' e => ?_, I.free, I.freeC, fun p hp => ?_, tracked ⟨oc, hoc, I.freeC x c hc⟩ hs, by simpa using I.len⟩ ⟨c, hs, .inr hc⟩
  ·exact (hs.2 b (Nat.ne_of_lt (Nat.lt_of_lt_of_le (Heap.lt_size e) (I.ok.cab x c hfn hc)))).trans (I.base.keep b o e n hb hx)
  ·obtain ⟨sl, e1⟩ := I.base.slot b o e n hb hx
   exact ⟨sl, (hs.2 b (Nat.ne_of_lt (Nat.lt_of_lt_of_le (Heap.lt_size e) (I.ok.cab x c hfn hc)))).trans e1⟩
  ·obtain ⟨o', e1⟩ := I.base.there b o e hx
   exact ⟨o', (hs.2 b (Nat.ne_of_lt (Nat.lt_of_lt_of_le (Heap.lt_size e) (I.ok.cab x c hfn hc)))).trans e1⟩
  ·by_cases hj : j = i
   ·subst hj
    rw [hi] at e1; cases e1
    rw [List.getElem?_set_self hiσ] at e2
    cases e2
    exact ⟨u, r, .inr ⟨.inl hk, c, hc, hc'⟩⟩
   ·rw [List.getElem?_set_ne (Ne.symm hj)] at e2
    obtain ⟨u', r', q⟩ := hl j y v' e1 e2 e3
    refine ⟨u', r', ?_⟩
    rcases q with q | ⟨k, c', e, z'⟩
    ·exact .inl q
    ·refine .inr ⟨k, c', e, z'.sameBut hs ?_⟩
     rintro rfl
     exact hj (nodup_ix hN e1 (I.ok.inj _ _ _ e hc ▸ hi))
  ·by_cases hcc : c' = c
   ·subst hcc; exact ⟨_, hc'⟩
   ·obtain ⟨w2, z2⟩ := I.cell y c' e
    exact ⟨w2, z2.sameBut hs hcc⟩
  ·obtain ⟨e, n, ne, nf, d⟩ := I.pin p hp
   refine ⟨(hs.2 p.1 ?_).trans e, n, ne, nf, d⟩
   intro q
   rw [q, hoc] at e
   have q' : oc = p.2 := Option.some.inj e
   exact d w' (by rw [<- q']; exact hocd)
theorem store_ok {M : Model} {A : Around} {E : Value -> Shared -> Prop} {i : Nat} {x : Str} {v : V} {u : Value} {Q : Unit -> Shared -> Prop} (I : Inv X pins σ H s) (hN : X.N.Nodup) (hi : X.N[i]? = some x) (hx : Loc X.env.scope x) (r : RelV v u)
  (h : ∀ s', Inv X pins (σ.set i (some v)) H s' -> Q () s') (hf : X.fn x = true \/ X.env.scope.names.lookup x = some .local := by first | exact .inl rfl | exact .inr rfl | assumption) : wpAny M A (storeName X.env x u) Q E s :=
 store_ok2 I hN hi hx r (fun s' I' _ => h s' I') hf
theorem Inv.call' {s' : Shared} {ch : List Addr} (I : Inv X pins σ H s) (ho : s'.os = s.os) (u : Un (frs X.stack) ch H H' s.heap s'.heap) (hok : HOk X.prog X.w H' s'.heap) (hg : AllBare s'.gens)
  (hch : ∀ b ∈ ch, (b ∈ X.ex \/ X.s₀.heap.objs.size <= b) /\ b ≠ X.env.locals /\ (∀ x c, X.env.cells.lookup x = some c -> c ≠ b) /\ ∀ p ∈ X.pn ++ pins, p.1 ≠ b) : Inv X pins σ H' s' := by
 obtain ⟨h', g', d', t', o'⟩ := s'
 have e : o' = s.os := ho
 subst e
 exact I.call (g' := g') (t' := t') (d' := d') u hok hg hch
end
abbrev XK := Value -> Option Addr -> Hp -> Prop
abbrev St := List (Option V)
abbrev VK := V -> Hp -> Prop
abbrev TE := St -> Hp -> VK -> Prop
abbrev TT := St -> Hp -> (Bool -> Hp -> Prop) -> Prop
abbrev TA := St -> Hp -> (List V -> Hp -> Prop) -> Prop
structure Ends where
 nx : St -> Hp -> Prop
 rt : VK
 bk : St -> Hp -> Prop := fun _ _ => False
 ct : St -> Hp -> Prop := fun _ _ => False
abbrev TS := Ends -> St -> Hp -> Prop
def EP (X : Cx) (pins : List (Addr × Obj)) (σ : St) (Q : VK) (u : Value) (s' : Shared) : Prop := ∃ v H', Inv X pins σ H' s' /\ RelV v u /\ Q v H'
def TP (X : Cx) (pins : List (Addr × Obj)) (σ : St) (Q : Bool -> Hp -> Prop) (b : Bool) (s' : Shared) : Prop := ∃ H', Inv X pins σ H' s' /\ Q b H'
def AP (X : Cx) (pins : List (Addr × Obj)) (σ : St) (Q : List V -> Hp -> Prop) (us : List Value) (s' : Shared) : Prop := ∃ vs H', Inv X pins σ H' s' /\ Vals vs us /\ Q vs H'
def SP (X : Cx) (pins : List (Addr × Obj)) (D : Ends) (f : Flow) (s' : Shared) : Prop :=
 match f with
 | .next => ∃ σ' H', Inv X pins σ' H' s' /\ D.nx σ' H'
 | .brk => ∃ σ' H', Inv X pins σ' H' s' /\ D.bk σ' H'
 | .cont => ∃ σ' H', Inv X pins σ' H' s' /\ D.ct σ' H'
 | .ret u => ∃ v σ' H', Inv X pins σ' H' s' /\ RelV v u /\ D.rt v H'
def PE (X : Cx) (e : Expr) (t : TE) : Prop :=
 ∀ (pins : List (Addr × Obj)) (s : Shared) (σ : St) (H : Hp) (Q : VK), Inv X pins σ H s -> t σ H Q -> wpAny (model X.prog X.w) X.A (eval e X.env) (EP X pins σ Q) X.xe s
def PT (X : Cx) (e : Expr) (t : TT) : Prop :=
 ∀ (pins : List (Addr × Obj)) (s : Shared) (σ : St) (H : Hp) (Q : Bool -> Hp -> Prop), Inv X pins σ H s -> t σ H Q -> wpAny (model X.prog X.w) X.A (isTrue e X.env (eval e X.env)) (TP X pins σ Q) X.xe s
def PW (X : Cx) (e : Expr) (t : TT) : Prop :=
 ∀ (whole : Sem Value) (pins : List (Addr × Obj)) (s : Shared) (σ : St) (H : Hp) (Q : Bool -> Hp -> Prop), Inv X pins σ H s -> t σ H Q -> wpAny (model X.prog X.w) X.A (isTrue e X.env whole) (TP X pins σ Q) X.xe s
theorem PW.pt {X : Cx} {e : Expr} {t : TT} (h : PW X e t) : PT X e t := h _
def PA (X : Cx) (es : List Expr) (t : TA) : Prop :=
 ∀ (pos : Pos) (pins : List (Addr × Obj)) (s : Shared) (σ : St) (H : Hp) (Q : List V -> Hp -> Prop), Inv X pins σ H s -> t σ H Q -> wpAny (model X.prog X.w) X.A (spliced (backTo pos (starEach es X.env))) (AP X pins σ Q) X.xe s
def PS (X : Cx) (st : Stmt) (t : TS) : Prop :=
 ∀ (pins : List (Addr × Obj)) (s : Shared) (σ : St) (H : Hp) (D : Ends), Inv X pins σ H s -> t D σ H -> wpAny (model X.prog X.w) X.A (exec st X.env) (SP X pins D) X.xe s
def PSs (X : Cx) (st : List Stmt) (t : TS) : Prop :=
 ∀ (pins : List (Addr × Obj)) (s : Shared) (σ : St) (H : Hp) (D : Ends), Inv X pins σ H s -> t D σ H -> wpAny (model X.prog X.w) X.A (execs st X.env) (SP X pins D) X.xe s
theorem thn {α : Type} {t : Sem α} {Q Q' : α -> Shared -> Prop} {M : Model} {A : Around} {E : Value -> Shared -> Prop} {s : Shared} (h : wpAny M A t Q E s) (hQ : ∀ a s, Q a s -> Q' a s) : wpAny M A t Q' E s := wpAny_mono h hQ fun _ _ x => x
end L2
namespace L2
open PySem PySem.Spec PyProof.Rows
section
variable {X : Cx}
def tVar (i : Nat) : TE := fun σ H Q => ∃ v, σ[i]? = some (some v) /\ Q v H
def tC (v : V) : TE := fun _ H Q => Q v H
theorem pe_var {i : Nat} {x : Str} {pos : Pos} (hN : X.N[i]? = some x) (hv : Vis X.env.scope x) (hd : (x == ("__debug__" : Str)) = false := by decide) (hcd : (x == ("__classdict__" : Str)) = false := by decide) : PE X (.Name x pos) (tVar i) := by
 intro pins s σ H Q I h
 obtain ⟨v, e, h⟩ := h
 obtain ⟨m, hn, hl⟩ := I.loc
 obtain ⟨u, r, l⟩ := hl i x v hN e hv
 have fin : EP X pins σ Q u s := ⟨v, H, I, r, h⟩
 rcases l with ⟨hk, hm⟩ | ⟨hk, c, hc, hcell⟩
 ·exact wpAny_Name (wpAny_loadName_local I.ok.kind hk hn hm fin) hd
 ·rcases hk with hk | hk
  ·exact wpAny_Name (wpAny_loadName_cell I.ok.kind hk hc hcell fin) hd
  ·exact wpAny_Name (wpAny_loadName_free I.ok.kind hk hc hcell fin hcd) hd
theorem pe_int {i j pos} : PE X (.Constant (.int i) j pos) (tC (.int i)) := fun _ _ _ H _ I h => wpAny_Constant_int ⟨.int i, H, I.tok _, ⟨_, rfl⟩, h⟩
theorem pe_bl {b j pos} : PE X (.Constant (.bool b) j pos) (tC (.bl b)) := fun _ _ _ H _ I h => Constant_bool ⟨.bl b, H, I, rfl, h⟩
theorem pe_non {j pos} : PE X (.Constant .none j pos) (tC .non) := fun _ _ _ H _ I h => Constant_none ⟨.non, H, I, rfl, h⟩
theorem pe_str {x j pos} : PE X (.Constant (.str x) j pos) (tC (.str x)) := fun _ _ _ H _ I h => Calls.Constant_str ⟨.str x, H, I.tok _, ⟨_, rfl⟩, h⟩
def Gl (X : Cx) (x : Str) : Prop := X.env.kindOf x = some .globalImplicit
theorem ld_glob {E : Value -> Shared -> Prop} {pins : List (Addr × Obj)} {s : Shared} {σ : St} {H : Hp} {x : Str} {u : Value} {pos : Pos} {Q : Value -> Shared -> Prop} (I : Inv X pins σ H s) (hg : Gl X x) (hm : X.mg x = some u) (h : Q u s)
  (hd : (x == ("__debug__" : Str)) = false := by decide) : wpAny (model X.prog X.w) X.A (eval (.Name x pos) X.env) Q E s :=
 Calls.Name_function_global I.ok.kind hg (Calls.loadGlobal_global (by rw [I.ok.glob]; exact I.mod.glob.keeps I.bk) hm h) hd
theorem ld_blt {E : Value -> Shared -> Prop} {pins : List (Addr × Obj)} {s : Shared} {σ : St} {H : Hp} {x : Str} {u : Value} {pos : Pos} {Q : Value -> Shared -> Prop} (I : Inv X pins σ H s) (hg : Gl X x) (hm : X.mg x = none) (hv : bootBuiltins x = some u) (h : Q u s)
  (hn : x ≠ "__name__" := by decide) (hd : (x == ("__debug__" : Str)) = false := by decide) : wpAny (model X.prog X.w) X.A (eval (.Name x pos) X.env) Q E s := by
 obtain ⟨mb, h1, h2⟩ := I.mod.blt
 exact Calls.Name_function_global I.ok.kind hg (Calls.loadGlobal_builtin (by rw [I.ok.glob]; exact I.mod.glob.keeps I.bk) hm (by rw [I.ok.blt]; exact h1.keeps I.bk) ((h2 x hn).trans hv) h) hd
theorem pe_glob {x : Str} {v : V} {u : Value} {pos : Pos} (hg : Gl X x) (hm : X.mg x = some u) (r : RelV v u) (hd : (x == ("__debug__" : Str)) = false := by decide) : PE X (.Name x pos) (tC v) :=
 fun _ _ _ H _ I h => ld_glob I hg hm ⟨v, H, I, r, h⟩ hd
theorem pe_bltn {x : Str} {v : V} {u : Value} {pos : Pos} (hg : Gl X x) (hm : X.mg x = none) (hv : bootBuiltins x = some u) (r : RelV v u) (hn : x ≠ "__name__" := by decide) (hd : (x == ("__debug__" : Str)) = false := by decide) : PE X (.Name x pos) (tC v) :=
 fun _ _ _ H _ I h => ld_blt I hg hm hv ⟨v, H, I, r, h⟩ hn hd
variable {a b : Expr} {ta tb : TE} {pos : Pos}
def tB (t : TE) : TT := fun σ H Q => t σ H fun x H1 => ∃ c, x = .bl c /\ Q c H1
theorem pt_val {e : Expr} {t : TE} (h : PE X e t) (he : ∀ whole, isTrue e X.env whole = (do let v <- whole; standAt e.pos; holding [v] (truthy v)) := by intro _; rfl) : PT X e (tB t) := by
 intro pins s σ H Q I hw
 refine isTrue_plain (thn (h pins s σ H _ I hw) fun v s1 ⟨x, H1, I1, r1, q1⟩ => ?_) (he _)
 obtain ⟨d, rfl, q⟩ := q1
 cases r1
 exact wpAny_truthy_bool ⟨H1, I1, q⟩
variable {tA tB' : TT} {rest : List Expr}
def tAnd (t u : TT) : TT := fun σ H Q => t σ H fun c H1 => if c = true then u σ H1 Q else Q false H1
def tOr (t u : TT) : TT := fun σ H Q => t σ H fun c H1 => if c = true then Q true H1 else u σ H1 Q
def tNot (t : TT) : TT := fun σ H Q => t σ H fun c H1 => Q (!c) H1
theorem pw_and1 (ha : PT X a tA) : PW X (.BoolOp .And [a] pos) tA := by
 intro wh pins s σ H Q I h
 refine isTrue_and (thn (ha pins s σ H Q I h) fun c s1 e => ?_)
 cases c with
 | true => exact isTrue_and_nil e
 | false => exact e
theorem pw_or1 (ha : PT X a tA) : PW X (.BoolOp .Or [a] pos) tA := by
 intro wh pins s σ H Q I h
 refine isTrue_or (thn (ha pins s σ H Q I h) fun c s1 e => ?_)
 cases c with
 | false => exact isTrue_or_nil e
 | true => exact e
theorem pw_and (ha : PT X a tA) (hb : PW X (.BoolOp .And (b :: rest) pos) tB') : PW X (.BoolOp .And (a :: b :: rest) pos) (tAnd tA tB') := by
 intro wh pins s σ H Q I h
 refine isTrue_and (thn (ha pins s σ H _ I h) fun c s1 ⟨H1, I1, q1⟩ => ?_)
 cases c with
 | true => exact hb wh pins s1 σ H1 Q I1 q1
 | false => exact ⟨H1, I1, q1⟩
theorem pw_or (ha : PT X a tA) (hb : PW X (.BoolOp .Or (b :: rest) pos) tB') : PW X (.BoolOp .Or (a :: b :: rest) pos) (tOr tA tB') := by
 intro wh pins s σ H Q I h
 refine isTrue_or (thn (ha pins s σ H _ I h) fun c s1 ⟨H1, I1, q1⟩ => ?_)
 cases c with
 | true => exact ⟨H1, I1, q1⟩
 | false => exact hb wh pins s1 σ H1 Q I1 q1
theorem pt_not (ha : PT X a tA) : PT X (.UnaryOp .Not a pos) (tNot tA) := by
 intro pins s σ H Q I h
 exact isTrue_not (ha pins s σ H (fun c H1 => Q (!c) H1) I h)
def tAndV (ta tb : TE) : TE := fun σ H Q => ta σ H fun x H1 => ∃ c, x = .bl c /\ if c = true then tb σ H1 Q else Q (.bl false) H1
def tNotV (ta : TE) : TE := fun σ H Q => ta σ H fun x H1 => ∃ c, x = .bl c /\ Q (.bl (!c)) H1
theorem pe_one {op} {t : TE} (h : PE X a t) : PE X (.BoolOp op [a] pos) t := fun pins s σ H Q I hw => BoolOp_one (h pins s σ H Q I hw)
theorem pe_and (ha : PE X a ta) (hb : PE X (.BoolOp .And (b :: rest) pos) tb) : PE X (.BoolOp .And (a :: b :: rest) pos) (tAndV ta tb) := by
 intro pins s σ H Q I h
 refine BoolOp_and (thn (ha pins s σ H _ I h) fun v s1 ⟨x, H1, I1, r1, q1⟩ => ?_)
 obtain ⟨c, rfl, q1⟩ := q1
 cases r1
 refine wpAny_truthy_bool ?_
 cases c with
 | true => exact hb pins s1 σ H1 Q I1 q1
 | false => exact ⟨.bl false, H1, I1, rfl, q1⟩
theorem pe_not (ha : PE X a ta) : PE X (.UnaryOp .Not a pos) (tNotV ta) := by
 intro pins s σ H Q I h
 refine UnaryOp_ (thn (ha pins s σ H _ I h) fun v s1 ⟨x, H1, I1, r1, q1⟩ => ?_)
 obtain ⟨c, rfl, q1⟩ := q1
 cases r1
 exact not_of (wpAny_truthy_bool ⟨.bl (!c), H1, I1, rfl, q1⟩)
end
end L2
namespace L2
open PySem PySem.Spec PyProof.Rows
def SqL (K : PySem.W.Frag) (H : Hp) (a : Addr) (xs : List V) : Prop :=
 Rd H a (.lst xs) \/
  ∃ (o : Obj) (its : Array Value) (n : Nat), K.lookup a = some o /\ o.cls = .type "list" /\ o.dict = none /\ o.data = .seq its n /\ its.size <= sizeLine /\ Vals xs its.toList
def SqT (K : PySem.W.Frag) (H : Hp) (a : Addr) (xs : List V) : Prop :=
 Rd H a (.tup xs) \/
  ∃ (o : Obj) (its : Array Value) (n : Nat), K.lookup a = some o /\ o.cls = .type "tuple" /\ o.data = .seq its n /\ its.size <= sizeLine /\ Vals xs its.toList
def absV : Value -> Option V
 | .none => some .non
 | .bool b => some (.bl b)
 | .int i _ => some (.int i)
 | .str x _ => some (.str x)
 | .bytes b _ => some (.byt b)
 | .float b _ => some (.flt b)
 | .ref a => some (.ref a)
 | .type n => some (.ty n)
 | _ => none
theorem RelV.abs {x : V} {u : Value} (r : RelV x u) : absV u = some x := by
 cases x with
 | non => cases r; rfl
 | bl _ => cases r; rfl
 | int _ => obtain ⟨t, rfl⟩ := r; rfl
 | str _ => obtain ⟨t, rfl⟩ := r; rfl
 | byt _ => obtain ⟨t, rfl⟩ := r; rfl
 | flt _ => obtain ⟨t, rfl⟩ := r; rfl
 | ref _ => cases r; rfl
 | ty _ => cases r; rfl
theorem RelV.inj {x y : V} {u : Value} (r : RelV x u) (q : RelV y u) : x = y := Option.some.inj (r.abs.symm.trans q.abs)
theorem Vals.inj : ∀ {xs ys : List V} {us : List Value}, Vals xs us -> Vals ys us -> xs = ys
 | _, _, _, .nil, .nil => rfl
 | _, _, _, .cons r t, .cons r' t' => by rw [r.inj r', Vals.inj t t']
section
variable {X : Cx} {pins : List (Addr × Obj)} {σ : St} {H : Hp} {s : Shared} {a : Addr} {xs ys : List V}
theorem SqL.of {K : PySem.W.Frag} (h : H a = some (.lst xs)) : SqL K H a xs := .inl (.inl h)
theorem SqT.of {K : PySem.W.Frag} (h : H a = some (.tup xs)) : SqT K H a xs := .inl (.inl h)
theorem Inv.list (I : Inv X pins σ H s) (h : SqL X.K H a xs) : ∃ its : List Value, Vals xs its /\ PlainL s.heap a its.toArray /\ xs.length <= sizeLine := by
 rcases h with h | ⟨o, its, n, hk, hc, hd, hs, hz, r⟩
 ·obtain ⟨z, its, n, r, e⟩ := h.ok I.hok
  exact ⟨its, r, ⟨_, n, e, rfl, rfl, rfl⟩, z⟩
 ·refine ⟨its.toList, r, ⟨o, n, I.kIn a o hk, hc, hd, by simpa using hs⟩, ?_⟩
  have e := r.length
  simp only [Array.length_toList] at e
  omega
theorem Inv.tuple (I : Inv X pins σ H s) (h : SqT X.K H a xs) : ∃ its : List Value, Vals xs its /\ IsTup s.heap a its.toArray /\ xs.length <= sizeLine := by
 rcases h with h | ⟨o, its, n, hk, hc, hs, hz, r⟩
 ·obtain ⟨z, its, r, p⟩ := h.ok I.hok
  exact ⟨its, r, p.is, z⟩
 ·refine ⟨its.toList, r, ⟨o, I.kIn a o hk, hc, n, by simpa using hs⟩, ?_⟩
  have e := r.length
  simp only [Array.length_toList] at e
  omega
theorem Inv.list_inj (I : Inv X pins σ H s) (h : SqL X.K H a xs) (h' : SqL X.K H a ys) : xs = ys := by
 obtain ⟨its, r, ⟨o, n, e, _, _, d⟩, _⟩ := I.list h
 obtain ⟨its', r', ⟨o', n', e', _, _, d'⟩, _⟩ := I.list h'
 rw [e] at e'; cases e'
 rw [d] at d'
 injection d' with d1 _
 have : its = its' := by simpa using congrArg Array.toList d1
 subst this
 exact r.inj r'
theorem Inv.tuple_inj (I : Inv X pins σ H s) (h : SqT X.K H a xs) (h' : SqT X.K H a ys) : xs = ys := by
 obtain ⟨its, r, ⟨o, e, _, n, d⟩, _⟩ := I.tuple h
 obtain ⟨its', r', ⟨o', e', _, n', d'⟩, _⟩ := I.tuple h'
 rw [e] at e'; cases e'
 rw [d] at d'
 injection d' with d1 _
 have : its = its' := by simpa using congrArg Array.toList d1
 subst this
 exact r.inj r'
end
abbrev Cx.wish (X : Cx) (E : Value -> Shared -> Prop) : Cx := { X with xe := E }
abbrev Cx.nox (X : Cx) : Cx := X.wish fun _ _ => False
theorem Cx.Ok.wish {X : Cx} (ok : X.Ok) (E : Value -> Shared -> Prop) : (X.wish E).Ok :=
 ⟨ok.mod, ok.kind, ok.glob, ok.blt, ok.above, ok.inj, ok.has, ok.cab, ok.hd, ok.frames, ok.stk, ok.exf, ok.bs, ok.bsz, ok.noex, ok.exfs, ok.funs, ok.frf⟩
theorem Cx.Ok.unwish {X : Cx} {E : Value -> Shared -> Prop} (ok : (X.wish E).Ok) : X.Ok :=
 ⟨ok.mod, ok.kind, ok.glob, ok.blt, ok.above, ok.inj, ok.has, ok.cab, ok.hd, ok.frames, ok.stk, ok.exf, ok.bs, ok.bsz, ok.noex, ok.exfs, ok.funs, ok.frf⟩
section
variable {X : Cx} {pins : List (Addr × Obj)} {σ : St} {H : Hp} {s : Shared} {E : Value -> Shared -> Prop}
theorem Inv.wish (I : Inv X pins σ H s) (E : Value -> Shared -> Prop) : Inv (X.wish E) pins σ H s := ⟨I.ok.wish E, I.os, I.bare, I.base, I.loc, I.cell, I.free, I.freeC, I.pin, I.hok, I.len⟩
theorem Inv.unwish (I : Inv (X.wish E) pins σ H s) : Inv X pins σ H s := ⟨I.ok.unwish, I.os, I.bare, I.base, I.loc, I.cell, I.free, I.freeC, I.pin, I.hok, I.len⟩
theorem SP.unwish {D : Ends} {f : Flow} {s' : Shared} (h : SP (X.wish E) pins D f s') : SP X pins D f s' := by
 cases f with
 | next => obtain ⟨σ', H', I, q⟩ := h; exact ⟨σ', H', I.unwish, q⟩
 | brk => obtain ⟨σ', H', I, q⟩ := h; exact ⟨σ', H', I.unwish, q⟩
 | cont => obtain ⟨σ', H', I, q⟩ := h; exact ⟨σ', H', I.unwish, q⟩
 | ret u => obtain ⟨v, σ', H', I, r, q⟩ := h; exact ⟨v, σ', H', I.unwish, r, q⟩
theorem PSs.nox {st : List Stmt} {t : TS} (h : PSs X.nox st t) : PSs X st t := fun pins s σ H D I hw =>
 wpAny_mono (h pins s σ H D (I.wish _) hw) (fun _ _ q => q.unwish) fun _ _ z => False.elim z
end
section
variable {X : Cx} {st : Stmt} {rest : List Stmt} {t u : TS} {e : Expr} {te : TE} {pos : Pos}
def tNext : TS := fun D σ H => D.nx σ H
def tSeq (t u : TS) : TS := fun D σ H => t { D with nx := u D } σ H
theorem pss_nil : PSs X [] tNext := fun _ _ σ H _ I h => wpAny_execs_nil ⟨σ, H, I, h⟩
theorem pss_cons (h1 : PS X st t) (h2 : PSs X rest u) : PSs X (st :: rest) (tSeq t u) := by
 intro pins s σ H D I h
 refine wpAny_execs_cons (thn (h1 pins s σ H { D with nx := u D } I h) fun f s1 q => ?_)
 cases f with
 | next =>
  obtain ⟨σ', H', I', q⟩ := q
  exact h2 pins s1 σ' H' D I' q
 | ret v => exact q
 | brk => exact q
 | cont => exact q
theorem pss_one (h1 : PS X st t) : PSs X [st] t := by
 intro pins s σ H D I h
 refine wpAny_execs_cons (thn (h1 pins s σ H D I h) fun f s1 q => ?_)
 cases f with
 | next => exact wpAny_execs_nil q
 | ret v => exact q
 | brk => exact q
 | cont => exact q
theorem Inv.quiet {pins : List (Addr × Obj)} {σ : St} {H : Hp} {s : Shared} (I : Inv X pins σ H s) : interactive X.env = false := by simp [interactive, I.ok.kind]
def tDrop (te : TE) : TS := fun D σ H => te σ H fun _ H1 => D.nx σ H1
theorem ps_expr (he : PE X e te) (hs : swapsWith e none pos.line X.env = pure false := by rfl) : PS X (.Expr e pos) (tDrop te) := by
 intro pins s σ H D I h
 exact wpAny_Expr_any (thn (he pins s σ H _ I h) fun v s1 ⟨x, H1, I1, r1, q1⟩ => ⟨σ, H1, I1, q1⟩) I.quiet hs
def tRet (te : TE) : TS := fun D σ H => te σ H D.rt
theorem ps_ret (he : PE X e te) : PS X (.Return (some e) pos) (tRet te) := by
 intro pins s σ H D I h
 exact wpAny_Return_some (thn (he pins s σ H _ I h) fun v s1 ⟨x, H1, I1, r1, q1⟩ => ⟨x, σ, H1, I1, r1, q1⟩)
def tIfS (c : TT) (t u : TS) : TS := fun D σ H => c σ H fun b H1 => if b = true then t D σ H1 else u D σ H1
theorem ps_if {c : Expr} {a b : List Stmt} {tc : TT} (hc : PT X c tc) (ha : PSs X a t) (hb : PSs X b u) : PS X (.If c a b pos) (tIfS tc t u) := by
 intro pins s σ H D I h
 refine wpAny_If (thn (hc pins s σ H _ I h) fun d s1 ⟨H1, I1, q1⟩ => ?_)
 cases d with
 | true => exact ha pins s1 σ H1 D I1 q1
 | false => exact hb pins s1 σ H1 D I1 q1
end
abbrev TG := V -> St -> Hp -> (St -> Hp -> Prop) -> Prop
def PG (X : Cx) (target : Expr) (t : TG) : Prop :=
 ∀ (pins : List (Addr × Obj)) (s : Shared) (σ : St) (H : Hp) (v : V) (u : Value) (Q : St -> Hp -> Prop), Inv X pins σ H s -> RelV v u -> t v σ H Q ->
  wpAny (model X.prog X.w) X.A (assign target X.env u) (fun _ s' => ∃ σ' H', Inv X pins σ' H' s' /\ Q σ' H') X.xe s
abbrev TSet := V -> V -> V -> Hp -> (Hp -> Prop) -> Prop
def PSet (X : Cx) (t : TSet) : Prop :=
 ∀ (pins : List (Addr × Obj)) (s : Shared) (σ : St) (H : Hp) (o i v : V) (ov iv u : Value) (Q : Hp -> Prop), Inv X pins σ H s -> RelV o ov -> RelV i iv -> RelV v u -> t o i v H Q ->
  wpAny (model X.prog X.w) X.A (setItem ov iv u) (fun _ s' => ∃ H', Inv X pins σ H' s' /\ Q H') X.xe s
section
variable {X : Cx} {pos : Pos}
def gName (i : Nat) : TG := fun v σ H Q => Q (σ.set i (some v)) H
theorem pg_name {i : Nat} {x : Str} (hN : X.N.Nodup) (hi : X.N[i]? = some x) (hx : Loc X.env.scope x) (hf : X.fn x = true \/ X.env.scope.names.lookup x = some .local := by first | exact .inl rfl | exact .inr rfl | assumption) : PG X (.Name x pos) (gName i) := by
 intro pins s σ H v u Q I r h
 exact wpAny_assign_Name (store_ok I hN hi hx r (fun s' I' => ⟨_, H, I', h⟩) hf)
def gSub (to ti : TE) (t : TSet) : TG := fun v σ H Q => to σ H fun o H1 => ti σ H1 fun i H2 => t o i v H2 fun H3 => Q σ H3
theorem pg_sub {o i : Expr} {to ti : TE} {t : TSet} (ho : PE X o to) (hi : PE X i ti) (hs : PSet X t)
  (ha : ∀ v, assign (.Subscript o i pos) X.env v = (do
   let ov <- holding [v] (eval o X.env)
   let iv <- holding [v, ov] (eval i X.env)
   standAt pos
   holding [v, ov, iv] (setItem ov iv v)
   release [v, ov, iv] []) := by intro _; rfl) : PG X (.Subscript o i pos) (gSub to ti t) := by
 intro pins s σ H v u Q I r h
 rw [ha]
 refine wpAny_bind (wpAny_holding (thn (ho pins s σ H _ I h) fun ov s1 ⟨x, H1, I1, r1, q1⟩ => ?_))
 refine wpAny_bind (wpAny_holding (thn (hi pins s1 σ H1 _ I1 q1) fun iv s2 ⟨y, H2, I2, r2, q2⟩ => ?_))
 refine wpAny_bind (wpAny_standAt (wpAny_bind (wpAny_holding (thn (hs pins s2 σ H2 x y v ov iv u _ I2 r1 r2 r q2) fun _ s3 ⟨H3, I3, q3⟩ => ?_))))
 exact wpAny_release ⟨σ, H3, I3, q3⟩
def tAsg (te : TE) (g : TG) : TS := fun D σ H => te σ H fun x H1 => g x σ H1 D.nx
theorem ps_asg {tg e : Expr} {te : TE} {g : TG} (he : PE X e te) (hg : PG X tg g) (hs : swapsWithSole [tg] e pos.line X.env = pure false := by rfl) (hw : swappedStores [tg] e X.env = pure none := by rfl)
  (h1 : (assignEach [tg] X.env).map (·.2) = [assign tg X.env] := by rfl) : PS X (.Assign [tg] e pos) (tAsg te g) := by
 intro pins s σ H D I h
 refine wpAny_Assign_stores (thn (he pins s σ H _ I h) fun v s1 ⟨x, H1, I1, r1, q1⟩ => ?_) hs hw
 rw [h1]
 exact thn (hg pins s1 σ H1 x v _ I1 r1 q1) fun _ s2 q => q
theorem ps_set {i : Nat} {x : Str} {e : Expr} {te : TE} {pos' : Pos} (hN : X.N.Nodup) (hi : X.N[i]? = some x) (hx : Loc X.env.scope x) (he : PE X e te) (hs : swapsWith e (some (.Name x pos')) pos.line X.env = pure false := by rfl) (hf : X.fn x = true \/ X.env.scope.names.lookup x = some .local := by first | exact .inl rfl | exact .inr rfl | assumption) :
  PS X (.Assign [.Name x pos'] e pos) (tAsg te (gName i)) := by
 intro pins s σ H D I h
 refine wpAny_Assign_Name (thn (he pins s σ H _ I h) fun v s1 ⟨y, H1, I1, r1, q1⟩ => ?_) hs
 exact store_ok I1 hN hi hx r1 (fun s2 I2 => ⟨_, H1, I2, q1⟩) hf
end
structure It where
 go : Nat -> Hp -> Prop
 yld : Nat -> Hp -> V -> Hp -> Prop
 stop : Nat -> Hp -> Prop
def FpOk (X : Cx) (pins : List (Addr × Obj)) (H : Hp) (b : Addr) : Prop :=
 H b = none /\ b ≠ X.env.locals /\ b ∉ X.fs /\ (b ∈ X.ex \/ X.s₀.heap.objs.size <= b) /\ (∀ x c, X.env.cells.lookup x = some c -> c ≠ b) /\ ∀ p ∈ X.pn ++ pins, p.1 ≠ b
theorem Inv.fpOk {X : Cx} {pins : List (Addr × Obj)} {σ : St} {H H' : Hp} {s : Shared} {b : Addr} (I : Inv X pins σ H s) (hb : s.heap.objs.size <= b) (hn : H' b = none) : FpOk X pins H' b := by
 refine ⟨hn, Nat.ne_of_gt (Nat.lt_of_lt_of_le I.lt hb), I.nofs hb, .inr (Nat.le_trans I.sz hb), fun x c e z => ?_, fun p hp z => ?_⟩
 ·obtain ⟨v, q⟩ := I.cell x c e
  exact absurd (Nat.lt_of_lt_of_le q.lt (by rw [z]; exact hb)) (Nat.lt_irrefl _)
 ·exact absurd (Nat.lt_of_lt_of_le (Heap.lt_size (I.pin p hp).1) (by rw [z]; exact hb)) (Nat.lt_irrefl _)
structure Turn (P : Program) (w : World) (K : PySem.W.Frag) (tg : Expr) (J : It) (fp : List Addr) (it : Addr) (tn : Nat -> Heap -> Prop) : Prop where
 mem : it ∈ fp
 obj : ∀ i h, tn i h -> ∀ b ∈ fp, ∃ o, h.get? b = some o /\ ∀ v, o.data ≠ .cell v
 keep : ∀ i h h', tn i h -> (∀ b ∈ fp, ∀ o, h.get? b = some o -> h'.get? b = some o) -> tn i h'
 item : ∀ (X : Cx), X.prog = P -> X.w = w -> X.K = K -> X.calm = true -> ∀ (i : Nat) (pins : List (Addr × Obj)) (s : Shared) (σ : St) (H : Hp) (E : Value -> Shared -> Prop), Inv X pins σ H s -> (∀ b ∈ fp, FpOk X pins H b) -> tn i s.heap -> J.go i H ->
  wpAny (model P w) X.A (pyNext (.ref it)) (fun r s1 => ∃ u, r = some u /\
   wpAny (model P w) X.A (letOwnedTupleGo tg (.ref it) u) (fun _ s2 => ∃ x H', Inv X pins σ H' s2 /\ RelV x u /\ J.yld i H x H' /\ tn (i + 1) s2.heap /\ ∀ b ∈ fp, H' b = none) E s1) E s
 done : ∀ (X : Cx), X.prog = P -> X.w = w -> X.K = K -> X.calm = true -> ∀ (i : Nat) (pins : List (Addr × Obj)) (s : Shared) (σ : St) (H : Hp) (E : Value -> Shared -> Prop), Inv X pins σ H s -> (∀ b ∈ fp, FpOk X pins H b) -> tn i s.heap -> J.stop i H ->
  wpAny (model P w) X.A (pyNext (.ref it)) (fun r s1 => r = none /\ Inv X pins σ H s1) E s
 self : ∀ (A : Around) (i : Nat) (s : Shared) (Q : Value -> Shared -> Prop) (E : Value -> Shared -> Prop), tn i s.heap -> Q (.ref it) s -> wpAny (model P w) A (pyIter (.ref it)) Q E s
abbrev TI := St -> Hp -> (It -> Hp -> Prop) -> Prop
def PIE (X : Cx) (pins : List (Addr × Obj)) (σ : St) (tg : Expr) (R : It -> Hp -> Prop) (itv : Value) (s2 : Shared) : Prop :=
 ∃ (it : Addr) (fp : List Addr) (tn : Nat -> Heap -> Prop) (J : It) (H' : Hp), itv = .ref it /\ Inv X pins σ H' s2 /\ Turn X.prog X.w X.K tg J fp it tn /\ tn 0 s2.heap /\ (∀ b ∈ fp, FpOk X pins H' b) /\ R J H'
def PI (X : Cx) (tg iter : Expr) (wi : TI) : Prop :=
 ∀ (pins : List (Addr × Obj)) (s : Shared) (σ : St) (H : Hp) (R : It -> Hp -> Prop), Inv X pins σ H s -> wi σ H R ->
  wpAny (model X.prog X.w) X.A (eval iter X.env) (fun v s1 => wpAny (model X.prog X.w) X.A (pyIter v) (PIE X pins σ tg R) X.xe s1) X.xe s
theorem go_of {M : Model} {A : Around} {E : Value -> Shared -> Prop} {s : Shared} {tg : Expr} {it : Addr} {u : Value} {o : Obj} {n : String} {vs : Array Value} {Q : Unit -> Shared -> Prop} (ho : s.heap.get? it = some o) (hc : o.cls = .type n) (hd : o.data = .fields vs)
    (hn : ["enumerate", "zip", "dict_itemiterator", "dict_reverseitemiterator", "odict_iterator", "itertools.zip_longest", "itertools.pairwise"].contains n = false) (hQ : Q () s) : wpAny M A (letOwnedTupleGo tg (.ref it) u) Q E s := by
  unfold letOwnedTupleGo
  cases tg <;> first
    | exact wpAny_pure hQ
    | (cases u <;> first
        | exact wpAny_pure hQ
        | (refine wpAny_bind (wpAny_load ho ?_)
           rw [hc, hd]
           show wpAny M A (if (["enumerate", "zip", "dict_itemiterator", "dict_reverseitemiterator", "odict_iterator", "itertools.zip_longest", "itertools.pairwise"].contains n && vs[0]? == some (rawInt _)) = true then _ else _) Q E s
           rw [if_neg (by intro h; rw [hn, Bool.false_and] at h; cases h)]
           exact wpAny_pure hQ))
def Itl (K : PySem.W.Frag) (a : Addr) : It :=
 ⟨fun i H => ∃ xs x, SqL K H a xs /\ xs[i]? = some x, fun i H x H' => H' = H /\ ∀ xs, SqL K H a xs -> xs[i]? = some x, fun i H => ∃ xs, SqL K H a xs /\ xs.length <= i⟩
def Itt (K : PySem.W.Frag) (a : Addr) : It :=
 ⟨fun i H => ∃ xs x, SqT K H a xs /\ xs[i]? = some x, fun i H x H' => H' = H /\ ∀ xs, SqT K H a xs -> xs[i]? = some x, fun i H => ∃ xs, SqT K H a xs /\ xs.length <= i⟩
def Itr (lo : Int) (n : Nat) : It := ⟨fun i _ => i < n, fun i H x H' => H' = H /\ x = .int (lo + i), fun i _ => n <= i⟩
theorem turn_list {P : Program} {w : World} {K : PySem.W.Frag} {tg : Expr} (a it : Addr) : Turn P w K tg (Itl K a) [it] it (fun i h => h.IsListIter it a i) where
 mem := by simp
 obj := fun i h st b hb => by
  have e : b = it := by simpa using hb
  subst e
  obtain ⟨o, e, c, d⟩ := st
  exact ⟨o, e, fun v z => by rw [d] at z; cases z⟩
 keep := fun i h h' st k => st.at fun o e => k it (by simp) o e
 item := by
  intro X hP hw hK hc i pins s σ H E I hf st hg
  subst hP hw hK
  obtain ⟨xs, x, hq, hx⟩ := hg
  obtain ⟨its, rv, p, hz⟩ := I.list hq
  obtain ⟨u, hu, ru⟩ := rv.get hx
  obtain ⟨f0, f1, f2, f3, f4, f5⟩ := hf it (by simp)
  refine wpAny_pyNext_list_item st p.isList (x := u) (by simpa using hu) fun h' st' sb => ?_
  have I1 : Inv X pins σ H { s with heap := h' } := I.turned (t' := s.toks) (fun b o hb e => (sb.2 b hb).trans e) f0 f1 f3 f4 f5
  obtain ⟨o, e, c, d⟩ := id st'
  exact ⟨u, rfl, go_of (s := { s with heap := h' }) e c d (by decide) ⟨x, H, I1, ru, ⟨rfl, fun ys hy => by rw [I.list_inj hy hq]; exact hx⟩, st', fun b hb => (hf b hb).1⟩⟩
 done := by
  intro X hP hw hK hc i pins s σ H E I hf st hg
  subst hP hw hK
  obtain ⟨xs, hq, hx⟩ := hg
  obtain ⟨its, rv, p, hz⟩ := I.list hq
  obtain ⟨f0, f1, f2, f3, f4, f5⟩ := hf it (by simp)
  have hl := rv.length
  exact wpAny_pyNext_list_end (I.ok.hd hc) st p.isList (by simp; omega) fun h' eb => ⟨rfl, I.turned (t' := s.toks) (fun b o hb e => eb b o hb e) f0 f1 f3 f4 f5⟩
 self := fun _ _ _ _ _ st h => wpAny_pyIter_listiter st h
theorem turn_tuple {P : Program} {w : World} {K : PySem.W.Frag} {tg : Expr} (a it : Addr) : Turn P w K tg (Itt K a) [it] it (fun i h => h.IsTupleIter it a i) where
 mem := by simp
 obj := fun i h st b hb => by
  have e : b = it := by simpa using hb
  subst e
  obtain ⟨o, e, c, d⟩ := st
  exact ⟨o, e, fun v z => by rw [d] at z; cases z⟩
 keep := fun i h h' st k => st.at fun o e => k it (by simp) o e
 item := by
  intro X hP hw hK hc i pins s σ H E I hf st hg
  subst hP hw hK
  obtain ⟨xs, x, hq, hx⟩ := hg
  obtain ⟨its, rv, p, hz⟩ := I.tuple hq
  obtain ⟨u, hu, ru⟩ := rv.get hx
  obtain ⟨f0, f1, f2, f3, f4, f5⟩ := hf it (by simp)
  refine wpAny_pyNext_tuple_item st (show s.heap.IsTuple a its.toArray from p) (x := u) (by simpa using hu) fun h' st' sb => ?_
  have I1 : Inv X pins σ H { s with heap := h' } := I.turned (t' := s.toks) (fun b o hb e => (sb.2 b hb).trans e) f0 f1 f3 f4 f5
  obtain ⟨o, e, c, d⟩ := id st'
  exact ⟨u, rfl, go_of (s := { s with heap := h' }) e c d (by decide) ⟨x, H, I1, ru, ⟨rfl, fun ys hy => by rw [I.tuple_inj hy hq]; exact hx⟩, st', fun b hb => (hf b hb).1⟩⟩
 done := by
  intro X hP hw hK hc i pins s σ H E I hf st hg
  subst hP hw hK
  obtain ⟨xs, hq, hx⟩ := hg
  obtain ⟨its, rv, p, hz⟩ := I.tuple hq
  obtain ⟨f0, f1, f2, f3, f4, f5⟩ := hf it (by simp)
  have hl := rv.length
  exact wpAny_pyNext_tuple_end (I.ok.hd hc) st (show s.heap.IsTuple a its.toArray from p) (by simp; omega) fun h' eb => ⟨rfl, I.turned (t' := s.toks) (fun b o hb e => eb b o hb e) f0 f1 f3 f4 f5⟩
 self := fun _ _ _ _ _ st h => wpAny_pyIter_tupleiter st h
theorem turn_range {P : Program} {w : World} {K : PySem.W.Frag} {tg : Expr} (it : Addr) (lo : Int) (n : Nat) : Turn P w K tg (Itr lo n) [it] it (fun i h => IsRangeIter h it (lo + (i : Nat) * 1) ((n : Int) - (i : Nat)) 1) where
 mem := by simp
 obj := fun i h st b hb => by
  have e : b = it := by simpa using hb
  subst e
  exact ⟨_, st, fun v z => by
   have z' : Data.fields _ = Data.cell v := z
   cases z'⟩
 keep := fun i h h' st k => k it (by simp) _ st
 item := by
  intro X hP hw hK hc i pins s σ H E I hf st hg
  subst hP hw hK
  obtain ⟨f0, f1, f2, f3, f4, f5⟩ := hf it (by simp)
  have W := Walks.range (prog := X.prog) (w := X.w) (I.ok.hd hc) it lo 1 n
  refine W.item i s _ _ hg st fun v h' tk hv st' kk => ?_
  obtain ⟨t, rfl⟩ := hv
  have I1 : Inv X pins σ H { s with heap := h', toks := tk } := I.turned (fun b o hb e => kk b o (by simpa using hb) e) f0 f1 f3 f4 f5
  refine ⟨_, rfl, go_of (s := { s with heap := h', toks := tk }) (n := "range_iterator") st' rfl rfl (by decide) ⟨.int (lo + i), H, I1, ⟨t, ?_⟩, ⟨rfl, rfl⟩, st', fun b hb => (hf b hb).1⟩⟩
  rw [Int.mul_one]
 done := by
  intro X hP hw hK hc i pins s σ H E I hf st hg
  subst hP hw hK
  obtain ⟨f0, f1, f2, f3, f4, f5⟩ := hf it (by simp)
  exact wpAny_pyNext_range_end (I.ok.hd hc) st (by have : n <= i := hg; omega) fun h' eb => ⟨rfl, I.turned (t' := s.toks) (fun b o hb e => eb b o hb e) f0 f1 f3 f4 f5⟩
 self := fun _ _ _ _ _ st h => wpAny_pyIter_rangeiter st h
end L2
namespace L2
open PySem PySem.Spec PyProof.Rows
section
variable {X : Cx} {tg : Expr}
def iList (K : PySem.W.Frag) (tl : TE) : TI := fun σ H R => tl σ H fun x H1 => ∃ a, x = .ref a /\ (∃ xs, SqL K H1 a xs) /\ R (Itl K a) H1
def iTup (K : PySem.W.Frag) (tl : TE) : TI := fun σ H R => tl σ H fun x H1 => ∃ a, x = .ref a /\ (∃ xs, SqT K H1 a xs) /\ R (Itt K a) H1
theorem pi_list {l : Expr} {tl : TE} (hl : PE X l tl) : PI X tg l (iList X.K tl) := by
 intro pins s σ H R I h
 refine thn (hl pins s σ H _ I h) fun v s1 ⟨x, H1, I1, r1, q1⟩ => ?_
 obtain ⟨a, e, ⟨xs, hq⟩, q⟩ := q1
 subst e
 cases r1
 obtain ⟨its, rv, p, hz⟩ := I1.list hq
 refine wpAny_pyIter_list p.isList ?_
 refine ⟨s1.heap.objs.size, [s1.heap.objs.size], _, _, H1, rfl, I1.kept (t' := s1.toks) fun b o e => Heap.get?_push_of_some _ e, turn_list a _, ⟨_, Heap.get?_push_size _ rfl, rfl, rfl⟩, fun b hb => ?_, q⟩
 have e : b = s1.heap.objs.size := by simpa using hb
 subst e
 exact I1.fpOk (Nat.le_refl _) (I1.hok.fresh (Nat.le_refl _))
theorem pi_tup {l : Expr} {tl : TE} (hl : PE X l tl) : PI X tg l (iTup X.K tl) := by
 intro pins s σ H R I h
 refine thn (hl pins s σ H _ I h) fun v s1 ⟨x, H1, I1, r1, q1⟩ => ?_
 obtain ⟨a, e, ⟨xs, hq⟩, q⟩ := q1
 subst e
 cases r1
 obtain ⟨its, rv, p, hz⟩ := I1.tuple hq
 refine wpAny_pyIter_tuple (show s1.heap.IsTuple a its.toArray from p) ?_
 refine ⟨s1.heap.objs.size, [s1.heap.objs.size], _, _, H1, rfl, I1.kept (t' := s1.toks) fun b o e => Heap.get?_push_of_some _ e, turn_tuple a _, ⟨_, Heap.get?_push_size _ rfl, rfl, rfl⟩, fun b hb => ?_, q⟩
 have e : b = s1.heap.objs.size := by simpa using hb
 subst e
 exact I1.fpOk (Nat.le_refl _) (I1.hok.fresh (Nat.le_refl _))
theorem range_it {pins : List (Addr × Obj)} {σ : St} {H : Hp} {s : Shared} {R : It -> Hp -> Prop} {E : Value -> Shared -> Prop} {lo hi : Int} {t u v : Tok} {tk : Nat} (I : Inv X pins σ H s) (h1 : -(2 ^ 62) <= lo) (h2 : lo < 2 ^ 62) (h3 : -(2 ^ 62) <= hi) (h4 : hi < 2 ^ 62)
  (q : R (Itr lo (hi - lo).toNat) H) : wpAny (model X.prog X.w) X.A (pyIter (.ref s.heap.objs.size)) (PIE X pins σ tg R) E { s with heap := s.heap.push { cls := .type "range", data := .fields #[.int lo t, .int hi u, .int 1 v] }, toks := tk } := by
 refine wpAny_pyIter_range (IsRange.new ..) (small_one h1 h2 h3 h4) ?_
 have I1 : Inv X pins σ H { s with heap := s.heap.push { cls := .type "range", data := .fields #[.int lo t, .int hi u, .int 1 v] }, toks := tk } := I.kept fun b o e => Heap.get?_push_of_some _ e
 refine ⟨(s.heap.push { cls := .type "range", data := .fields #[.int lo t, .int hi u, .int 1 v] }).objs.size, [(s.heap.push { cls := .type "range", data := .fields #[.int lo t, .int hi u, .int 1 v] }).objs.size], _, _, H, rfl,
  I1.kept (t' := tk) fun b o e => Heap.get?_push_of_some _ e, turn_range _ lo (hi - lo).toNat, ?_, fun b hb => ?_, q⟩
 ·have e1 : lo + ((0 : Nat) : Int) * 1 = lo := by simp
  have e2 : (((hi - lo).toNat : Nat) : Int) - ((0 : Nat) : Int) = Builtin.Range.rangeSize lo hi 1 := by rw [rangeSize_one]; split <;> omega
  show IsRangeIter _ _ (lo + ((0 : Nat) : Int) * 1) ((((hi - lo).toNat : Nat) : Int) - ((0 : Nat) : Int)) 1
  rw [e1, e2]
  exact Heap.get?_push_size _ rfl
 ·have e : b = (s.heap.push { cls := .type "range", data := .fields #[.int lo t, .int hi u, .int 1 v] }).objs.size := by simpa using hb
  subst e
  exact I1.fpOk (Nat.le_refl _) (I1.hok.fresh (Nat.le_refl _))
def iRng1 (ta : TA) : TI := fun σ H R => ta σ H fun vs H1 => ∃ j : Int, vs = [.int j] /\ -(2 ^ 62) <= j /\ j < 2 ^ 62 /\ R (Itr 0 j.toNat) H1
theorem pi_range1 {a : Expr} {ta : TA} {p pos : Pos} (hg : Gl X "range") (hm : X.mg "range" = none) (ha : PA X [a] ta) (hs : starEach [a] X.env = [(false, eval a X.env)] := by rfl) : PI X tg (.Call (.Name "range" p) [a] [] pos) (iRng1 ta) := by
 intro pins s σ H R I h
 refine Call_ (ld_blt I hg hm boot_range (PyProof.Rows.callWith_type1 (thn (ha pos pins s σ H _ I h) fun us s1 ⟨vs, H1, I1, r1, q1⟩ => ?_) hs rfl))
 obtain ⟨j, e, q1, q2, q⟩ := q1
 subst e
 cases r1 with
 | cons r rr =>
  cases rr
  obtain ⟨t, rfl⟩ := r
  exact call_range_1 (range_it I1 (by omega) (by omega) q1 q2 (by simpa using q))
def tFor (wi : TI) (g : TG) (tb : TS) : TS := fun D σ H => wi σ H fun J H1 => ∃ W : Nat -> Nat -> St -> Hp -> Prop, (∃ m, W 0 m σ H1) /\ ∀ i m σ H, W i m σ H ->
 (J.stop i H /\ D.nx σ H) \/ (J.go i H /\ ∃ N : St -> Hp -> Prop, (∀ σ' H', N σ' H' -> ∃ m', m' < m /\ W (i + 1) m' σ' H') /\ ∀ x H', J.yld i H x H' -> g x σ H' fun σ2 H2 => tb { D with nx := N, ct := N, bk := D.nx } σ2 H2)
def pinsAt (fp : List Addr) (h : Heap) : List (Addr × Obj) := fp.filterMap fun b => (h.get? b).map fun o => (b, o)
theorem mem_pinsAt {fp : List Addr} {h : Heap} {b : Addr} {o : Obj} (hb : b ∈ fp) (e : h.get? b = some o) : (b, o) ∈ pinsAt fp h := List.mem_filterMap.mpr ⟨b, hb, by rw [e]; rfl⟩
theorem of_pinsAt {fp : List Addr} {h : Heap} {p : Addr × Obj} (hp : p ∈ pinsAt fp h) : p.1 ∈ fp /\ h.get? p.1 = some p.2 := by
 obtain ⟨b, hb, e⟩ := List.mem_filterMap.mp hp
 cases q : h.get? b with
 | none => rw [q] at e; cases e
 | some o =>
  rw [q] at e
  have e' : (b, o) = p := Option.some.inj e
  subst e'
  exact ⟨hb, q⟩
theorem Inv.pinned {pins : List (Addr × Obj)} {σ : St} {H : Hp} {s : Shared} {fp : List Addr} (I : Inv X pins σ H s) (hf : ∀ b ∈ fp, FpOk X pins H b) (ho : ∀ b ∈ fp, ∃ o, s.heap.get? b = some o /\ ∀ v, o.data ≠ .cell v) : Inv X (pins ++ pinsAt fp s.heap) σ H s :=
 I.pins_of fun p hp => (List.mem_append.mp hp).elim (fun z => I.pin p (List.mem_append_right _ z)) fun z => by
  obtain ⟨hb, e⟩ := of_pinsAt z
  obtain ⟨f0, f1, f2, _⟩ := hf p.1 hb
  obtain ⟨o, e', d⟩ := ho p.1 hb
  rw [e] at e'; cases e'
  exact ⟨e, f0, f1, f2, d⟩
theorem Inv.unpinned {pins pl : List (Addr × Obj)} {σ : St} {H : Hp} {s : Shared} (I : Inv X (pins ++ pl) σ H s) : Inv X pins σ H s := I.pins_of fun p hp => I.pin p (List.mem_append_right _ (List.mem_append_left _ hp))
theorem ps_for {iter : Expr} {body : List Stmt} {wi : TI} {g : TG} {tb : TS} {pos : Pos} (hp : PassesOwn (model X.prog X.w) X.A X.env X.xe) (hc : X.calm = true) (hi : PI X tg iter wi) (hg : PG X tg g) (hb : PSs X body tb)
  (hs : ∀ x, foldedSetIterable iter X.env x = pure x := by intro _; rfl) : PS X (.For tg iter body [] pos) (tFor wi g tb) := by
 intro pins s σ H D I h
 refine wpAny_For (thn (hi pins s σ H _ I h) fun v s1 h1 => thn h1 fun itv s2 h2 => ?_) hs
 obtain ⟨it, fp, tn, J, H2, e, I2, T, st2, f2, W, ⟨m0, w0⟩, turn⟩ := h2
 subst e
 have stat : ∀ {H' : Hp}, (∀ b ∈ fp, H' b = none) -> ∀ b ∈ fp, FpOk X pins H' b := fun hn b hb => ⟨hn b hb, (f2 b hb).2⟩
 refine codeAny_forLoop_any (fun n s' => ∃ i σ' H', Inv X pins σ' H' s' /\ tn i s'.heap /\ (∀ b ∈ fp, H' b = none) /\ W i n σ' H') ?_ m0 ⟨0, σ, H2, I2, st2, fun b hb => (f2 b hb).1, w0⟩
 rintro n s3 ⟨i, σ3, H3, I3, st3, fr3, w3⟩
 rcases turn i n σ3 H3 w3 with ⟨stop, qn⟩ | ⟨go, N, hN, step⟩
 ·refine wpAny_passesOwn hp (thn (T.done X rfl rfl rfl hc i pins s3 σ3 H3 X.xe I3 (stat fr3) st3 stop) fun r s4 ⟨hr, I4⟩ => ?_)
  subst hr
  exact wpAny_execs_nil ⟨σ3, H3, I4, qn⟩
 ·refine wpAny_passesOwn hp (thn (T.item X rfl rfl rfl hc i pins s3 σ3 H3 X.xe I3 (stat fr3) st3 go) fun r s4 ⟨u, hr, h4⟩ => ?_)
  subst hr
  refine wpAny_passesOwn hp (thn h4 fun _ s5 ⟨x, H5, I5, r5, y5, st5, fr5⟩ => ?_)
  have I5' := I5.pinned (stat fr5) (T.obj _ _ st5)
  refine wpAny_passesOwn hp (thn (hg _ s5 σ3 H5 x u _ I5' r5 (step x H5 y5)) fun _ s6 ⟨σ6, H6, I6, q6⟩ => ?_)
  refine wpAny_passesOwn hp (thn (hb _ s6 σ6 H6 _ I6 q6) fun f s7 q7 => ?_)
  have again : ∀ {σ7 : St} {H7 : Hp}, Inv X (pins ++ pinsAt fp s5.heap) σ7 H7 s7 -> N σ7 H7 -> ∃ m, m < n /\ ∃ i σ' H', Inv X pins σ' H' s7 /\ tn i s7.heap /\ (∀ b ∈ fp, H' b = none) /\ W i m σ' H' := fun {σ7 H7} I7 n7 => by
   obtain ⟨m', hm, w7⟩ := hN σ7 H7 n7
   refine ⟨m', hm, i + 1, σ7, H7, I7.unpinned, T.keep _ _ _ st5 fun b hb o e => (I7.pin (b, o) (List.mem_append_right _ (List.mem_append_right _ (mem_pinsAt hb e)))).1, fun b hb => ?_, w7⟩
   obtain ⟨o, e, d⟩ := T.obj _ _ st5 b hb
   exact (I7.pin (b, o) (List.mem_append_right _ (List.mem_append_right _ (mem_pinsAt hb e)))).2.1
  cases f with
  | next => obtain ⟨σ7, H7, I7, n7⟩ := q7; exact again I7 n7
  | cont => obtain ⟨σ7, H7, I7, n7⟩ := q7; exact again I7 n7
  | brk => obtain ⟨σ7, H7, I7, q7⟩ := q7; exact ⟨σ7, H7, I7.unpinned, q7⟩
  | ret v => obtain ⟨x7, σ7, H7, I7, r7, q7⟩ := q7; exact ⟨x7, σ7, H7, I7.unpinned, r7, q7⟩
end
theorem for_tup {K : PySem.W.Frag} {a : Addr} {xs : List V} {g : TG} {tb : TS} {D : Ends} {σ : St} {H : Hp} (Pv : Nat -> St -> Hp -> Prop) (h0 : Pv 0 σ H) (hl : ∀ i σ H, i <= xs.length -> Pv i σ H -> SqT K H a xs)
  (hs : ∀ i x σ H, xs[i]? = some x -> Pv i σ H -> g x σ H fun σ2 H2 => tb { D with nx := Pv (i + 1), ct := Pv (i + 1), bk := D.nx } σ2 H2) (hd : ∀ σ H, Pv xs.length σ H -> D.nx σ H) :
  ∃ W : Nat -> Nat -> St -> Hp -> Prop, (∃ m, W 0 m σ H) /\ ∀ i m σ H, W i m σ H ->
   ((Itt K a).stop i H /\ D.nx σ H) \/ ((Itt K a).go i H /\ ∃ N : St -> Hp -> Prop, (∀ σ' H', N σ' H' -> ∃ m', m' < m /\ W (i + 1) m' σ' H') /\ ∀ x H', (Itt K a).yld i H x H' -> g x σ H' fun σ2 H2 => tb { D with nx := N, ct := N, bk := D.nx } σ2 H2) := by
 refine ⟨fun i m σ H => m = xs.length - i /\ i <= xs.length /\ Pv i σ H, ⟨xs.length, by simp, Nat.zero_le _, h0⟩, ?_⟩
 rintro i m σ H ⟨rfl, hi, p⟩
 have q := hl i σ H hi p
 by_cases hlt : i < xs.length
 ·refine .inr ⟨⟨xs, xs[i], q, by simp [hlt]⟩, Pv (i + 1), fun σ' H' p' => ⟨xs.length - (i + 1), by omega, rfl, hlt, p'⟩, fun x H' y => ?_⟩
  obtain ⟨e, y⟩ := y
  subst e
  exact hs i x σ _ (y xs q) p
 ·have e : i = xs.length := by omega
  subst e
  exact .inl ⟨⟨xs, q, Nat.le_refl _⟩, hd σ H p⟩
theorem for_range {lo : Int} {n : Nat} {g : TG} {tb : TS} {D : Ends} {σ : St} {H : Hp} (Pv : Nat -> St -> Hp -> Prop) (h0 : Pv 0 σ H)
  (hs : ∀ i σ H, i < n -> Pv i σ H -> g (.int (lo + i)) σ H fun σ2 H2 => tb { D with nx := Pv (i + 1), ct := Pv (i + 1), bk := D.nx } σ2 H2) (hd : ∀ σ H, Pv n σ H -> D.nx σ H) :
  ∃ W : Nat -> Nat -> St -> Hp -> Prop, (∃ m, W 0 m σ H) /\ ∀ i m σ H, W i m σ H ->
   ((Itr lo n).stop i H /\ D.nx σ H) \/ ((Itr lo n).go i H /\ ∃ N : St -> Hp -> Prop, (∀ σ' H', N σ' H' -> ∃ m', m' < m /\ W (i + 1) m' σ' H') /\ ∀ x H', (Itr lo n).yld i H x H' -> g x σ H' fun σ2 H2 => tb { D with nx := N, ct := N, bk := D.nx } σ2 H2) := by
 refine ⟨fun i m σ H => m = n - i /\ i <= n /\ Pv i σ H, ⟨n, by simp, Nat.zero_le _, h0⟩, ?_⟩
 rintro i m σ H ⟨rfl, hi, p⟩
 by_cases hlt : i < n
 ·refine .inr ⟨hlt, Pv (i + 1), fun σ' H' p' => ⟨n - (i + 1), by omega, rfl, hlt, p'⟩, fun x H' y => ?_⟩
  obtain ⟨e, y⟩ := y
  subst e y
  exact hs i σ _ hlt p
 ·have e : i = n := by omega
  subst e
  exact .inl ⟨Nat.le_refl _, hd σ H p⟩
end L2
namespace L2
open PySem PySem.Spec PyProof.Rows
abbrev R2 := V -> V -> Hp -> VK -> Prop
def OpR (X : Cx) (f : Value -> Value -> Sem Value) (r : R2) : Prop :=
 ∀ (pins : List (Addr × Obj)) (s : Shared) (σ : St) (H : Hp) (x y : V) (v u : Value) (Q : VK), Inv X pins σ H s -> RelV x v -> RelV y u -> r x y H Q ->
  wpAny (model X.prog X.w) X.A (f v u) (EP X pins σ Q) X.xe s
def UnR (X : Cx) (f : Value -> Sem Value) (r : V -> Hp -> VK -> Prop) : Prop :=
 ∀ (pins : List (Addr × Obj)) (s : Shared) (σ : St) (H : Hp) (x : V) (v : Value) (Q : VK), Inv X pins σ H s -> RelV x v -> r x H Q ->
  wpAny (model X.prog X.w) X.A (f v) (EP X pins σ Q) X.xe s
def CallR (X : Cx) (f : Value) (r : List V -> Hp -> VK -> Prop) : Prop :=
 ∀ (pins : List (Addr × Obj)) (s : Shared) (σ : St) (H : Hp) (xs : List V) (us : List Value) (Q : VK), Inv X pins σ H s -> Vals xs us -> r xs H Q ->
  wpAny (model X.prog X.w) X.A (call f us) (EP X pins σ Q) X.xe s
def tOp (r : R2) (ta tb : TE) : TE := fun σ H Q => ta σ H fun x H1 => tb σ H1 fun y H2 => r x y H2 Q
def tUn (r : V -> Hp -> VK -> Prop) (ta : TE) : TE := fun σ H Q => ta σ H fun x H1 => r x H1 Q
def rI (C : Int -> Int -> Prop) (g : Int -> Int -> V) : R2 := fun x y H Q => ∃ i j, x = .int i /\ y = .int j /\ C i j /\ Q (g i j) H
def rI0 (g : Int -> Int -> V) : R2 := fun x y H Q => ∃ i j, x = .int i /\ y = .int j /\ Q (g i j) H
def rU (g : Int -> V) : V -> Hp -> VK -> Prop := fun x H Q => ∃ i, x = .int i /\ Q (g i) H
section
variable {X : Cx} {a b c : Expr} {ta tb tc : TE} {pos : Pos}
theorem binT (ha : PE X a ta) (hb : PE X b tb) {pins : List (Addr × Obj)} {s : Shared} {σ : St} {H : Hp} {R : V -> V -> Hp -> Prop} (I : Inv X pins σ H s)
  (h : ta σ H fun x H1 => tb σ H1 fun y H2 => R x y H2) {Q : Value -> Shared -> Prop} {f : Value -> Value -> Sem Value}
  (hf : ∀ v u s2 x y H2, Inv X pins σ H2 s2 -> RelV x v -> RelV y u -> R x y H2 -> wpAny (model X.prog X.w) X.A (f v u) Q X.xe s2) :
  wpAny (model X.prog X.w) X.A (eval a X.env) (fun v s₁ => wpAny (model X.prog X.w) X.A (eval b X.env) (fun u s₂ => wpAny (model X.prog X.w) X.A (f v u) Q X.xe s₂) X.xe s₁) X.xe s := by
 refine thn (ha pins s σ H _ I h) fun v s1 ⟨x, H1, I1, r1, q1⟩ => ?_
 refine thn (hb pins s1 σ H1 _ I1 q1) fun u s2 ⟨y, H2, I2, r2, q2⟩ => ?_
 exact hf v u s2 x y H2 I2 r1 r2 q2
theorem pe_op {op : Operator} {r : R2} (ho : OpR X (binaryOp op) r) (ha : PE X a ta) (hb : PE X b tb) : PE X (.BinOp a op b pos) (tOp r ta tb) := by
 intro pins s σ H Q I h
 exact wpAny_BinOp (binT ha hb I h fun v u s2 x y H2 I2 rx ry q => ho pins s2 σ H2 x y v u Q I2 rx ry q)
theorem pe_un {op : UnaryOp} {r : V -> Hp -> VK -> Prop} (ho : UnR X (unaryOp op) r) (ha : PE X a ta) : PE X (.UnaryOp op a pos) (tUn r ta) := by
 intro pins s σ H Q I h
 exact UnaryOp_ (thn (ha pins s σ H _ I h) fun v s1 ⟨x, H1, I1, r1, q1⟩ => ho pins s1 σ H1 x v Q I1 r1 q1)
theorem opI {f : Value -> Value -> Sem Value} {C : Int -> Int -> Prop} {g : Int -> Int -> Int}
  (rule : ∀ (i j : Int) (t u : Tok) (s : Shared) (Q : Value -> Shared -> Prop) (E : Value -> Shared -> Prop), C i j -> Q (.int (g i j) s.toks) { s with toks := s.toks + 1 } -> wpAny (model X.prog X.w) X.A (f (.int i t) (.int j u)) Q E s) :
  OpR X f (rI C fun i j => .int (g i j)) := by
 intro pins s σ H x y v u Q I rx ry h
 obtain ⟨i, j, rfl, rfl, hc, q⟩ := h
 obtain ⟨t, rfl⟩ := rx
 obtain ⟨t', rfl⟩ := ry
 exact rule i j t t' s _ _ hc ⟨.int (g i j), H, I.tok _, ⟨_, rfl⟩, q⟩
theorem opI0 {f : Value -> Value -> Sem Value} {g : Int -> Int -> Int}
  (rule : ∀ (i j : Int) (t u : Tok) (s : Shared) (Q : Value -> Shared -> Prop) (E : Value -> Shared -> Prop), Q (.int (g i j) s.toks) { s with toks := s.toks + 1 } -> wpAny (model X.prog X.w) X.A (f (.int i t) (.int j u)) Q E s) :
  OpR X f (rI0 fun i j => .int (g i j)) := by
 intro pins s σ H x y v u Q I rx ry h
 obtain ⟨i, j, rfl, rfl, q⟩ := h
 obtain ⟨t, rfl⟩ := rx
 obtain ⟨t', rfl⟩ := ry
 exact rule i j t t' s _ _ ⟨.int (g i j), H, I.tok _, ⟨_, rfl⟩, q⟩
theorem opB0 {f : Value -> Value -> Sem Value} {g : Int -> Int -> Bool}
  (rule : ∀ (i j : Int) (t u : Tok) (s : Shared) (Q : Value -> Shared -> Prop) (E : Value -> Shared -> Prop), Q (.bool (g i j)) s -> wpAny (model X.prog X.w) X.A (f (.int i t) (.int j u)) Q E s) :
  OpR X f (rI0 fun i j => .bl (g i j)) := by
 intro pins s σ H x y v u Q I rx ry h
 obtain ⟨i, j, rfl, rfl, q⟩ := h
 obtain ⟨t, rfl⟩ := rx
 obtain ⟨t', rfl⟩ := ry
 exact rule i j t t' s _ _ ⟨.bl (g i j), H, I, rfl, q⟩
def CDiv (i j : Int) : Prop := 0 < j /\ j < 1073741824
def CPow (i j : Int) : Prop := 0 <= j /\ j <= 1000000 /\ i.natAbs < 2 ^ 64
def CMul (i j : Int) : Prop := (-(2 ^ 64) < i /\ i < 2 ^ 64) \/ (-(2 ^ 64) < j /\ j < 2 ^ 64)
theorem CMul.ok {i j : Int} (h : CMul i j) : IntMulOk i j := by
 rcases h with ⟨h1, h2⟩ | ⟨h1, h2⟩
 ·exact .of_left (intBits_le_64 h1 h2)
 ·exact .of_right (intBits_le_64 h1 h2)
theorem op_add : OpR X (binaryOp .Add) (rI0 fun i j => .int (i + j)) := opI0 fun _ _ _ _ _ _ _ q => add_int q
theorem op_sub : OpR X (binaryOp .Sub) (rI0 fun i j => .int (i - j)) := opI0 fun _ _ _ _ _ _ _ q => sub_int q
theorem op_mul : OpR X (binaryOp .Mult) (rI CMul fun i j => .int (i * j)) := opI fun _ _ _ _ _ _ _ hc q => mul_int q hc.ok
theorem op_fdiv : OpR X (binaryOp .FloorDiv) (rI CDiv fun i j => .int (i / j)) := opI fun i j _ _ _ _ _ hc q => by
 have h1 : (0 : Int) < j := hc.1
 have h2 : j < 1073741824 := hc.2
 exact floordiv_int (by omega) (by rw [Int.fdiv_eq_ediv_of_nonneg i (by omega)]; exact q) (.inl (PyProof.noPylong_small (by omega)))
theorem op_mod : OpR X (binaryOp .Mod) (rI (fun _ j => 0 < j) fun i j => .int (i % j)) := opI fun i j _ _ _ _ _ hc q => by
 have h1 : (0 : Int) < j := hc
 exact mod_int' (by omega) (by rw [Int.fmod_eq_emod_of_nonneg i (by omega)]; exact q)
theorem op_pow : OpR X (binaryOp .Pow) (rI CPow fun i j => .int (i ^ j.toNat)) := opI fun _ _ _ _ _ _ _ hc q => pow_int_small hc.1 hc.2.1 hc.2.2 q
theorem unI {f : Value -> Sem Value} {g : Int -> Int}
  (rule : ∀ (i : Int) (t : Tok) (s : Shared) (Q : Value -> Shared -> Prop) (E : Value -> Shared -> Prop), Q (.int (g i) s.toks) { s with toks := s.toks + 1 } -> wpAny (model X.prog X.w) X.A (f (.int i t)) Q E s) :
  UnR X f (rU fun i => .int (g i)) := by
 intro pins s σ H x v Q I rx h
 obtain ⟨i, rfl, q⟩ := h
 obtain ⟨t, rfl⟩ := rx
 exact rule i t s _ _ ⟨.int (g i), H, I.tok _, ⟨_, rfl⟩, q⟩
theorem un_neg : UnR X (unaryOp .USub) (rU fun i => .int (-i)) := unI fun _ _ _ _ _ q => neg_int q
end
def scal : V -> V -> Bool
 | .non, .non => true | .non, .int _ => true | .int _, .non => true | .non, .bl _ => true | .bl _, .non => true | .non, .str _ => true | .str _, .non => true
 | .int _, .int _ => true | .bl _, .bl _ => true | .str _, .str _ => true | .byt _, .byt _ => true
 | .int _, .str _ => true | .str _, .int _ => true | .bl _, .str _ => true | .str _, .bl _ => true
 | _, _ => false
def rEq : R2 := fun x y H Q => scal x y = true /\ Q (.bl (decide (x = y))) H
def rNe : R2 := fun x y H Q => scal x y = true /\ Q (.bl (!decide (x = y))) H
theorem dec_int {i j : Int} : decide (V.int i = V.int j) = (i == j) := by
 rw [Bool.eq_iff_iff]
 simp
theorem dec_bl {i j : Bool} : decide (V.bl i = V.bl j) = (i == j) := by
 rw [Bool.eq_iff_iff]
 simp
theorem dec_str {i j : Str} : decide (V.str i = V.str j) = (i == j) := by
 rw [Bool.eq_iff_iff]
 simp
theorem dec_byt {i j : Array UInt8} : decide (V.byt i = V.byt j) = (i.toList == j.toList) := by
 rw [Bool.eq_iff_iff]
 cases i
 cases j
 simp
section
variable {X : Cx} {a b c : Expr} {ta tb tc : TE} {pos : Pos}
theorem fin_bl {pins : List (Addr × Obj)} {σ : St} {H : Hp} {s : Shared} {Q : VK} {k k' : Bool} (I : Inv X pins σ H s) (q : Q (.bl k) H) (e : k = k') : EP X pins σ Q (.bool k') s := by
 subst e
 exact ⟨.bl k, H, I, rfl, q⟩
theorem op_eq : OpR X (compareOp .Eq) rEq := by
 intro pins s σ H x y v u Q I rx ry h
 obtain ⟨hs, q⟩ := h
 cases x with
 | non =>
  cases rx
  cases y with
  | non => cases ry; exact PySem.EqNone.eq_none_none (fin_bl I q (by simp))
  | bl j => cases ry; exact PySem.EqNone.eq_none_bool (fin_bl I q (by simp))
  | int j => obtain ⟨t', rfl⟩ := ry; exact PySem.EqNone.eq_none_int (fin_bl I q (by simp))
  | str j => obtain ⟨t', rfl⟩ := ry; exact PySem.EqNone.eq_none_str (fin_bl I q (by simp))
  | _ => exact absurd (show false = true from hs) Bool.false_ne_true
 | bl i =>
  cases rx
  cases y with
  | non => cases ry; exact PySem.EqNone.eq_bool_none (fin_bl I q (by simp))
  | bl j => cases ry; exact eq_bool (fin_bl I q dec_bl)
  | str j => obtain ⟨t', rfl⟩ := ry; exact PySem.EqMixed.eq_bool_str (fin_bl I q (by simp))
  | _ => exact absurd (show false = true from hs) Bool.false_ne_true
 | int i =>
  obtain ⟨t, rfl⟩ := rx
  cases y with
  | non => cases ry; exact PySem.EqNone.eq_int_none (fin_bl I q (by simp))
  | int j => obtain ⟨t', rfl⟩ := ry; exact eq_int (fin_bl I q dec_int)
  | str j => obtain ⟨t', rfl⟩ := ry; exact PySem.EqMixed.eq_int_str (fin_bl I q (by simp))
  | _ => exact absurd (show false = true from hs) Bool.false_ne_true
 | str i =>
  obtain ⟨t, rfl⟩ := rx
  cases y with
  | non => cases ry; exact PySem.EqNone.eq_str_none (fin_bl I q (by simp))
  | bl j => cases ry; exact PySem.EqMixed.eq_str_bool (fin_bl I q (by simp))
  | int j => obtain ⟨t', rfl⟩ := ry; exact PySem.EqMixed.eq_str_int (fin_bl I q (by simp))
  | str j => obtain ⟨t', rfl⟩ := ry; exact eq_str (fin_bl I q dec_str)
  | _ => exact absurd (show false = true from hs) Bool.false_ne_true
 | byt i =>
  obtain ⟨t, rfl⟩ := rx
  cases y with
  | byt j => obtain ⟨t', rfl⟩ := ry; exact PySem.W.eq_bytes (fin_bl I q dec_byt)
  | _ => exact absurd (show false = true from hs) Bool.false_ne_true
 | _ => cases y <;> exact absurd (show false = true from hs) Bool.false_ne_true
theorem op_ne : OpR X (compareOp .NotEq) rNe := by
 intro pins s σ H x y v u Q I rx ry h
 obtain ⟨hs, q⟩ := h
 cases x with
 | non =>
  cases rx
  cases y with
  | non => cases ry; exact PySem.EqNone.ne_none_none (fin_bl I q (by simp))
  | bl j => cases ry; exact PySem.EqNone.ne_none_bool (fin_bl I q (by simp))
  | int j => obtain ⟨t', rfl⟩ := ry; exact PySem.EqNone.ne_none_int (fin_bl I q (by simp))
  | str j => obtain ⟨t', rfl⟩ := ry; exact PySem.EqNone.ne_none_str (fin_bl I q (by simp))
  | _ => exact absurd (show false = true from hs) Bool.false_ne_true
 | bl i =>
  cases rx
  cases y with
  | non => cases ry; exact PySem.EqNone.ne_bool_none (fin_bl I q (by simp))
  | bl j => cases ry; exact ne_bool (fin_bl I q (congrArg not dec_bl))
  | str j => obtain ⟨t', rfl⟩ := ry; exact PySem.EqMixed.ne_bool_str (fin_bl I q (by simp))
  | _ => exact absurd (show false = true from hs) Bool.false_ne_true
 | int i =>
  obtain ⟨t, rfl⟩ := rx
  cases y with
  | non => cases ry; exact PySem.EqNone.ne_int_none (fin_bl I q (by simp))
  | int j => obtain ⟨t', rfl⟩ := ry; exact ne_int (fin_bl I q (congrArg not dec_int))
  | str j => obtain ⟨t', rfl⟩ := ry; exact PySem.EqMixed.ne_int_str (fin_bl I q (by simp))
  | _ => exact absurd (show false = true from hs) Bool.false_ne_true
 | str i =>
  obtain ⟨t, rfl⟩ := rx
  cases y with
  | non => cases ry; exact PySem.EqNone.ne_str_none (fin_bl I q (by simp))
  | bl j => cases ry; exact PySem.EqMixed.ne_str_bool (fin_bl I q (by simp))
  | int j => obtain ⟨t', rfl⟩ := ry; exact PySem.EqMixed.ne_str_int (fin_bl I q (by simp))
  | str j => obtain ⟨t', rfl⟩ := ry; exact ne_str (fin_bl I q (congrArg not dec_str))
  | _ => exact absurd (show false = true from hs) Bool.false_ne_true
 | byt i =>
  obtain ⟨t, rfl⟩ := rx
  cases y with
  | byt j => obtain ⟨t', rfl⟩ := ry; exact PySem.W.ne_bytes (fin_bl I q (congrArg not dec_byt))
  | _ => exact absurd (show false = true from hs) Bool.false_ne_true
 | _ => cases y <;> exact absurd (show false = true from hs) Bool.false_ne_true
theorem op_lt : OpR X (compareOp .Lt) (rI0 fun i j => .bl (decide (i < j))) := opB0 fun _ _ _ _ _ _ _ q => lt_int q
theorem op_le : OpR X (compareOp .LtE) (rI0 fun i j => .bl (decide (i <= j))) := opB0 fun _ _ _ _ _ _ _ q => le_int q
theorem op_gt : OpR X (compareOp .Gt) (rI0 fun i j => .bl (decide (j < i))) := opB0 fun _ _ _ _ _ _ _ q => gt_int q
theorem op_in_str : OpR X (compareOp .In) (fun x y H Q => ∃ i j, x = .str i /\ y = .str j /\ Q (.bl (!(Builtin.Str.occurrences j i 0 j.length 1).isEmpty)) H) := by
 intro pins s σ H x y v u Q I rx ry h
 obtain ⟨i, j, rfl, rfl, q⟩ := h
 obtain ⟨t, rfl⟩ := rx
 obtain ⟨t', rfl⟩ := ry
 exact in_str (fin_bl I q rfl)
theorem nomark (b : Expr) {op : CmpOp} (h : op ≠ .In := by decide) (h2 : op ≠ .NotIn := by decide) : behindInMarks op b = false := by
 have e1 : (op == CmpOp.In) = false := by cases op <;> first | rfl | exact absurd rfl h
 have e2 : (op == CmpOp.NotIn) = false := by cases op <;> first | rfl | exact absurd rfl h2
 cases b <;> simp [behindInMarks, e1, e2]
theorem pe_cmpR {op : CmpOp} {r : R2} (ho : OpR X (compareOp op) r) (ha : PE X a ta) (hb : PE X b tb) (hm : behindInMarks op b = false) : PE X (.Compare a [op] [b] pos) (tOp r ta tb) := by
 intro pins s σ H Q I h
 exact wpAny_Compare1 (binT ha hb I h fun v u s2 x y H2 I2 rx ry q => ho pins s2 σ H2 x y v u Q I2 rx ry q) hm
def tTest (t : TE) : TT := fun σ H Q => t σ H fun x H' => ∃ k, x = .bl k /\ Q k H'
theorem pt_cmpR {op : CmpOp} {r : R2} (ho : OpR X (compareOp op) r) (ha : PE X a ta) (hb : PE X b tb) (hm : behindInMarks op b = false) : PT X (.Compare a [op] [b] pos) (tTest (tOp r ta tb)) := by
 intro pins s σ H Q I h
 refine wpAny_isTrue_Compare1 (thn (ha pins s σ H _ I h) fun v s1 ⟨x, H1, I1, r1, q1⟩ => thn (hb pins s1 σ H1 _ I1 q1) fun u s2 ⟨y, H2, I2, r2, q2⟩ =>
  thn (ho pins s2 σ H2 x y v u _ I2 r1 r2 q2) fun c s3 ⟨z, H3, I3, r3, k, e, q3⟩ => ?_) hm
 subst e
 cases r3
 exact wpAny_truthy_bool ⟨H3, I3, q3⟩
def tChain (r r' : R2) (ta tb tc : TE) : TE := fun σ H Q => ta σ H fun x H1 => tb σ H1 fun y H2 => r x y H2 fun z H3 => ∃ k, z = .bl k /\
 (if k = true then tc σ H3 fun w' H4 => r' y w' H4 Q else Q (.bl false) H3)
theorem pe_chain {op op' : CmpOp} {r r' : R2} (ho : OpR X (compareOp op) r) (ho' : OpR X (compareOp op') r') (ha : PE X a ta) (hb : PE X b tb) (hc : PE X c tc)
  (hm : lastMarks [op, op'] [b, c] = false := by with_unfolding_all rfl) : PE X (.Compare a [op, op'] [b, c] pos) (tChain r r' ta tb tc) := by
 intro pins s σ H Q I h
 refine Compare_chain (thn (ha pins s σ H _ I h) fun v s1 ⟨x, H1, I1, r1, q1⟩ => chain_link (thn (hb pins s1 σ H1 _ I1 q1) fun u s2 ⟨y, H2, I2, r2, q2⟩ =>
  thn (ho pins s2 σ H2 x y v u _ I2 r1 r2 q2) fun d s3 ⟨z, H3, I3, r3, k, e, q3⟩ => ?_)) hm
 subst e
 cases r3
 refine wpAny_truthy_bool ?_
 cases k with
 | false => exact ite_ff ⟨.bl false, H3, I3, rfl, q3⟩
 | true => exact ite_tt (chain_last (thn (hc pins s3 σ H3 _ I3 q3) fun w' s4 ⟨z', H4, I4, r4, q4⟩ => ho' pins s4 σ H4 y z' u w' Q I4 r2 r4 q4))
theorem pt_chain {op op' : CmpOp} {r r' : R2} (ho : OpR X (compareOp op) r) (ho' : OpR X (compareOp op') r') (ha : PE X a ta) (hb : PE X b tb) (hc : PE X c tc)
  (hm : lastMarks [op, op'] [b, c] = false := by with_unfolding_all rfl) : PT X (.Compare a [op, op'] [b, c] pos) (tTest (tChain r r' ta tb tc)) := by
 intro pins s σ H Q I h
 refine isTrue_chain (thn (ha pins s σ H _ I h) fun v s1 ⟨x, H1, I1, r1, q1⟩ => test_link (thn (hb pins s1 σ H1 _ I1 q1) fun u s2 ⟨y, H2, I2, r2, q2⟩ =>
  thn (ho pins s2 σ H2 x y v u _ I2 r1 r2 q2) fun d s3 ⟨z, H3, I3, r3, k, e, q3⟩ => ?_)) hm
 subst e
 cases r3
 refine wpAny_truthy_bool ?_
 cases k with
 | false =>
  obtain ⟨k', e', q'⟩ := q3
  cases e'
  exact ite_ff ⟨H3, I3, q'⟩
 | true =>
  refine ite_tt (test_last (thn (hc pins s3 σ H3 _ I3 q3) fun w' s4 ⟨z', H4, I4, r4, q4⟩ => thn (ho' pins s4 σ H4 y z' u w' _ I4 r2 r4 q4) fun d' s5 ⟨z2, H5, I5, r5, k2, e2, q5⟩ => ?_))
  subst e2
  cases r5
  exact wpAny_truthy_bool ⟨H5, I5, q5⟩
theorem line63 : (sizeLine : Nat) < 2 ^ 63 := by rw [sizeLine_eq]; decide
theorem op_add_str : OpR X (binaryOp .Add) (fun x y H Q => ∃ i j, x = .str i /\ y = .str j /\ i.length + j.length <= sizeLine /\ Q (.str (i ++ j)) H) := by
 intro pins s σ H x y v u Q I rx ry h
 obtain ⟨i, j, rfl, rfl, hz, q⟩ := h
 obtain ⟨t, rfl⟩ := rx
 obtain ⟨t', rfl⟩ := ry
 exact add_str (fun t' tk => ⟨.str (i ++ j), H, I.tok _, ⟨_, rfl⟩, q⟩) hz
theorem vals1 {x : V} {us : List Value} (r : Vals [x] us) : ∃ u, us = [u] /\ RelV x u := by
 cases r with
 | cons r1 r2 => cases r2; exact ⟨_, rfl, r1⟩
theorem vals2 {x y : V} {us : List Value} (r : Vals [x, y] us) : ∃ u w', us = [u, w'] /\ RelV x u /\ RelV y w' := by
 cases r with
 | cons r1 r2 =>
  cases r2 with
  | cons r3 r4 => cases r4; exact ⟨_, _, rfl, r1, r3⟩
theorem call_abs : CallR X (.builtin "abs") (fun xs H Q => ∃ i, xs = [.int i] /\ Q (.int (if i < 0 then -i else i)) H) := by
 intro pins s σ H xs us Q I r h
 obtain ⟨i, rfl, q⟩ := h
 obtain ⟨u, rfl, t, rfl⟩ := vals1 r
 exact call_abs_int fun u tk => ⟨.int (if i < 0 then -i else i), H, I.tok _, ⟨_, rfl⟩, q⟩
theorem call_max2 (hc : X.calm = true) : CallR X (.builtin "max") (fun xs H Q => ∃ i j, xs = [.int i, .int j] /\ Q (.int (if j > i then j else i)) H) := by
 intro pins s σ H xs us Q I r h
 obtain ⟨i, j, rfl, q⟩ := h
 obtain ⟨u, w', rfl, ⟨t, rfl⟩, ⟨t', rfl⟩⟩ := vals2 r
 refine max_two_ints (I.ok.hd hc) fun h' tk k => ⟨_, H, I.kept k, ?_, q⟩
 by_cases hj : j > i
 ·rw [if_pos hj, if_pos hj]; exact ⟨_, rfl⟩
 ·rw [if_neg hj, if_neg hj]; exact ⟨_, rfl⟩
theorem call_min2 (hc : X.calm = true) : CallR X (.builtin "min") (fun xs H Q => ∃ i j, xs = [.int i, .int j] /\ Q (.int (if j < i then j else i)) H) := by
 intro pins s σ H xs us Q I r h
 obtain ⟨i, j, rfl, q⟩ := h
 obtain ⟨u, w', rfl, ⟨t, rfl⟩, ⟨t', rfl⟩⟩ := vals2 r
 refine min_two_ints (I.ok.hd hc) fun h' tk k => ⟨_, H, I.kept k, ?_, q⟩
 by_cases hj : j < i
 ·rw [if_pos hj, if_pos hj]; exact ⟨_, rfl⟩
 ·rw [if_neg hj, if_neg hj]; exact ⟨_, rfl⟩
end
end L2
namespace L2
open PySem PySem.Spec PyProof.Rows
structure ObjM (h : Heap) (x dx C : Addr) (mA : Str -> Option Value) : Prop where
 obj : h.get? x = some (PySem.W.instObj C dx)
 ns : h.Ns1 dx mA
 ne : dx ≠ x
theorem lookIn_ns {h : Heap} {dx : Addr} {mA : Str -> Option Value} (n : h.Ns1 dx mA) : ∃ od, h.get? dx = some od /\ ∀ name, PySem.W.lookIn name od = some (mA name) := by
 obtain ⟨o, es, ep, ho, hd, hk, _, hm⟩ := n
 refine ⟨o, ho, fun name => ?_⟩
 have e := hm name
 unfold nsFind findBy at e
 rw [<- Array.find?_toList] at e
 unfold PySem.W.lookIn
 rw [hd]
 dsimp only
 split
 ·rename_i y q
  rw [q] at e
  exact congrArg some e
 ·rename_i q
  rw [q] at e
  have a : es.toList.any (·.refKey) = false := by
   rw [List.any_eq_false]
   intro y hy
   obtain ⟨z, t, hkey⟩ := hk y (Array.mem_toList_iff.mp hy)
   simp [DictEntry.refKey, hkey]
  have a' : ¬ es.toList.any (·.refKey) = true := by rw [a]; exact Bool.false_ne_true
  rw [if_neg a']
  exact congrArg some e
theorem ObjM.look {h : Heap} {x dx C : Addr} {mA : Str -> Option Value} (I : ObjM h x dx C mA) : ∃ od, PySem.W.InstAt h x (PySem.W.instObj C dx) C (some od) /\ ∀ name, PySem.W.lookIn name od = some (mA name) :=
 let ⟨od, ho, hl⟩ := lookIn_ns I.ns
 ⟨od, ⟨I.obj, rfl, rfl, ho⟩, hl⟩
section
variable {P : Program} {w : World} {H H' : Hp} {h h' : Heap} {a C dx : Addr} {fs fs' : List (Str × V)}
theorem ins_get (hok : HOk P w H h) (e : H a = some (.ins C dx fs)) : ∃ mA, ObjM h a dx C mA /\ (∀ f, RelO (fs.lookup f) (mA f)) /\ PySem.Within mA (fs.map (·.1)) /\ fs.length <= 1000 /\ H dx = some (.own a) := by
 obtain ⟨d, z, ne, ob, mA, n, r, q⟩ := (show ObjOk P w H h a (.ins C dx fs) from hok a _ e)
 exact ⟨mA, ⟨ob, n, ne⟩, r, q, z, d⟩
end
structure Cls (K : PySem.W.Frag) (C : Addr) : Prop where
 pg : PySem.W.plainGet K C Str.empty = true
 hd : PySem.W.hasDictIn K C = true
 po : PySem.W.plainOver K C = true
 sa : PySem.W.findIn K (.ref C) "__setattr__" = some (some (.builtin "object.__setattr__"))
theorem Cls.get {K : PySem.W.Frag} {C : Addr} (c : Cls K C) (f : Str) : PySem.W.plainGet K C f = true := c.pg
section
variable {X : Cx} {pins : List (Addr × Obj)} {σ : St} {H : Hp} {s : Shared} {A : Around} {E : Value -> Shared -> Prop} {Q : Value -> Shared -> Prop} {c : Value} {b : Bool}
inductive TyOf (K : PySem.W.Frag) (H : Hp) : V -> Value -> Prop where
 | non : TyOf K H .non (.type "NoneType")
 | bl (x : Bool) : TyOf K H (.bl x) (.type "bool")
 | int (i : Int) : TyOf K H (.int i) (.type "int")
 | str (x : Str) : TyOf K H (.str x) (.type "str")
 | flt (x : UInt64) : TyOf K H (.flt x) (.type "float")
 | lst {a : Addr} {xs : List V} (e : H a = some (.lst xs)) : TyOf K H (.ref a) (.type "list")
 | frz {a : Addr} {o : Obj} {xs : List V} (e : H a = some (.frz o (.lst xs))) : TyOf K H (.ref a) (.type "list")
 | tup {a : Addr} {xs : List V} (e : H a = some (.tup xs)) : TyOf K H (.ref a) (.type "tuple")
 | dK {a : Addr} {kvs : List (Key × V)} (e : H a = some (.dK kvs)) : TyOf K H (.ref a) (.type "dict")
 | dT {a : Addr} {kvs : List (List Key × V)} (e : H a = some (.dT kvs)) : TyOf K H (.ref a) (.type "dict")
 | ins {a C dx : Addr} {fs : List (Str × V)} (e : H a = some (.ins C dx fs)) (cl : Cls K C) (ha : PySem.W.findIn K (.ref C) "__class__" = some (some (.builtin "object.__class__")))
   (hn : PySem.W.specialIn K (.builtin "object.__class__") "__get__" = some (some (.builtin "getset_descriptor.__get__"))) (htk : PySem.W.takesIn K (.builtin "object.__class__") = some true)
   (hm : PySem.W.mroIn K C (.type "object") = some true) : TyOf K H (.ref a) (.ref C)
theorem isinst_ok {x : V} {u t : Value} (I : Inv X pins σ H s) (rx : RelV x u) (ty : TyOf X.K H x t) (e : PySem.W.kitOne X.K t c = some b) (h : ∀ tk, Q (.bool b) { s with toks := tk }) :
  wpAny (model X.prog X.w) A (call (.builtin "isinstance") [u, c]) Q E s := by
 cases ty with
 | non => cases (show u = Value.none from rx); exact PySem.W.kia_one PySem.W.kitx_none I.kIn True.intro e (fun z => nomatch z) h
 | bl y => cases (show u = Value.bool y from rx); exact PySem.W.kia_one PySem.W.kitx_bool I.kIn True.intro e (fun z => nomatch z) h
 | int i => obtain ⟨t, q⟩ := (show ∃ t, u = Value.int i t from rx); cases q; exact PySem.W.kia_one PySem.W.kitx_int I.kIn True.intro e (fun z => nomatch z) h
 | str y => obtain ⟨t, q⟩ := (show ∃ t, u = Value.str y t from rx); cases q; exact PySem.W.kia_one PySem.W.kitx_str I.kIn True.intro e (fun z => nomatch z) h
 | flt y => obtain ⟨t, q⟩ := (show ∃ t, u = Value.float y t from rx); cases q; exact PySem.W.kia_one PySem.W.kitx_float I.kIn True.intro e (fun z => nomatch z) h
 | @lst a xs ea =>
  cases (show u = Value.ref a from rx)
  obtain ⟨_, _, n, _, h1⟩ := (show ObjOk X.prog X.w H s.heap a (.lst xs) from I.hok a _ ea)
  exact PySem.W.kia_one PySem.W.kitx_list I.kIn ⟨_, h1, rfl⟩ e (fun z => nomatch z) h
 | @frz a ob xs ea =>
  cases (show u = Value.ref a from rx)
  obtain ⟨_, _, _, n, _, h1⟩ := (show ObjOk X.prog X.w H s.heap a (.frz ob (.lst xs)) from I.hok a _ ea)
  exact PySem.W.kia_one PySem.W.kitx_list I.kIn ⟨_, h1, rfl⟩ e (fun z => nomatch z) h
 | @tup a xs ea =>
  cases (show u = Value.ref a from rx)
  obtain ⟨_, _, _, p⟩ := (show ObjOk X.prog X.w H s.heap a (.tup xs) from I.hok a _ ea)
  obtain ⟨o, h1, h2, _⟩ := p
  exact PySem.W.kia_one PySem.W.kitx_tuple I.kIn ⟨o, h1, h2⟩ e (fun z => nomatch z) h
 | @dK a kvs ea =>
  cases (show u = Value.ref a from rx)
  obtain ⟨_, _, vs, _, p⟩ := (show ObjOk X.prog X.w H s.heap a (.dK kvs) from I.hok a _ ea)
  obtain ⟨o, es, ep, h1, h2, _⟩ := p
  exact PySem.W.kia_one PySem.W.kitx_dict I.kIn ⟨o, h1, h2.1⟩ e (fun z => nomatch z) h
 | @dT a kvs ea =>
  cases (show u = Value.ref a from rx)
  obtain ⟨_, _, xs, _, o, es, ep, h1, h2, _⟩ := (show ObjOk X.prog X.w H s.heap a (.dT kvs) from I.hok a _ ea)
  exact PySem.W.kia_one PySem.W.kitx_dict I.kIn ⟨o, h1, h2.1⟩ e (fun z => nomatch z) h
 | @ins a C dx fs ea cl ha hn htk hm =>
  cases (show u = Value.ref a from rx)
  obtain ⟨mA, O, _⟩ := ins_get I.hok ea
  obtain ⟨od, J, _⟩ := O.look
  exact PySem.W.kia_one (PySem.W.kitx_own (cl.get _) cl.hd ha hn htk hm) I.kIn J e (fun z => nomatch z) h
end
end L2
namespace L2
open PySem PySem.Spec PyProof.Rows
structure Room (k : Nat) (A : Around) : Prop where
 hd : A.handled = none
 dp : A.depth + 3 * k + 5 < recursionLimit
 un : A.units + 16 * k + 200 < cLine
 gd : A.guards = some []
theorem Room.mono {j k : Nat} {A : Around} (r : Room k A) (h : j <= k) : Room j A := ⟨r.hd, by have := r.dp; omega, by have := r.un; omega, r.gd⟩
theorem Room.deeper {k : Nat} {A : Around} (r : Room (k + 1) A) (env : Env) : Room k (A.deeper env) :=
 ⟨r.hd, by have := r.dp; show A.depth + 1 + 3 * k + 5 < _; omega, by have := r.un; show A.units + 3 + 16 * k + 200 < _; omega, by first | exact r.gd | simp [Around.deeper, r.gd]⟩
theorem Room.depth {k : Nat} {A : Around} (r : Room k A) : A.depth < recursionLimit := by have := r.dp; omega
theorem Room.units {k : Nat} {A : Around} (r : Room k A) : A.units + 64 < cLine := by have := r.un; omega
def tNil : TA := fun _ H Q => Q [] H
def tCons (ta : TE) (tr : TA) : TA := fun σ H Q => ta σ H fun x H1 => tr σ H1 fun xs H2 => Q (x :: xs) H2
section
variable {X : Cx} {e : Expr} {es : List Expr} {te : TE} {t : TA} {pos : Pos}
theorem pa_nil : PA X [] tNil := fun _ _ _ _ H Q I h => Calls.spliced_nil ⟨[], H, I, .nil, h⟩
theorem pa_cons (ha : PE X e te) (hr : PA X es t) (hs : starEach (e :: es) X.env = (false, eval e X.env) :: starEach es X.env := by rfl) : PA X (e :: es) (tCons te t) := by
 intro pos pins s σ H Q I h
 rw [hs]
 show wpAny _ _ (spliced ((false, eval e X.env) :: backTo pos (starEach es X.env))) _ _ s
 refine Calls.spliced_cons (thn (ha pins s σ H _ I h) fun u s1 ⟨x, H1, I1, r1, q1⟩ => ?_)
 exact thn (hr pos pins s1 σ H1 _ I1 q1) fun us s2 ⟨xs, H2, I2, r2, q2⟩ => ⟨x :: xs, H2, I2, .cons r1 r2, q2⟩
def tTup (t : TA) : TE := fun σ H Q => t σ H fun xs H1 => xs.length <= sizeLine /\ ∀ p, H1 p = none -> Q (.ref p) (upd H1 p (.tup xs))
def tLst (t : TA) : TE := fun σ H Q => t σ H fun xs H1 => xs.length <= sizeLine /\ ∀ p, H1 p = none -> Q (.ref p) (upd H1 p (.lst xs))
theorem pe_tup {x1} (h : PA X es t) : PE X (.Tuple es x1 pos) (tTup t) := by
 intro pins s σ H Q I hq
 refine wpAny_Tuple_spliced (thn (h pos pins s σ H _ I hq) fun us s1 ⟨xs, H1, I1, r, z, q⟩ => ⟨by rw [<- r.length]; exact z, ?_⟩)
 have hf : H1 s1.heap.objs.size = none := I1.hok.fresh (Nat.le_refl _)
 refine ⟨.ref s1.heap.objs.size, upd H1 s1.heap.objs.size (.tup xs), I1.laid (t' := s1.toks) (fun b u e => Heap.get?_push_of_some _ e) (Nat.le_refl _) ?_, rfl, q _ hf⟩
 exact ⟨z, us, r, ⟨_, Heap.get?_push_size _ rfl, rfl, _, rfl, rfl⟩⟩
theorem pe_lst (h : PA X es t) : PE X (.List es pos) (tLst t) := by
 intro pins s σ H Q I hq
 refine wpAny_List_spliced (thn (h pos pins s σ H _ I hq) fun us s1 ⟨xs, H1, I1, r, z, q⟩ => ⟨by rw [<- r.length]; exact z, ?_⟩)
 have hf : H1 s1.heap.objs.size = none := I1.hok.fresh (Nat.le_refl _)
 refine ⟨.ref s1.heap.objs.size, upd H1 s1.heap.objs.size (.lst xs), I1.laid (t' := s1.toks) (fun b u e => Heap.get?_push_of_some _ e) (Nat.le_refl _) ?_, rfl, q _ hf⟩
 exact ⟨z, us, 0, r, Heap.get?_push_size _ rfl⟩
end
abbrev Sp := List V -> Hp -> VK -> XK -> Prop
abbrev CXT := List Env -> Hp -> Shared -> XK -> Value -> Shared -> Prop
structure Env0 (P : Program) (w : World) (K : PySem.W.Frag) (mg : Str -> Option Value) (base : Heap) (A : Around) (outer : List Env) (s : Shared) (H : Hp) : Prop where
 frames : A.frames = some outer
 mod : Mod K mg base
 bs : ∀ b o, base.get? b = some o -> s.heap.get? b = some o /\ H b = none
 bsz : base.objs.size <= s.heap.objs.size
 funs : s.heap.FunFrames base outer
 frf : ∀ b ∈ frs outer, H b = none
 hok : HOk P w H s.heap
 bare : AllBare s.gens
def CE (outer : List Env) (P : Program) (w : World) (H : Hp) (s : Shared) (Q : VK) (u : Value) (s' : Shared) : Prop :=
 ∃ v H', s'.os = s.os /\ AllBare s'.gens /\ Un (frs outer) [] H H' s.heap s'.heap /\ HOk P w H' s'.heap /\ RelV v u /\ Q v H'
def CR (CX : CXT) (outer : List Env) (P : Program) (w : World) (H : Hp) (s : Shared) (Q : VK) (E : XK) (r : Result) (s' : Shared) : Prop :=
 match r with
 | .ok (.ret u) => CE outer P w H s Q u s'
 | .ok _ => False
 | .error e => CX outer H s E e s'
structure FnOk (P : Program) (w : World) (K : PySem.W.Frag) (mg : Str -> Option Value) (base : Heap) (CX : CXT) (k : Nat) (f : Addr) (fd : FuncData) (ps : List Str) (sp : Sp) : Prop where
 len : ∀ vs H Q E, sp vs H Q E -> vs.length = ps.length
 run : ∀ (A : Around) (outer : List Env) (s : Shared) (H : Hp) (args : Args) (us : List Value) (vs : List V) (Q : VK) (E : XK), Room k A -> Env0 P w K mg base A outer s H -> BindsTo s fd args (ps.zip us) -> Vals vs us -> sp vs H Q E ->
  codeAny (model P w) A (.call (.ref f) args) (CR CX outer P w H s Q E) s
section
variable {X : Cx} {pins : List (Addr × Obj)} {σ : St} {H : Hp} {s s' : Shared}
theorem Inv.env0 (I : Inv X pins σ H s) : Env0 X.prog X.w X.K X.mg X.base X.A X.stack s H :=
 ⟨I.ok.frames, I.ok.mod, I.bs, Nat.le_trans I.ok.bsz I.sz, I.stack, I.stkFree, I.hok, I.bare⟩
theorem Inv.after {Q : VK} {u : Value} (I : Inv X pins σ H s) (h : CE X.stack X.prog X.w H s Q u s') : EP X pins σ Q u s' := by
 obtain ⟨v, H', os, bare, un, hok, r, q⟩ := h
 obtain ⟨hh, g, d, t, os'⟩ := s'
 obtain rfl : os' = s.os := os
 exact ⟨v, H', I.call (h' := hh) (g' := g) (d' := d) (t' := t) (ch := []) un hok bare (fun b z => absurd z (by simp)), r, q⟩
end
def tCall (sp : Sp) (dvs : List V) (E : XK) (t : TA) : TE := fun σ H Q => t σ H fun vs H1 => sp (vs ++ dvs) H1 Q E
def Binds (K : PySem.W.Frag) (fd : FuncData) (ps : List Str) (ds : List Value) : Prop :=
 ∀ (s : Shared) (us : List Value), K.In s.heap -> (us ++ ds).length = ps.length -> BindsTo s fd ⟨us, []⟩ (ps.zip (us ++ ds))
theorem Binds.all {K : PySem.W.Frag} {fd : FuncData} {ps : List Str} (h : ∀ us : List Value, us.length = ps.length -> bindArgs fd ⟨us, []⟩ = pure (ps.zip us)) : Binds K fd ps [] := fun s us _ hl => by
 rw [List.append_nil] at hl ⊢
 exact .of_eq (h us hl)
def Passes (CX : CXT) (X : Cx) (E : XK) : Prop := ∀ (pins : List (Addr × Obj)) (σ : St) (H : Hp) (s : Shared) (e : Value) (s' : Shared), Inv X pins σ H s -> CX X.stack H s E e s' -> X.xe e s'
section
variable {X : Cx} {CX : CXT} {k : Nat} {f C : Addr} {fd : FuncData} {ps : List Str} {sp : Sp} {dvs : List V} {ds : List Value} {E : XK} {x m : Str} {p pos apos : Pos} {e o : Expr} {es : List Expr} {ta : TE} {t : TA}
theorem run_fn {pins : List (Addr × Obj)} {σ : St} {H : Hp} {s : Shared} {Q : VK} {us : List Value} {vs : List V} (F : FnOk X.prog X.w X.K X.mg X.base CX k f fd ps sp) (hr : Room k X.A) (hb : Binds X.K fd ps ds) (hd : Vals dvs ds) (hx : Passes CX X E)
  (I : Inv X pins σ H s) (r : Vals vs us) (h : sp (vs ++ dvs) H Q E) : wpAny (model X.prog X.w) X.A (call (.ref f) us) (EP X pins σ Q) X.xe s := by
 have r2 : Vals (vs ++ dvs) (us ++ ds) := r.append hd
 have hl : (us ++ ds).length = ps.length := by rw [<- r2.length]; exact F.len _ _ _ _ h
 refine wpAny_call (codeAny_mono (F.run X.A X.stack s H ⟨us, []⟩ (us ++ ds) (vs ++ dvs) Q E hr I.env0 (hb s us I.kIn hl) r2 h) fun r s' hq => ?_)
 cases r with
 | error e => exact hx pins σ H s e s' I hq
 | ok fl =>
  cases fl with
  | ret u => exact I.after hq
  | next => exact False.elim hq
  | brk => exact False.elim hq
  | cont => exact False.elim hq
theorem pe_call (F : FnOk X.prog X.w X.K X.mg X.base CX k f fd ps sp) (hr : Room k X.A) (hg : Gl X x) (hm : X.mg x = some (.ref f)) (hk : PySem.W.keepIn X.K (.ref f) = true) (hb : Binds X.K fd ps ds) (hd : Vals dvs ds) (hx : Passes CX X E)
  (ha : PA X (e :: es) t) (hdb : (x == ("__debug__" : Str)) = false := by decide) (he : starEach (e :: es) X.env = (false, eval e X.env) :: starEach es X.env := by rfl) (hpl : (backTo pos (starEach es X.env)).any (·.1) = false := by rfl) :
  PE X (.Call (.Name x p) (e :: es) [] pos) (tCall sp dvs E t) := by
 intro pins s σ H Q I h
 refine wpAny_Call_Name_kw (ld_glob I hg hm ?_ hdb)
 refine PySem.W.callWith_K (h₀ := X.base) I.ok.mod.kin hk (thn (ha pos pins s σ H _ I h) fun us s1 ⟨vs, H1, I1, r, q⟩ => ⟨I1.kIn, ?_⟩) he hpl
 exact run_fn F hr hb hd hx I1 r q
end
structure FnScope (N P : List Str) (sc : Scope) : Prop where
 kind : sc.kind = .function
 co : sc.isCoroutine = false
 gen : sc.isGenerator = false
 nd : N.Nodup
 pre : N.take P.length = P
 par : ∀ x ∈ P, sc.names.lookup x = some .local \/ sc.names.lookup x = some .cell
 nofree : ∀ y ∈ sc.names, y.2 ≠ .free
theorem bindL_out {kindOf : Str -> Option NameKind} {x : Str} : ∀ {binds : List (Str × Value)} {m : Str -> Option Value}, (∀ v, (x, v) ∉ binds) -> bindL kindOf binds m x = m x
 | [], _, _ => rfl
 | (n, v) :: r, m, h => by
  unfold bindL
  rw [bindL_out fun w hw => h w (List.mem_cons_of_mem _ hw)]
  split
  ·have : x ≠ n := by rintro rfl; exact h v List.mem_cons_self
   simp [this]
  ·rfl
theorem bindC_out {kindOf : Str -> Option NameKind} {x : Str} : ∀ {binds : List (Str × Value)} {m : Str -> Option Value}, (∀ v, (x, v) ∉ binds) -> bindC kindOf binds m x = m x
 | [], _, _ => rfl
 | (n, v) :: r, m, h => by
  unfold bindC
  rw [bindC_out fun w hw => h w (List.mem_cons_of_mem _ hw)]
  split
  ·rfl
  ·have : x ≠ n := by rintro rfl; exact h v List.mem_cons_self
   simp [this]
theorem bindL_get {kindOf : Str -> Option NameKind} {x : Str} {v : Value} : ∀ {P : List Str} {vs : List Value} {i : Nat} {m : Str -> Option Value}, P.Nodup -> P[i]? = some x -> vs[i]? = some v -> kindOf x = some .local ->
  bindL kindOf (P.zip vs) m x = some v
 | [], _, _, _, _, h, _, _ => by simp at h
 | _ :: _, [], _, _, _, _, h, _ => by simp at h
 | p :: P, w :: vs, 0, m, nd, h1, h2, hk => by
  simp at h1 h2; subst h1; subst h2
  show bindL kindOf ((p, w) :: P.zip vs) m p = _
  unfold bindL
  rw [bindL_out fun v hv => (List.nodup_cons.mp nd).1 (List.of_mem_zip hv).1, if_pos hk]
  simp
 | p :: P, w :: vs, i + 1, m, nd, h1, h2, hk => by
  show bindL kindOf ((p, w) :: P.zip vs) m x = _
  unfold bindL
  exact bindL_get (i := i) (List.nodup_cons.mp nd).2 (by simpa using h1) (by simpa using h2) hk
theorem bindC_get {kindOf : Str -> Option NameKind} {x : Str} {v : Value} : ∀ {P : List Str} {vs : List Value} {i : Nat} {m : Str -> Option Value}, P.Nodup -> P[i]? = some x -> vs[i]? = some v -> kindOf x ≠ some .local ->
  bindC kindOf (P.zip vs) m x = some v
 | [], _, _, _, _, h, _, _ => by simp at h
 | _ :: _, [], _, _, _, _, h, _ => by simp at h
 | p :: P, w :: vs, 0, m, nd, h1, h2, hk => by
  simp at h1 h2; subst h1; subst h2
  show bindC kindOf ((p, w) :: P.zip vs) m p = _
  unfold bindC
  rw [bindC_out fun v hv => (List.nodup_cons.mp nd).1 (List.of_mem_zip hv).1, if_neg hk]
  simp
 | p :: P, w :: vs, i + 1, m, nd, h1, h2, hk => by
  show bindC kindOf ((p, w) :: P.zip vs) m x = _
  unfold bindC
  exact bindC_get (i := i) (List.nodup_cons.mp nd).2 (by simpa using h1) (by simpa using h2) hk
def start (N : List Str) (vs : List V) : St := vs.map some ++ List.replicate (N.length - vs.length) none
def cxOf (CX : CXT) (P : Program) (w : World) (K : PySem.W.Frag) (mg : Str -> Option Value) (base : Heap) (N : List Str) (qual : Str) (scope : Scope) (f : Addr) (cd : Value) (A : Around) (outer : List Env) (s : Shared) (H : Hp) (E : XK) : Cx where
 prog := P
 w := w
 K := K
 mg := mg
 base := base
 A := A.deeper (envOfC qual scope s.heap.objs.size f cd)
 N := N
 s₀ := s
 H₀ := H
 env := envOfC qual scope s.heap.objs.size f cd
 outer := outer
 stack := envOfC qual scope s.heap.objs.size f cd :: outer
 ex := []
 calm := true
 fn := fun _ => true
 pn := []
 xe := fun e s' => wpAny (model P w) (A.deeper (envOfC qual scope s.heap.objs.size f cd)) (leaving (envOfC qual scope s.heap.objs.size f cd) e) (fun _ s'' => CX outer H s E e s'') (fun e' s'' => CX outer H s E e' s'') s'
theorem cell_has {sc : Scope} {n : Nat} {x : Str} (h : sc.names.lookup x = some .cell) : ∃ c, (cellsFrom n sc.names []).lookup x = some c := by
 have q := PySem.W.cellsFrom_some sc.names n [] (.inl h)
 exact Option.isSome_iff_exists.mp q
theorem inv_start {CX : CXT} {P : Program} {w : World} {K : PySem.W.Frag} {mg : Str -> Option Value} {base : Heap} {N ps : List Str} {qual : Str} {scope : Scope} {f : Addr} {cd : Value} {A : Around} {outer : List Env} {s s1 : Shared} {H : Hp} {E : XK} {us : List Value} {vs : List V}
  (S : FnScope N ps scope) (hd : A.handled = none) (e0 : Env0 P w K mg base A outer s H) (hl : vs.length = ps.length) (r : Vals vs us)
  (x : InCallC s s.heap.objs.size (bindL (envOfC qual scope s.heap.objs.size f cd).kindOf (ps.zip us) fun _ => none) (cellsFrom (s.heap.objs.size + 1) scope.names []) (bindC (envOfC qual scope s.heap.objs.size f cd).kindOf (ps.zip us) fun _ => none) s1) :
  Inv (cxOf CX P w K mg base N qual scope f cd A outer s H E) [] (start N vs) H s1 := by
 have hpl : ps.length <= N.length := by have := congrArg List.length S.pre; rw [List.length_take] at this; omega
 obtain ⟨h1, tk, rfl, hk⟩ := x.done
 have noA : ∀ b : Addr, b ∉ (cxOf CX P w K mg base N qual scope f cd A outer s H E).ex := fun b z => absurd (show b ∈ ([] : List Addr) from z) (by simp)
 refine ⟨⟨e0.mod, S.kind, rfl, rfl, Nat.le_refl _, fun y z c h1 h2 => ?_, fun y hy => ?_, fun y c _ h => ?_, fun _ => hd, Around.frames_deeper e0.frames, .inr ⟨rfl, rfl⟩, fun b z => absurd z (noA b), e0.bs, e0.bsz, fun b _ _ => noA b, fun b z => absurd z (noA b), e0.funs, e0.frf⟩,
  rfl, e0.bare, Un.kept hk, ⟨_, x.toInCall.ns, fun i y v h1 h2 h3 => ?_⟩, fun y c h => ⟨_, x.cell y c h⟩, e0.hok.fresh (Nat.le_refl _), fun y c h => ?_, fun p hp => absurd (show p ∈ ([] : List (Addr × Obj)) from hp) (by simp), e0.hok.kept hk, ?_⟩
 ·exact name_of_addr x.apart (PySem.mem_of_lookup h1) (PySem.mem_of_lookup h2)
 ·have hy : scope.names.lookup y = some .cell \/ scope.names.lookup y = some .free := hy
  rcases hy with hy | hy
  ·exact cell_has hy
  ·exact absurd rfl (S.nofree _ (PySem.mem_of_lookup hy))
 ·exact Nat.le_of_lt (x.above y c (PySem.mem_of_lookup h))
 ·have hi : i < vs.length := by
   unfold start at h2
   by_cases hi : i < vs.length
   ·exact hi
   ·rw [List.getElem?_append_right (by simpa using hi)] at h2
    rw [List.getElem?_replicate] at h2
    split at h2 <;> cases h2
  have ha : vs[i]? = some v := by
   unfold start at h2
   rw [List.getElem?_append_left (by simpa using hi), List.getElem?_map] at h2
   cases e : vs[i]? with
   | none => rw [e] at h2; cases h2
   | some a => rw [e] at h2; cases h2; rfl
  obtain ⟨u, hu, rv⟩ := r.get ha
  have hp : ps[i]? = some y := by
   rw [<- S.pre, List.getElem?_take_of_lt (by omega)]; exact h1
  have ndP : ps.Nodup := by rw [<- S.pre]; exact S.nd.sublist (List.take_sublist _ _)
  refine ⟨u, rv, ?_⟩
  rcases S.par y (List.mem_of_getElem? hp) with k | k
  ·exact .inl ⟨k, bindL_get ndP hp hu k⟩
  ·obtain ⟨c, e⟩ := cell_has (n := s.heap.objs.size + 1) k
   refine .inr ⟨.inl k, c, e, ?_⟩
   have q := x.cell y c e
   rw [bindC_get ndP hp hu (by show scope.names.lookup y ≠ _; rw [k]; decide)] at q
   exact q
 ·exact e0.hok.fresh (Nat.le_of_lt (x.above y c (PySem.mem_of_lookup h)))
 ·unfold start
  show _ = N.length
  rw [List.length_append, List.length_map, List.length_replicate]
  omega
theorem fn_of {CX : CXT} {P : Program} {w : World} {K : PySem.W.Frag} {mg : Str -> Option Value} {base : Heap} {k : Nat} {f : Addr} {name qual : Str} {params : Arguments} {body : List Stmt} {scope : Scope} {dV kV doc pm cdv ct oc : Value} {an od : Option Addr}
  {osl : Array (Option Value)} {N ps : List Str} {sp : Sp} (lk : K.lookup f = some ⟨oc, od, .func (PySem.W.fnOf name qual params body scope dV kV doc pm an cdv ct), osl⟩) (hcd : PySem.W.codeIn K cdv qual = true) (S : FnScope N ps scope)
  (len : ∀ vs H Q E, sp vs H Q E -> vs.length = ps.length)
  (hbody : ∀ (A : Around) (outer : List Env) (s : Shared) (H : Hp) (vs : List V) (Q : VK) (E : XK), Room k (A.deeper (envOfC qual scope s.heap.objs.size f cdv)) -> sp vs H Q E ->
   ∃ t, PSs (cxOf CX P w K mg base N qual scope f cdv A outer s H E) body t /\ t { nx := fun _ H' => Q .non H', rt := Q } (start N vs) H) :
  FnOk P w K mg base CX (k + 1) f (PySem.W.fnOf name qual params body scope dV kV doc pm an cdv ct) ps sp := by
 refine ⟨len, fun A outer s H args us vs Q E hr e0 hb r hsp => ?_⟩
 have hl := len _ _ _ _ hsp
 have KX : K.In s.heap := e0.mod.kin.keeps fun b o e => (e0.bs b o e).1
 have lim : s.heap.NoLimit := e0.mod.nolimit.keeps fun b o e => (e0.bs b o e).1
 have hkind : ∀ y ∈ ps.zip us, scope.names.lookup y.1 = some .local \/ (scope.names.lookup y.1 = some .cell /\ ((cellsFrom (s.heap.objs.size + 1) scope.names []).lookup y.1).isSome = true) := fun ⟨n, v⟩ hy => by
  rcases S.par n (List.of_mem_zip hy).1 with q | q
  ·exact .inl q
  ·exact .inr ⟨q, PySem.W.cellsFrom_some _ _ _ (.inl q)⟩
 refine codeAny_call_function hr.depth (KX _ _ lk) rfl S.co S.gen rfl (PySem.W.codeRec_of KX hcd) (hb _ _ _ _ ?_)
 refine wpAny_newFunctionEnv_cells S.kind hkind fun env he s1 x => ?_
 subst he
 refine ⟨lim.keeps x.toInCall.keep, codeAny_func ?_⟩
 obtain ⟨t, ht, hq⟩ := hbody A outer s H vs Q E (hr.deeper _) hsp
 have I : Inv (cxOf CX P w K mg base N qual scope f cdv A outer s H E) [] (start N vs) H s1 := inv_start S hr.hd e0 hl r x
 refine wpAny_mono (ht [] s1 (start N vs) H _ I hq) (fun fl s' hs => ?_) fun e s' hs => hs
 have fin : ∀ {σ' : St} {H' : Hp} {v : V} {u : Value}, Inv (cxOf CX P w K mg base N qual scope f cdv A outer s H E) [] σ' H' s' -> RelV v u -> Q v H' -> CE outer P w H s Q u s' :=
  fun {σ' H' v u} J rv q => ⟨v, H', J.os, J.bare, J.base, J.hok, rv, q⟩
 cases fl with
 | ret u =>
  obtain ⟨v, σ', H', J, rv, q⟩ := hs
  exact fin J rv q
 | next =>
  obtain ⟨σ', H', J, q⟩ := hs
  exact fin (v := V.non) (u := Value.none) J rfl q
 | brk =>
  obtain ⟨_, _, _, q⟩ := hs
  exact False.elim q
 | cont =>
  obtain ⟨_, _, _, q⟩ := hs
  exact False.elim q
end L2
namespace L2
open PySem PySem.Spec PyProof.Rows
section
variable {X : Cx} {x : Str} {p pos : Pos} {e : Expr} {es : List Expr} {t : TA} {id T : String} {r : List V -> Hp -> VK -> Prop}
def tCB (r : List V -> Hp -> VK -> Prop) (t : TA) : TE := fun σ H Q => t σ H fun vs H1 => r vs H1 Q
theorem pe_callB (hc : CallR X (.builtin id) r) (hg : Gl X x) (hm : X.mg x = none) (hv : bootBuiltins x = some (.builtin id)) (ha : PA X (e :: es) t) (hn : x ≠ "__name__" := by decide) (hdb : (x == ("__debug__" : Str)) = false := by decide)
  (he : starEach (e :: es) X.env = (false, eval e X.env) :: starEach es X.env := by rfl) (hpl : (backTo pos (starEach es X.env)).any (·.1) = false := by rfl) : PE X (.Call (.Name x p) (e :: es) [] pos) (tCB r t) := by
 intro pins s σ H Q I h
 refine wpAny_Call_Name_kw (ld_blt I hg hm hv ?_ hn hdb)
 exact PyProof.Rows.callWith_builtin1 (thn (ha pos pins s σ H _ I h) fun us s1 ⟨vs, H1, I1, r1, q1⟩ => hc pins s1 σ H1 vs us Q I1 r1 q1) he hpl
theorem pe_callTy (hc : CallR X (.type T) r) (hg : Gl X x) (hm : X.mg x = none) (hv : bootBuiltins x = some (.type T)) (ha : PA X (e :: es) t) (hn : x ≠ "__name__" := by decide) (hdb : (x == ("__debug__" : Str)) = false := by decide)
  (he : starEach (e :: es) X.env = (false, eval e X.env) :: starEach es X.env := by rfl) (hpl : (backTo pos (starEach es X.env)).any (·.1) = false := by rfl) : PE X (.Call (.Name x p) (e :: es) [] pos) (tCB r t) := by
 intro pins s σ H Q I h
 refine wpAny_Call_Name_kw (ld_blt I hg hm hv ?_ hn hdb)
 exact PyProof.Rows.callWith_type1 (thn (ha pos pins s σ H _ I h) fun us s1 ⟨vs, H1, I1, r1, q1⟩ => hc pins s1 σ H1 vs us Q I1 r1 q1) he hpl
end
end L2
namespace HT
open PySem PyProof.Rows
section
open PySem.SeqAt
open PySem.AutoSeq1 (wpAny_loadPart')
open PySem.MeetsSeq PySem.MeetsSeq2 PySem.MeetsSeq3
end
section
variable {prog : Program} {w : World} {A : Around} {E : Value -> Shared -> Prop} {s : Shared}
theorem cat_tup {t b : Addr} {vs ws : List Value} {Q : Value -> Shared -> Prop} (ht : IsTup s.heap t vs.toArray) (hb : IsTup s.heap b ws.toArray) (hv : vs ≠ [])
  (h1 : ws = [] -> Q (.ref t) s) (h2 : ws ≠ [] -> Q (.ref s.heap.objs.size) { s with heap := s.heap.push { cls := .type "tuple", data := .seq (vs ++ ws).toArray } })
  (hsz : vs.length + ws.length <= sizeLine) : wpAny (model prog w) A (binaryOp .Add (.ref t) (.ref b)) Q E s := by
 obtain ⟨⟨cls, dd, data, sl⟩, ho, hc, n, hd⟩ := id ht
 obtain ⟨⟨cls2, dd2, data2, sl2⟩, ho2, hc2, n2, hd2⟩ := id hb
 simp only at hc hd hc2 hd2
 subst hc hd hc2 hd2
 have e : vs.toArray ++ ws.toArray = (vs ++ ws).toArray := by simp
 by_cases hw : ws = []
 ·exact concat_meets ⟨_, ho, rfl⟩ ⟨_, ho2, rfl⟩ noFill_tuple_add seq_tuple_add PySem.F.slot_tuple_add PySem.F.entry_tuple_add (PySem.F.args_tuple_add_2 _ _)
   (tuple_addW1 t b vs.toArray ws.toArray n n2 dd dd2 sl sl2 (by simpa using hv) (by simp [hw])) ⟨ho, ho2, h1 hw⟩
 ·refine concat_meets ⟨_, ho, rfl⟩ ⟨_, ho2, rfl⟩ noFill_tuple_add seq_tuple_add PySem.F.slot_tuple_add PySem.F.entry_tuple_add (PySem.F.args_tuple_add_2 _ _)
   (tuple_addW2 t b vs.toArray ws.toArray n n2 dd dd2 sl sl2 (by simpa using hv) (by simpa using hw) (by rw [List.size_toArray, List.size_toArray]; exact hsz)) ⟨ho, ho2, ?_⟩
  rw [e]
  exact h2 hw
def sIx (n d : Nat) : Option Int -> Nat
 | none => d
 | some v => if v < 0 then (v + (n : Int)).toNat else min v.toNat n
theorem sIx_none (n d : Nat) : sIx n d none = d := rfl
theorem sIx_nat (n d k : Nat) : sIx n d (some (k : Int)) = min k n := by
 show (if (k : Int) < 0 then ((k : Int) + (n : Int)).toNat else min (k : Int).toNat n) = min k n
 rw [if_neg (by omega), Int.toNat_natCast]
theorem sIx_le (n d : Nat) (hd : d <= n) (o : Option Int) : sIx n d o <= n := by
 cases o with
 | none => exact hd
 | some v =>
  show (if v < 0 then (v + (n : Int)).toNat else min v.toNat n) <= n
  by_cases hv : v < 0
  ·rw [if_pos hv]; omega
  ·rw [if_neg hv]; exact Nat.min_le_right _ _
theorem clip_eq (v : Int) (n d : Nat) : (if v < 0 then max (v + (n : Int)) 0 else min v (n : Int)) = ((sIx n d (some v) : Nat) : Int) := by
 show (if v < 0 then max (v + (n : Int)) 0 else min v (n : Int)) = (((if v < 0 then (v + (n : Int)).toNat else min v.toNat n) : Nat) : Int)
 by_cases hv : v < 0
 ·simp only [if_pos hv]; omega
 ·simp only [if_neg hv]; omega
theorem adjust_gen (lo hi : Option Int) (n : Nat) : Builtin.Slice.sliceAdjust lo hi 1 (n : Int) = (((sIx n 0 lo : Nat) : Int), ((sIx n n hi : Nat) : Int)) := by
 have h1 : ¬ ((1 : Int) < 0) := by omega
 unfold Builtin.Slice.sliceAdjust
 simp only [h1, if_false]
 refine Prod.ext ?_ ?_
 ·cases lo with
  | none => rfl
  | some v => exact clip_eq v n 0
 ·cases hi with
  | none => rfl
  | some v => exact clip_eq v n n
theorem places_gen (i j : Nat) : Builtin.Slice.slicePlaces (i : Int) (j : Int) 1 = j - i := by
 unfold Builtin.Slice.slicePlaces
 have h1 : (1 : Int) > 0 := by omega
 simp only [h1, if_true, Int.ediv_one]
 split <;> omega
theorem slicePart_ {v : Value} {o : Option Int} {Q : Option Int -> Shared -> Prop} (p : IsPart v o) (h : Q o s) : wpAny (model prog w) A (Builtin.Slice.slicePartIndex v) Q E s := by
 cases p with
 | none => exact slicePart_none h
 | int i t => exact slicePart_int h
theorem sliceApplied_gen {sl : Addr} {vl vu : Value} {lo hi : Option Int} {n : Nat} {Q : Int × Int × Nat -> Shared -> Prop} (hs : s.heap.IsSliceOf sl vl vu .none) (pl : IsPart vl lo) (pu : IsPart vu hi)
  (h : Q (((sIx n 0 lo : Nat) : Int), 1, sIx n n hi - sIx n 0 lo) s) : wpAny (model prog w) A (Builtin.Slice.sliceApplied (.ref sl) (pure (n : Int))) Q E s := by
 obtain ⟨os, hos, hcs, hds⟩ := id hs
 unfold Builtin.Slice.sliceApplied Builtin.Slice.sliceFields
 refine wpAny_bind (wpAny_bind (wpAny_field hos hds (x := vl) rfl (wpAny_bind (wpAny_field hos hds (x := vu) rfl (wpAny_bind (wpAny_field hos hds (x := .none) rfl (wpAny_pure ?_)))))))
 refine wpAny_bind (slicePart_none ?_)
 show wpAny _ _ (if ((1 : Int) == 0) = true then _ else _) _ _ s
 rw [if_neg (by decide)]
 refine wpAny_bind (slicePart_ pl (wpAny_bind (slicePart_ pu (wpAny_bind (wpAny_pure ?_)))))
 show wpAny _ _ (match Builtin.Slice.sliceAdjust lo hi 1 (n : Int) with | (lo, hi) => pure (lo, (1 : Int), Builtin.Slice.slicePlaces lo hi 1)) _ _ s
 rw [adjust_gen lo hi n]
 show wpAny _ _ (pure (((sIx n 0 lo : Nat) : Int), (1 : Int), Builtin.Slice.slicePlaces ((sIx n 0 lo : Nat) : Int) ((sIx n n hi : Nat) : Int) 1)) _ _ s
 rw [places_gen]
 exact wpAny_pure h
theorem pick_gen (xs : Array Value) (i k : Nat) : ((List.range k).filterMap fun (m : Nat) => xs[((i : Int) + (m : Int) * 1).toNat]?).toArray = ((xs.toList.drop i).take k).toArray := by
 have e : (fun (m : Nat) => xs[((i : Int) + (m : Int) * 1).toNat]?) = fun m => xs[i + m]? := by
  funext m
  have : ((i : Int) + (m : Int) * 1).toNat = i + m := by omega
  rw [this]
 rw [e]
 have := pick_run xs i k
 rw [List.filterMap_map] at this
 have e2 : ((fun x => xs[x]?) ∘ fun x => i + x) = fun m => xs[i + m]? := rfl
 rw [e2] at this
 rw [this]
theorem getItem_tuple_cut {t sl : Addr} {items : Array Value} {vl vu : Value} {lo hi : Option Int} {Q : Value -> Shared -> Prop} (ht : IsTup s.heap t items) (hs : s.heap.IsSliceOf sl vl vu .none) (pl : IsPart vl lo) (pu : IsPart vu hi)
  (hw : ¬ (sIx items.size 0 lo = 0 /\ sIx items.size items.size hi = items.size))
  (h : Q (.ref s.heap.objs.size) { s with heap := s.heap.push { cls := .type "tuple", data := .seq ((items.toList.drop (sIx items.size 0 lo)).take (sIx items.size items.size hi - sIx items.size 0 lo)).toArray } })
  (hsz : items.size <= sizeLine) : wpAny (model prog w) A (getItem (.ref t) (.ref sl)) Q E s := by
 have htake : sizeOk (.seq ((items.toList.drop (sIx items.size 0 lo)).take (sIx items.size items.size hi - sIx items.size 0 lo)).toArray) := by
  show ((items.toList.drop (sIx items.size 0 lo)).take (sIx items.size items.size hi - sIx items.size 0 lo)).toArray.size <= sizeLine
  rw [List.size_toArray, List.length_take, List.length_drop, Array.length_toList]
  omega
 have hj : sIx items.size items.size hi <= items.size := sIx_le _ _ (Nat.le_refl _) hi
 obtain ⟨os, hos, hcs, hds⟩ := id hs
 have hTs : s.TypeIs (.ref sl) "slice" := ⟨os, hos, hcs⟩
 unfold getItem
 try with_reducible refine wpAny_holding ?_
 first | refine wpAny_bind (wpAny_pure ?_) | skip
 refine wpAny_bind (wpAny_sequenceKey ht.typeIs (by decide) ?_)
 refine wpAny_bind (wpAny_callSpecial?_slot (name := Str.ofString "__getitem__") ht.typeIs PyProof.Rows.slot_tuple_getitem
  (wpAny_call_entry PyProof.Rows.slot_tuple_getitem ht.typeIs entry_tuple_getitem ?_ (args_tuple_getitem _ _)))
 show wpAny _ _ (Builtin.Tuple.tupleItemsOf (.ref t) >>= _) _ _ s
 refine wpAny_bind (tupleItemsOf_ ht ?_)
 refine wpAny_bind (wpAny_typeOf hTs ?_)
 rw [if_pos (by decide)]
 refine wpAny_bind (sliceApplied_gen hs pl pu ?_)
 have hno : ¬ ((((sIx items.size 0 lo : Nat) : Int) == 0 && (1 : Int) == 1 && (sIx items.size items.size hi - sIx items.size 0 lo) == items.size) = true) := by
  intro q
  rw [Bool.and_eq_true, Bool.and_eq_true] at q
  have q1 : ((sIx items.size 0 lo : Nat) : Int) = 0 := eq_of_beq q.1.1
  have q2 : sIx items.size items.size hi - sIx items.size 0 lo = items.size := eq_of_beq q.2
  exact hw ⟨by omega, by omega⟩
 show wpAny _ _ (if (((sIx items.size 0 lo : Nat) : Int) == 0 && (1 : Int) == 1 && (sIx items.size items.size hi - sIx items.size 0 lo) == items.size) = true then _ else _) _ _ s
 rw [if_neg hno, pick_gen]
 first
  | exact wpAny_bind (m := Builtin.Tuple.tupleExact _) (wpAny_newObj_type (wpAny_pure ⟨_, rfl, wpAny_pure h⟩) htake)
  | exact wpAny_bind (m := Builtin.Tuple.tupleExact _) (wpAny_newObj_type (wpAny_bind (wpAny_pure (wpAny_pure ⟨_, rfl, wpAny_pure h⟩))) htake)
  | exact wpAny_bind (wpAny_bind (m := Builtin.Tuple.tupleExact _) (wpAny_newObj_type (wpAny_pure (wpAny_pure ⟨_, rfl, wpAny_pure h⟩)) htake))
  | exact wpAny_bind (wpAny_bind (m := Builtin.Tuple.tupleExact _) (wpAny_newObj_type (wpAny_pure ⟨_, rfl, wpAny_pure h⟩) htake))
end
end HT
namespace L2
open PySem PySem.Spec PyProof.Rows
abbrev TO := St -> Hp -> (Option Int -> Hp -> Prop) -> Prop
def PO (X : Cx) (e : Option Expr) (t : TO) : Prop :=
 ∀ (pins : List (Addr × Obj)) (s : Shared) (σ : St) (H : Hp) (Q : Option Int -> Hp -> Prop), Inv X pins σ H s -> t σ H Q ->
  wpAny (model X.prog X.w) X.A (evalPart e X.env) (fun u s' => ∃ o H', Inv X pins σ H' s' /\ IsPart u o /\ Q o H') X.xe s
def tNoPart : TO := fun _ H Q => Q none H
def tPart (t : TE) : TO := fun σ H Q => t σ H fun x H1 => ∃ i, x = .int i /\ Q (some i) H1
section
variable {X : Cx} {e : Expr} {te : TE} {lo hi : Option Expr} {tl th : TO} {pos p2 : Pos}
theorem po_none : PO X none tNoPart := by
 intro pins s σ H Q I h
 rw [evalPart_none]
 exact wpAny_pure ⟨none, H, I, .none, h⟩
theorem po_some (h : PE X e te) : PO X (some e) (tPart te) := by
 intro pins s σ H Q I hw
 rw [evalPart_some]
 refine thn (h pins s σ H _ I hw) fun u s1 ⟨x, H1, I1, r1, q1⟩ => ?_
 obtain ⟨i, rfl, q⟩ := q1
 obtain ⟨t, rfl⟩ := r1
 exact ⟨some i, H1, I1, .int i t, q⟩
def SlR (X : Cx) (r : V -> Option Int -> Option Int -> Hp -> VK -> Prop) : Prop :=
 ∀ (pins : List (Addr × Obj)) (s : Shared) (σ : St) (H : Hp) (x : V) (v vl vu : Value) (lo hi : Option Int) (sl : Addr) (Q : VK), Inv X pins σ H s -> RelV x v -> s.heap.IsSliceOf sl vl vu .none -> IsPart vl lo -> IsPart vu hi -> r x lo hi H Q ->
  ∃ T id, typeLookup (.type T) "__getitem__" = pure (some (.builtin id)) /\ s.TypeIs v T /\ wpAny (model X.prog X.w) X.A (getItem v (.ref sl)) (EP X pins σ Q) X.xe s
def tSl (r : V -> Option Int -> Option Int -> Hp -> VK -> Prop) (te : TE) (tl th : TO) : TE := fun σ H Q => te σ H fun x H1 => tl σ H1 fun l H2 => th σ H2 fun u H3 => r x l u H3 Q
theorem pe_slice {r : V -> Option Int -> Option Int -> Hp -> VK -> Prop} (hr : SlR X r) (he : PE X e te) (hl : PO X lo tl) (hu : PO X hi th) : PE X (.Subscript e (.Slice lo hi none p2) pos) (tSl r te tl th) := by
 intro pins s σ H Q I h
 refine Subscript_ (thn (he pins s σ H _ I h) fun v s1 ⟨x, H1, I1, r1, q1⟩ => ?_)
 refine wpAny_Slice (thn (hl pins s1 σ H1 _ I1 q1) fun vl s2 ⟨l, H2, I2, pl, q2⟩ => thn (hu pins s2 σ H2 _ I2 q2) fun vu s3 ⟨u, H3, I3, pu, q3⟩ => ?_)
 rw [evalPart_none]
 refine wpAny_pure ?_
 have I4 : Inv X pins σ H3 { s3 with heap := s3.heap.push { cls := .type "slice", data := .fields #[vl, vu, .none] } } := I3.kept (t' := s3.toks) fun b ob q => Heap.get?_push_of_some _ q
 obtain ⟨T, id, hT, ht, hg⟩ := hr pins { s3 with heap := s3.heap.push { cls := .type "slice", data := .fields #[vl, vu, .none] } } σ H3 x v vl vu l u s3.heap.objs.size Q I4 r1 (Heap.IsSliceOf.new ..) pl pu q3
 show wpAny (model X.prog X.w) X.A (subscriptTail e (.Slice lo hi none p2) v (.ref s3.heap.objs.size)) (EP X pins σ Q) X.xe { s3 with heap := s3.heap.push { cls := .type "slice", data := .fields #[vl, vu, .none] } }
 exact tail_any (ops := [.ref s3.heap.objs.size, v]) ht hT hg (by with_unfolding_all rfl)
def cutV (xs : List V) (lo hi : Option Int) : List V := (xs.drop (HT.sIx xs.length 0 lo)).take (HT.sIx xs.length xs.length hi - HT.sIx xs.length 0 lo)
theorem cutV_length (xs : List V) (lo hi : Option Int) : (cutV xs lo hi).length <= xs.length := by
 unfold cutV
 rw [List.length_take, List.length_drop]
 omega
def rSlT (K : PySem.W.Frag) : V -> Option Int -> Option Int -> Hp -> VK -> Prop := fun x lo hi H Q => ∃ a xs, x = .ref a /\ SqT K H a xs /\
 ¬ (HT.sIx xs.length 0 lo = 0 /\ HT.sIx xs.length xs.length hi = xs.length) /\ ∀ p, H p = none -> Q (.ref p) (upd H p (.tup (cutV xs lo hi)))
theorem sl_tup : SlR X (rSlT X.K) := by
 intro pins s σ H x v vl vu lo hi sl Q I rx hs pl pu h
 obtain ⟨a, xs, rfl, hx, hw, q⟩ := h
 cases rx
 obtain ⟨its, r, ht, hz⟩ := I.tuple hx
 have hlen : its.toArray.size = xs.length := by rw [List.size_toArray]; exact r.length.symm
 refine ⟨"tuple", _, PyProof.Rows.slot_tuple_getitem.lookup, ht.typeIs, ?_⟩
 refine HT.getItem_tuple_cut ht hs pl pu (by rw [hlen]; exact hw) ?_ (by rw [hlen]; exact hz)
 rw [hlen]
 refine ⟨.ref s.heap.objs.size, _, I.laid (t' := s.toks) (o := .tup (cutV xs lo hi)) (fun b ob q => Heap.get?_push_of_some _ q) (Nat.le_refl _) ?_, rfl, q _ (I.hok.fresh (Nat.le_refl _))⟩
 exact ⟨Nat.le_trans (cutV_length xs lo hi) hz, _, (r.drop (HT.sIx xs.length 0 lo)).take (HT.sIx xs.length xs.length hi - HT.sIx xs.length 0 lo), TupN.new _ _⟩
def rCatT (K : PySem.W.Frag) : R2 := fun x y H Q => ∃ a b xs ys, x = .ref a /\ y = .ref b /\ SqT K H a xs /\ SqT K H b ys /\ xs ≠ [] /\ xs.length + ys.length <= sizeLine /\
 (ys = [] -> Q (.ref a) H) /\ (ys ≠ [] -> ∀ p, H p = none -> Q (.ref p) (upd H p (.tup (xs ++ ys))))
theorem Vals.nil_iff {xs : List V} {us : List Value} (r : Vals xs us) : us = [] ↔ xs = [] := by
 cases r with
 | nil => simp
 | cons _ _ => simp
theorem op_catT : OpR X (binaryOp .Add) (rCatT X.K) := by
 intro pins s σ H x y v u Q I rx ry h
 obtain ⟨a, b, xs, ys, rfl, rfl, ha, hb, hx, hz, q1, q2⟩ := h
 cases rx
 cases ry
 obtain ⟨its, r1, p1, _⟩ := I.tuple ha
 obtain ⟨its2, r2, p2, _⟩ := I.tuple hb
 refine HT.cat_tup p1 p2 (fun z => hx (r1.nil_iff.mp z)) (fun z => ⟨.ref a, H, I, rfl, q1 (r2.nil_iff.mp z)⟩) (fun z => ?_) (by rw [<- r1.length, <- r2.length]; exact hz)
 refine ⟨.ref s.heap.objs.size, _, I.laid (t' := s.toks) (o := .tup (xs ++ ys)) (fun b ob q => Heap.get?_push_of_some _ q) (Nat.le_refl _) ?_, rfl, q2 (fun w => z (r2.nil_iff.mpr w)) _ (I.hok.fresh (Nat.le_refl _))⟩
 exact ⟨by rw [List.length_append]; exact hz, _, r1.append r2, TupN.new _ _⟩
end
end L2
namespace L2
open PySem PySem.Spec PyProof.Rows
def ixN (n : Nat) (i : Int) : Option Nat := if 0 <= i then (if i < n then some i.toNat else none) else if -(n : Int) <= i then some (i + n).toNat else none
def atI {α : Type} (xs : List α) (i : Int) : Option α := (ixN xs.length i).bind fun j => xs[j]?
theorem ixN_seq {n : Nat} {i : Int} {j : Nat} (h : ixN n i = some j) : seqIndex? i n = some j /\ j < n /\ -(n : Int) <= i /\ i < n := by
 unfold ixN at h
 by_cases h0 : 0 <= i
 ·rw [if_pos h0] at h
  by_cases h1 : i < n
  ·rw [if_pos h1] at h
   have e : i.toNat = j := Option.some.inj h
   exact ⟨by rw [seqIndex_of h0 h1, e], by omega, by omega, h1⟩
  ·rw [if_neg h1] at h; cases h
 ·rw [if_neg h0] at h
  by_cases h1 : -(n : Int) <= i
  ·rw [if_pos h1] at h
   have e : (i + n).toNat = j := Option.some.inj h
   exact ⟨by rw [seqIndex_neg (by omega) h1, e], by omega, h1, by omega⟩
  ·rw [if_neg h1] at h; cases h
theorem atI_get {α : Type} {xs : List α} {i : Int} {v : α} (h : atI xs i = some v) : ∃ j, seqIndex? i xs.length = some j /\ xs[j]? = some v /\ j < xs.length /\ -(xs.length : Int) <= i /\ i < xs.length := by
 unfold atI at h
 cases e : ixN xs.length i with
 | none => rw [e] at h; cases h
 | some j =>
  rw [e] at h
  obtain ⟨h1, h2, h3, h4⟩ := ixN_seq e
  exact ⟨j, h1, h, h2, h3, h4⟩
theorem atI_nat {α : Type} {xs : List α} {j : Nat} {v : α} (h : xs[j]? = some v) : atI xs (j : Int) = some v := by
 have hj : j < xs.length := (List.getElem?_eq_some_iff.mp h).1
 have e : ixN xs.length (j : Int) = some j := by
  unfold ixN
  rw [if_pos (by omega), if_pos (by omega)]; simp
 unfold atI; rw [e]; exact h
def PlainIx (b : Expr) : Prop := ∀ o i, subscripted b false o i = operate [o, i] (getItem o i)
def IxR (X : Cx) (r : R2) : Prop :=
 ∀ (value slice : Expr) (pins : List (Addr × Obj)) (s : Shared) (σ : St) (H : Hp) (x y : V) (v u : Value) (Q : VK), Inv X pins σ H s -> RelV x v -> RelV y u -> r x y H Q ->
  subscripted slice false v u = operate [v, u] (getItem v u) -> wpAny (model X.prog X.w) X.A (subscriptTail value slice v u) (EP X pins σ Q) X.xe s
def MtR (X : Cx) (id : String) (r : V -> List V -> Hp -> VK -> Prop) : Prop :=
 ∀ (pins : List (Addr × Obj)) (s : Shared) (σ : St) (H : Hp) (x : V) (xs : List V) (v : Value) (us : List Value) (Q : VK), Inv X pins σ H s -> RelV x v -> Vals xs us -> r x xs H Q ->
  wpAny (model X.prog X.w) X.A (call (.builtin id) (v :: us)) (EP X pins σ Q) X.xe s
section
variable {X : Cx} {a b : Expr} {ta tb : TE} {pos : Pos}
theorem IxR.or {r r' : R2} (h : IxR X r) (h' : IxR X r') : IxR X (fun x y H Q => r x y H Q \/ r' x y H Q) := by
 intro value slice pins s σ H x y v u Q I rx ry q hs
 rcases q with q | q
 ·exact h value slice pins s σ H x y v u Q I rx ry q hs
 ·exact h' value slice pins s σ H x y v u Q I rx ry q hs
theorem pe_ix {r : R2} (hr : IxR X r) (ha : PE X a ta) (hb : PE X b tb) (hs : PlainIx b) : PE X (.Subscript a b pos) (tOp r ta tb) := by
 intro pins s σ H Q I h
 exact Subscript_ (binT ha hb I h fun v u s2 x y H2 I2 rx ry q => hr a b pins s2 σ H2 x y v u Q I2 rx ry q (hs _ _))
def rIxL (K : PySem.W.Frag) : R2 := fun x y H Q => ∃ p xs i v, x = .ref p /\ y = .int i /\ SqL K H p xs /\ atI xs i = some v /\ Q v H
def rIxT (K : PySem.W.Frag) : R2 := fun x y H Q => ∃ p xs i v, x = .ref p /\ y = .int i /\ SqT K H p xs /\ atI xs i = some v /\ Q v H
def rIxS : R2 := fun x y H Q => ∃ z i c, x = .str z /\ y = .int i /\ z.length <= sizeLine /\ atI z.cps.toList i = some c /\ Q (.str ⟨#[c]⟩) H
theorem ix_list : IxR X (rIxL X.K) := by
 intro value slice pins s σ H x y v u Q I rx ry h hs
 obtain ⟨p, xs, i, z, rfl, rfl, hq, he, q⟩ := h
 cases rx
 obtain ⟨t, rfl⟩ := ry
 obtain ⟨its, r, pl, hz⟩ := I.list hq
 obtain ⟨j, h1, h2, h3, h4, h5⟩ := atI_get he
 obtain ⟨w, ew, rw'⟩ := r.get h2
 have hl := r.length
 have hn := line63
 have fin : EP X pins σ Q w s := ⟨z, H, I, rw', q⟩
 by_cases h0 : 0 <= i
 ·have hj : i.toNat = j := by
   rw [seqIndex_of h0 h5] at h1
   exact Option.some.inj h1
  exact item_listR pl.isList h0 (by omega) (by rw [hj]; simpa using ew) fin hs
 ·have hj : (i + (its.toArray.size : Int)).toNat = j := by
   rw [seqIndex_neg (by omega) h4] at h1
   rw [List.size_toArray, <- hl]
   exact Option.some.inj h1
  exact subscriptTail_builtinR (x := w) pl.isList.typeIs slot_list_getitem.lookup
   (wpAny_getItem_list_neg (Q := fun r s' => r = w /\ EP X pins σ Q r s') pl.isList (by omega) (by rw [List.size_toArray] <;> omega) (by omega) (by rw [hj]; simpa using ew) ⟨rfl, fin⟩) hs
theorem ix_tup : IxR X (rIxT X.K) := by
 intro value slice pins s σ H x y v u Q I rx ry h hs
 obtain ⟨p, xs, i, z, rfl, rfl, hq, he, q⟩ := h
 cases rx
 obtain ⟨t, rfl⟩ := ry
 obtain ⟨its, r, pl, hz⟩ := I.tuple hq
 obtain ⟨j, h1, h2, h3, h4, h5⟩ := atI_get he
 obtain ⟨w, ew, rw'⟩ := r.get h2
 have hl := r.length
 have hn := line63
 have fin : EP X pins σ Q w s := ⟨z, H, I, rw', q⟩
 exact subscriptTail_builtinR (x := w) pl.typeIs slot_tuple_getitem.lookup
  (getItem_tuple (j := j) (Q := fun r s' => r = w /\ EP X pins σ Q r s') pl (by omega) (by omega) (by rw [List.size_toArray, <- hl]; exact h1) (by simpa using ew) ⟨rfl, fin⟩) hs
theorem ix_str : IxR X rIxS := by
 intro value slice pins s σ H x y v u Q I rx ry h hs
 obtain ⟨z, i, c, rfl, rfl, hz, he, q⟩ := h
 obtain ⟨t, rfl⟩ := rx
 obtain ⟨t', rfl⟩ := ry
 obtain ⟨j, h1, h2, h3, h4, h5⟩ := atI_get he
 have hl : z.cps.toList.length = z.length := by simp [Str.length]
 rw [hl] at h1 h4 h5
 have hn := line63
 exact tail_any (typeIs_str s z t) slot_str_getitem.lookup (getItem_str (c := c) (by
  have e1 : decide (i < -(2 ^ 63 : Int)) = false := decide_eq_false (by omega)
  have e2 : decide (i ≥ 2 ^ 63) = false := decide_eq_false (by omega)
  rw [e1, e2, Bool.or_false]) (by rw [h1]; simpa using h2) ⟨.str ⟨#[c]⟩, H, I.tok _, ⟨_, rfl⟩, q⟩) hs
def rIx (K : PySem.W.Frag) : R2 := fun x y H Q => rIxL K x y H Q \/ rIxT K x y H Q \/ rIxS x y H Q
theorem ix_seq : IxR X (rIx X.K) := ix_list.or (ix_tup.or ix_str)
theorem mapSeq_set (its : List Value) (n j : Nat) (u : Value) : Obj.mapSeq (·.setIfInBounds j u) { cls := .type "list", data := .seq its.toArray n } = { cls := .type "list", data := .seq (its.set j u).toArray n } := by
 simp [Obj.mapSeq]
theorem Inv.lst {pins : List (Addr × Obj)} {σ : St} {H : Hp} {s : Shared} {p : Addr} {xs : List V} (I : Inv X pins σ H s) (h : H p = some (.lst xs)) :
  ∃ (its : List Value) (n : Nat), Vals xs its /\ s.heap.get? p = some { cls := .type "list", data := .seq its.toArray n } /\ xs.length <= sizeLine := by
 obtain ⟨z, its, n, r, e⟩ := I.hok p _ h
 exact ⟨its, n, r, e, z⟩
theorem Inv.lstUpd {pins : List (Addr × Obj)} {σ : St} {H : Hp} {s : Shared} {p : Addr} {xs ys : List V} {its its' : List Value} {n n' : Nat} {f : Obj -> Obj} (I : Inv X pins σ H s) (h : H p = some (.lst xs))
  (ho : s.heap.get? p = some { cls := .type "list", data := .seq its.toArray n }) (hf : f { cls := .type "list", data := .seq its.toArray n } = { cls := .type "list", data := .seq its'.toArray n' }) (r : Vals ys its') (hz : ys.length <= sizeLine) (t : Nat) :
  Inv X pins σ (upd H p (.lst ys)) { s with heap := s.heap.update p f, toks := t } := by
 have e : (s.heap.update p f).get? p = some { cls := .type "list", data := .seq its'.toArray n' } := by
  rw [Heap.get?_update_self f ho (by rw [hf] <;> rfl), hf]
 refine I.write (x := p) (e := p) (by rw [h]; trivial) (.inl rfl) (fun b u hb q => (Heap.get?_update_other _ _ (Ne.symm hb)).trans q) ⟨_, e⟩ ?_
 exact ⟨hz, its', n', r, e⟩
def rSetL : V -> V -> V -> Hp -> (Hp -> Prop) -> Prop := fun o i v H Q => ∃ p xs k j, o = .ref p /\ i = .int k /\ H p = some (.lst xs) /\ ixN xs.length k = some j /\ Q (upd H p (.lst (xs.set j v)))
theorem set_list : PSet X rSetL := by
 intro pins s σ H o i v ov iv u Q I ro ri rv h
 obtain ⟨p, xs, k, j, rfl, rfl, hp, hj, q⟩ := h
 cases ro
 obtain ⟨t, rfl⟩ := ri
 obtain ⟨its, n, r, ho, hz⟩ := I.lst hp
 obtain ⟨h1, h2, h3, h4⟩ := ixN_seq hj
 have hl := r.length
 have hn := line63
 have I' : Inv X pins σ (upd H p (.lst (xs.set j v))) { s with heap := s.heap.update p (Obj.mapSeq (·.setIfInBounds j u)) } :=
  I.lstUpd hp ho (mapSeq_set its n j u) (r.set rv j) (by rw [List.length_set]; exact hz) s.toks
 by_cases h0 : 0 <= k
 ·have hk : k.toNat = j := by
   rw [seqIndex_of h0 h4] at h1
   exact Option.some.inj h1
  exact PySem.W.ki_setAt ho h0 (by omega) (by rw [List.size_toArray, <- hl]; exact h4) (by rw [hk]; exact ⟨_, I', q⟩)
 ·have hk : (k + (its.toArray.size : Int)).toNat = j := by
   rw [seqIndex_neg (by omega) h3] at h1
   rw [List.size_toArray, <- hl]
   exact Option.some.inj h1
  exact PySem.W.ki_setBack ho (by omega) (by rw [List.size_toArray, <- hl]; exact h3) (by omega) (by rw [hk]; exact ⟨_, I', q⟩)
theorem slice_bounds (lo hi : Option Int) (n : Nat) : (sliceBounds lo hi none n).1 = ((HT.sIx n 0 lo : Nat) : Int) /\ (sliceBounds lo hi none n).2.1 = ((HT.sIx n n hi : Nat) : Int) /\ (sliceBounds lo hi none n).2.2 = 1 := by
 refine ⟨?_, ?_, rfl⟩
 ·cases lo with
  | none => simp [sliceBounds, HT.sIx]
  | some i =>
   simp only [sliceBounds, HT.sIx, Option.getD_none, show (1 : Int) > 0 by decide, if_true]
   by_cases h : i < 0
   ·simp only [h, if_true] <;> omega
   ·simp only [h, if_false] <;> omega
 ·cases hi with
  | none => simp [sliceBounds, HT.sIx]
  | some i =>
   simp only [sliceBounds, HT.sIx, Option.getD_none, show (1 : Int) > 0 by decide, if_true]
   by_cases h : i < 0
   ·simp only [h, if_true] <;> omega
   ·simp only [h, if_false] <;> omega
theorem slicePick_cut (its : List Value) (lo hi : Option Int) : slicePick its.toArray lo hi none = ((its.drop (HT.sIx its.length 0 lo)).take (HT.sIx its.length its.length hi - HT.sIx its.length 0 lo)).toArray := by
 obtain ⟨h1, h2, h3⟩ := slice_bounds lo hi its.toArray.size
 unfold slicePick
 rw [h1, h2, h3]
 simp only [sliceRange_one, pick_run, List.size_toArray] <;> rfl
def rSlL (K : PySem.W.Frag) : V -> Option Int -> Option Int -> Hp -> VK -> Prop := fun x lo hi H Q => ∃ a xs, x = .ref a /\ SqL K H a xs /\ ∀ p, H p = none -> Q (.ref p) (upd H p (.lst (cutV xs lo hi)))
theorem sl_list : SlR X (rSlL X.K) := by
 intro pins s σ H x v vl vu lo hi sl Q I rx hs pl pu h
 obtain ⟨a, xs, rfl, hx, q⟩ := h
 cases rx
 obtain ⟨its, r, ht, hz⟩ := I.list hx
 have hlen := r.length
 refine ⟨"list", _, slot_list_getitem.lookup, ht.isList.typeIs, ?_⟩
 refine wpAny_getItem_list_slice ht.isList hs pl pu .none (by simp) ?_ (by rw [List.size_toArray] <;> omega)
 rw [slicePick_cut, <- hlen]
 refine ⟨.ref s.heap.objs.size, _, I.laid (t' := s.toks) (o := .lst (cutV xs lo hi)) (fun b ob q => Heap.get?_push_of_some _ q) (Nat.le_refl _) ?_, rfl, q _ (I.hok.fresh (Nat.le_refl _))⟩
 exact ⟨Nat.le_trans (cutV_length xs lo hi) hz, _, 0, (r.drop (HT.sIx xs.length 0 lo)).take (HT.sIx xs.length xs.length hi - HT.sIx xs.length 0 lo), Heap.get?_push_size _ rfl⟩
def flatV : V -> Bool
 | .non => true
 | .bl _ => true
 | .int _ => true
 | .str _ => true
 | _ => false
def eqV : V -> V -> Bool
 | .non, .non => true
 | .bl a, .bl b => a == b
 | .bl a, .int b => (if a then 1 else 0) == b
 | .int a, .bl b => a == (if b then 1 else 0)
 | .int a, .int b => a == b
 | .str a, .str b => a == b
 | _, _ => false
theorem eqAt_V {A : Around} {s : Shared} {y x : V} {u v : Value} (ry : RelV y u) (rx : RelV x v) (fy : flatV y = true) (fx : flatV x = true) : SeqAt.EqAt A s u v (eqV y x) := by
 cases y with
 | non =>
  cases ry
  cases x with
  | non => cases rx; exact SeqAt.EqAt.same _
  | bl b => cases rx; exact SeqAt.EqAt.none_bool b
  | int b => obtain ⟨t, rfl⟩ := rx; exact SeqAt.EqAt.none_int b t
  | str b => obtain ⟨t, rfl⟩ := rx; exact SeqAt.EqAt.none_str b t
  | _ => exact absurd (show false = true from fx) Bool.false_ne_true
 | bl a =>
  cases ry
  cases x with
  | non => cases rx; exact SeqAt.EqAt.bool_none a
  | bl b => cases rx; exact SeqAt.EqAt.bool_bool a b
  | int b => obtain ⟨t, rfl⟩ := rx; exact SeqAt.EqAt.bool_int a b t
  | str b => obtain ⟨t, rfl⟩ := rx; exact SeqAt.EqAt.bool_str a b t
  | _ => exact absurd (show false = true from fx) Bool.false_ne_true
 | int a =>
  obtain ⟨t', rfl⟩ := ry
  cases x with
  | non => cases rx; exact SeqAt.EqAt.int_none a t'
  | bl b => cases rx; exact SeqAt.EqAt.int_bool a t' b
  | int b => obtain ⟨t, rfl⟩ := rx; exact SeqAt.EqAt.int_int a t' b t
  | str b => obtain ⟨t, rfl⟩ := rx; exact SeqAt.EqAt.int_str a t' b t
  | _ => exact absurd (show false = true from fx) Bool.false_ne_true
 | str a =>
  obtain ⟨t', rfl⟩ := ry
  cases x with
  | non => cases rx; exact SeqAt.EqAt.str_none a t'
  | bl b => cases rx; exact SeqAt.EqAt.str_bool a t' b
  | int b => obtain ⟨t, rfl⟩ := rx; exact SeqAt.EqAt.str_int a t' b t
  | str b => obtain ⟨t, rfl⟩ := rx; exact SeqAt.EqAt.str_str a t' b t
  | _ => exact absurd (show false = true from fx) Bool.false_ne_true
 | _ => exact absurd (show false = true from fy) Bool.false_ne_true
def eqU (x : V) (u : Value) : Bool := match u with
 | .none => eqV .non x
 | .bool b => eqV (.bl b) x
 | .int i _ => eqV (.int i) x
 | .str z _ => eqV (.str z) x
 | _ => false
theorem eqU_of {x y : V} {u : Value} (r : RelV y u) (f : flatV y = true) : eqU x u = eqV y x := by
 cases y with
 | non => cases r; rfl
 | bl b => cases r; rfl
 | int i => obtain ⟨t, rfl⟩ := r; rfl
 | str z => obtain ⟨t, rfl⟩ := r; rfl
 | _ => exact absurd (show false = true from f) Bool.false_ne_true
theorem any_eqU {x : V} : ∀ {xs : List V} {us : List Value}, Vals xs us -> xs.all flatV = true -> us.any (eqU x) = xs.any fun y => eqV y x
 | _, _, .nil, _ => rfl
 | y :: xs, u :: us, .cons r t, f => by
  rw [List.all_cons, Bool.and_eq_true] at f
  rw [List.any_cons, List.any_cons, eqU_of r f.1, any_eqU t f.2]
theorem mem_eqAt {A : Around} {s : Shared} {x : V} {v : Value} (rx : RelV x v) (fx : flatV x = true) : ∀ {xs : List V} {us : List Value}, Vals xs us -> xs.all flatV = true -> ∀ u ∈ us, SeqAt.EqAt A s u v (eqU x u)
 | _, _, .nil, _ => fun u hu => by cases hu
 | y :: xs, u :: us, .cons r t, f => fun u' hu => by
  rw [List.all_cons, Bool.and_eq_true] at f
  rcases List.mem_cons.mp hu with rfl | hu
  ·rw [eqU_of r f.1]; exact eqAt_V r rx f.1 fx
  ·exact mem_eqAt rx fx t f.2 u' hu
def inV (x : V) (xs : List V) : Bool := xs.any fun y => eqV y x
def rIn (K : PySem.W.Frag) (neg : Bool) : R2 := fun x y H Q => ∃ p xs, y = .ref p /\ (SqL K H p xs \/ SqT K H p xs) /\ flatV x = true /\ xs.all flatV = true /\ Q (.bl (if neg then !inV x xs else inV x xs)) H
theorem op_in_seq : OpR X (compareOp .In) (rIn X.K false) := by
 intro pins s σ H x y v u Q I rx ry h
 obtain ⟨p, xs, rfl, hq, fx, fs, q⟩ := h
 cases ry
 rcases hq with hq | hq
 ·obtain ⟨its, r, pl, hz⟩ := I.list hq
  refine SeqAt.in_listAt (eqU x) pl.isList (fun w hw => mem_eqAt rx fx r fs w (by simpa using hw)) ⟨.bl _, H, I, rfl, ?_⟩
  rw [show its.toArray.any (eqU x) = its.any (eqU x) by simp, any_eqU r fs]
  exact q
 ·obtain ⟨its, r, pl, hz⟩ := I.tuple hq
  refine SeqAt.in_tupleAt (eqU x) pl (fun w hw => mem_eqAt rx fx r fs w (by simpa using hw)) ⟨.bl _, H, I, rfl, ?_⟩
  rw [show its.toArray.any (eqU x) = its.any (eqU x) by simp, any_eqU r fs]
  exact q
theorem op_notIn_seq : OpR X (compareOp .NotIn) (rIn X.K true) := by
 intro pins s σ H x y v u Q I rx ry h
 obtain ⟨p, xs, rfl, hq, fx, fs, q⟩ := h
 cases ry
 rcases hq with hq | hq
 ·obtain ⟨its, r, pl, hz⟩ := I.list hq
  refine SeqAt.notIn_listAt (eqU x) pl.isList (fun w hw => mem_eqAt rx fx r fs w (by simpa using hw)) ⟨.bl _, H, I, rfl, ?_⟩
  rw [show its.toArray.any (eqU x) = its.any (eqU x) by simp, any_eqU r fs]
  exact q
 ·obtain ⟨its, r, pl, hz⟩ := I.tuple hq
  refine SeqAt.notIn_tupleAt (eqU x) pl (fun w hw => mem_eqAt rx fx r fs w (by simpa using hw)) ⟨.bl _, H, I, rfl, ?_⟩
  rw [show its.toArray.any (eqU x) = its.any (eqU x) by simp, any_eqU r fs]
  exact q
theorem call_len_seq : CallR X (.builtin "len") (fun xs H Q => ∃ p ys, xs = [.ref p] /\ (SqL X.K H p ys \/ SqT X.K H p ys) /\ Q (.int ys.length) H) := by
 intro pins s σ H xs us Q I r h
 obtain ⟨p, ys, rfl, hq, q⟩ := h
 obtain ⟨u, rfl, rx⟩ := vals1 r
 cases rx
 have hn := line63
 rcases hq with hq | hq
 ·obtain ⟨its, r', pl, hz⟩ := I.list hq
  have hlen := r'.length
  exact Calls.call_len_list pl.isList (by simp only [List.size_toArray] <;> omega) ⟨.int ys.length, H, I.tok _, ⟨s.toks + 1, by rw [List.size_toArray, hlen]⟩, q⟩
 ·obtain ⟨its, r', pl, hz⟩ := I.tuple hq
  have hlen := r'.length
  exact len_tuple pl (by simp only [List.size_toArray] <;> omega) ⟨.int ys.length, H, I.tok _, ⟨s.toks + 1, by rw [List.size_toArray, hlen]⟩, q⟩
theorem call_len_str : CallR X (.builtin "len") (fun xs H Q => ∃ z, xs = [.str z] /\ z.length <= sizeLine /\ Q (.int z.length) H) := by
 intro pins s σ H xs us Q I r h
 obtain ⟨z, rfl, hz, q⟩ := h
 obtain ⟨u, rfl, t, rfl⟩ := vals1 r
 have hn := line63
 exact len_str (by omega) ⟨.int z.length, H, I.tok _, ⟨_, rfl⟩, q⟩
theorem call_list_of : CallR X (.type "list") (fun xs H Q => ∃ p ys, xs = [.ref p] /\ (SqL X.K H p ys \/ SqT X.K H p ys) /\ ∀ l, H l = none -> Q (.ref l) (upd H l (.lst ys))) := by
 intro pins s σ H xs us Q I r h
 obtain ⟨p, ys, rfl, hq, q⟩ := h
 obtain ⟨u, rfl, rx⟩ := vals1 r
 cases rx
 have fin : ∀ (its : List Value), Vals ys its -> ys.length <= sizeLine -> ∀ (h' : Heap) (c' : Nat), (∀ b o', s.heap.get? b = some o' -> h'.get? b = some o') ->
   h'.get? s.heap.objs.size = some { cls := .type "list", dict := none, data := .seq its.toArray c', slots := #[] } -> EP X pins σ Q (.ref s.heap.objs.size) { s with heap := h' } := fun its r' hz h' c' kp e =>
  ⟨.ref s.heap.objs.size, _, I.laid (t' := s.toks) kp (Nat.le_refl _) (show ObjOk X.prog X.w _ h' _ (.lst ys) from ⟨hz, its, c', r', e⟩), rfl, q _ (I.hok.fresh (Nat.le_refl _))⟩
 rcases hq with hq | hq
 ·obtain ⟨its, r', pl, hz⟩ := I.list hq
  have hlen := r'.length
  obtain ⟨o, ho, hc, n, hd⟩ := pl.isList
  exact call_list_seq p (.inl rfl) ho hc hd (fun h' c' kp e => fin its r' hz h' c' kp e) (by simp only [List.size_toArray] <;> omega)
 ·obtain ⟨its, r', pl, hz⟩ := I.tuple hq
  have hlen := r'.length
  obtain ⟨o, ho, hc, n, hd⟩ := pl
  exact call_list_seq p (.inr rfl) ho hc hd (fun h' c' kp e => fin its r' hz h' c' kp e) (by simp only [List.size_toArray] <;> omega)
theorem call_tuple_of : CallR X (.type "tuple") (fun xs H Q => ∃ p ys, xs = [.ref p] /\ ((SqL X.K H p ys /\ ∀ l, H l = none -> Q (.ref l) (upd H l (.tup ys))) \/ (SqT X.K H p ys /\ Q (.ref p) H))) := by
 intro pins s σ H xs us Q I r h
 obtain ⟨p, ys, rfl, h⟩ := h
 obtain ⟨u, rfl, rx⟩ := vals1 r
 cases rx
 rcases h with ⟨hq, q⟩ | ⟨hq, q⟩
 ·obtain ⟨its, r', pl, hz⟩ := I.list hq
  have hlen := r'.length
  refine call_tuple_list pl.isList (fun h' kp => ?_) (by simp only [List.size_toArray] <;> omega)
  have I1 : Inv X pins σ H { s with heap := h' } := I.kept (t' := s.toks) kp
  have I2 : Inv X pins σ (upd H h'.objs.size (.tup ys)) { s with heap := h'.push { cls := .type "tuple", data := .seq its.toArray } } :=
   I1.laid (t' := s.toks) (fun b o e => Heap.get?_push_of_some _ e) (Nat.le_refl _) (show ObjOk X.prog X.w _ _ _ (.tup ys) from ⟨hz, its, r', TupN.new _ _⟩)
  exact ⟨.ref h'.objs.size, _, I2, rfl, q _ (I1.hok.fresh (Nat.le_refl _))⟩
 ·obtain ⟨its, r', pl, hz⟩ := I.tuple hq
  exact call_tuple_same pl ⟨.ref p, H, I, rfl, q⟩
def tyV (K : PySem.W.Frag) (T : String) (x : V) (H : Hp) : Prop := match x with
 | .str _ => T = "str"
 | .int _ => T = "int"
 | .ref p => (T = "list" /\ ∃ xs, SqL K H p xs) \/ (T = "tuple" /\ ∃ o, K.lookup p = some o /\ o.cls = .type "tuple" /\ o.dict = none) \/
   (T = "dict" /\ ((∃ kvs, H p = some (.dK kvs)) \/ ∃ kvs, H p = some (.dT kvs))) \/ (T = "set" /\ ∃ S n, H p = some (.set S n)) \/ (T = "tuple" /\ ∃ xs, Rd H p (.tup xs))
 | _ => False
theorem tyV_is {pins : List (Addr × Obj)} {σ : St} {H : Hp} {s : Shared} {T : String} {x : V} {v : Value} (I : Inv X pins σ H s) (r : RelV x v) (ty : tyV X.K T x H) :
  s.TypeIs v T /\ ∀ a, v = .ref a -> ∃ ob, s.heap.get? a = some ob /\ ob.dict = none := by
 cases x with
 | str z =>
  obtain ⟨t, rfl⟩ := r
  cases (show T = "str" from ty)
  exact ⟨typeIs_str s z t, fun _ e => nomatch e⟩
 | int i =>
  obtain ⟨t, rfl⟩ := r
  cases (show T = "int" from ty)
  exact ⟨typeIs_int s i t, fun _ e => nomatch e⟩
 | ref p =>
  cases r
  rcases ty with ⟨rfl, xs, hq⟩ | ⟨rfl, o, hk, hc, hd⟩ | ⟨rfl, hk⟩ | ⟨rfl, S, n, hk⟩ | ⟨rfl, xs, hq⟩
  ·obtain ⟨its, _, pl, _⟩ := I.list hq
   refine ⟨pl.isList.typeIs, fun a e => ?_⟩
   cases e
   obtain ⟨o, n, e, c, hd, _⟩ := pl
   exact ⟨o, e, hd⟩
  ·refine ⟨⟨o, I.kIn p o hk, hc⟩, fun a e => ?_⟩
   cases e
   exact ⟨o, I.kIn _ o hk, hd⟩
  ·have z : ∃ o, s.heap.get? p = some o /\ o.ExactDict := by
    rcases hk with ⟨kvs, hk⟩ | ⟨kvs, hk⟩
    ·obtain ⟨_, _, _, _, o, _, _, e, ex, _⟩ := I.hok p _ hk
     exact ⟨o, e, ex⟩
    ·obtain ⟨_, _, _, _, o, _, _, e, ex, _⟩ := I.hok p _ hk
     exact ⟨o, e, ex⟩
   obtain ⟨o, e, ex⟩ := z
   refine ⟨⟨o, e, ex.1⟩, fun a e2 => ?_⟩
   cases e2
   exact ⟨o, e, ex.2.1⟩
  ·obtain ⟨o, _, _, _, e, ex, _⟩ := I.hok p _ hk
   refine ⟨⟨o, e, ex.1⟩, fun a e2 => ?_⟩
   cases e2
   exact ⟨o, e, ex.2.1⟩
  ·obtain ⟨_, _, _, o, e, c, _, _, hd⟩ := hq.ok I.hok
   refine ⟨⟨o, e, c⟩, fun a e2 => ?_⟩
   cases e2
   exact ⟨o, e, hd⟩
 | _ => exact False.elim ty
def tBM (K : PySem.W.Frag) (T : String) (r : V -> List V -> Hp -> VK -> Prop) (to : TE) (t : TA) : TE := fun σ H Q => to σ H fun x H1 => tyV K T x H1 /\ t σ H1 fun xs H2 => r x xs H2 Q
variable {o e : Expr} {es : List Expr} {to : TE} {t : TA} {name : Str} {apos cpos : Pos} {T id : String} {r : V -> List V -> Hp -> VK -> Prop}
theorem pe_bm (pa : PlainAttrs T) (slot : Slot T name id) (hty : typeOf (.builtin id) = pure (.type "method_descriptor")) (hm : MtR X id r) (ho : PE X o to) (ha : PA X (e :: es) t)
  (hbase : attributeBase o name X.env (eval o X.env) = eval o X.env := by rfl)
  (hfew : ((backTo cpos (starEach (e :: es) X.env)).all (fun x => !x.1) && (backToKw cpos (keywordEach [] X.env)).all (fun x => x.1.isSome)
   && decide ((e :: es).length + ([] : List Keyword).length + (if ([] : List Keyword).isEmpty then 0 else 1) < 30)) = true := by rfl)
  (hline : (apos.endLine == cpos.line) = true := by rfl) (hs : starEach (e :: es) X.env = (false, eval e X.env) :: starEach es X.env := by rfl) (hplain : (backTo cpos (starEach es X.env)).any (·.1) = false := by rfl) :
  PE X (.Call (.Attribute o name apos) (e :: es) [] cpos) (tBM X.K T r to t) := by
 intro pins s σ H Q I h
 refine wpAny_Call_method_late hbase hfew hline rfl (thn (ho pins s σ H _ I h) fun v s1 ⟨x, H1, I1, r1, ty, q1⟩ => ?_)
 obtain ⟨h1, h2⟩ := tyV_is I1 r1 ty
 refine ⟨T, id, pa, slot, hty, h1, h2, ?_⟩
 have hA := ha cpos pins s1 σ H1 _ I1 q1
 rw [hs] at hA ⊢
 refine Calls.callWith_builtin (by show (false || (backTo cpos (starEach es X.env)).any (·.1)) = false; rw [hplain] <;> rfl) (Calls.evalArgs_plain ?_)
 exact thn hA fun us s2 ⟨vs, H2, I2, r2, q2⟩ => hm pins s2 σ H2 x vs v us Q I2 r1 r2 q2
end
end L2
namespace L2
open PySem PySem.Spec PyProof.Rows
def MtM (X : Cx) (id : String) (r : V -> List V -> Hp -> VK -> Prop) : Prop :=
 ∀ (pins : List (Addr × Obj)) (s : Shared) (σ : St) (H : Hp) (x : V) (xs : List V) (v : Value) (us : List Value) (Q : VK), Inv X pins σ H s -> RelV x v -> Vals xs us -> r x xs H Q ->
  wpAny (model X.prog X.w) X.A (call (.builtin id) (v :: us)) (EP X pins σ Q) X.xe s
theorem Vals.one : ∀ {x : V} {us : List Value}, Vals [x] us -> ∃ u, us = [u] /\ RelV x u
 | _, _, .cons r .nil => ⟨_, rfl, r⟩
theorem Vals.two : ∀ {x y : V} {us : List Value}, Vals [x, y] us -> ∃ u v, us = [u, v] /\ RelV x u /\ RelV y v
 | _, _, _, .cons r (.cons q .nil) => ⟨_, _, rfl, r, q⟩
theorem Vals.eraseIdx : ∀ {xs : List V} {us : List Value} (i : Nat), Vals xs us -> Vals (xs.eraseIdx i) (us.eraseIdx i)
 | _, _, _, .nil => .nil
 | _, _, 0, .cons _ t => t
 | _, _, i + 1, .cons r t => .cons r (Vals.eraseIdx i t)
theorem len_erase {α : Type} : ∀ (l : List α) (i : Nat), (l.eraseIdx i).length <= l.length
 | [], _ => Nat.le_refl _
 | _ :: _, 0 => Nat.le_succ _
 | _ :: r, i + 1 => Nat.succ_le_succ (len_erase r i)
section
variable {X : Cx} {pins : List (Addr × Obj)} {σ : St} {H : Hp} {s : Shared} {l b : Addr} {xs ys zs : List V}
theorem Inv.lset {its its' : List Value} {n : Nat} {f : Array Value -> Array Value} {t' : Nat} (I : Inv X pins σ H s) (hH : H l = some (.lst xs))
  (e : s.heap.get? l = some { cls := .type "list", data := .seq its.toArray n }) (hf : f its.toArray = its'.toArray) (hv : Vals ys its') (hz : ys.length <= sizeLine) :
  Inv X pins σ (upd H l (.lst ys)) { s with heap := s.heap.update l (Obj.mapSeq f), toks := t' } := by
 have q := PySem.IsL.update e f
 rw [hf] at q
 refine I.write (x := l) (e := l) (by rw [hH]; exact trivial) (.inl rfl) (fun b' u hb hu => (Heap.get?_update_other s.heap (Obj.mapSeq f) (Ne.symm hb)).trans hu) ⟨_, q⟩ ?_
 exact ⟨hz, its', _, hv, q⟩
theorem Inv.lnew {its : List Value} {t' : Nat} (I : Inv X pins σ H s) (hv : Vals ys its) (hz : ys.length <= sizeLine) :
  Inv X pins σ (upd H s.heap.objs.size (.lst ys)) { s with heap := s.heap.push { cls := .type "list", data := .seq its.toArray }, toks := t' } :=
 I.laid (fun _ _ q => Heap.get?_push_of_some _ q) (Nat.le_refl _) ⟨hz, its, 0, hv, Heap.get?_push_size _ rfl⟩
theorem Inv.fresh (I : Inv X pins σ H s) : H s.heap.objs.size = none := I.hok.fresh (Nat.le_refl _)
theorem Inv.lstM (I : Inv X pins σ H s) (hH : H l = some (.lst xs)) : xs.length <= sizeLine /\ ∃ (its : List Value) (n : Nat), Vals xs its /\ xs.length = its.length /\ s.heap.get? l = some { cls := .type "list", data := .seq its.toArray n } := by
 obtain ⟨z, its, n, r, e⟩ := I.hok l _ hH
 exact ⟨z, its, n, r, r.length, e⟩
theorem notLongL {n : Nat} (h : n <= sizeLine) : Builtin.List.listTooLong n = false := by
 unfold Builtin.List.listTooLong
 exact decide_eq_false (by omega)
end
section
variable {X : Cx}
def rAppend : V -> List V -> Hp -> VK -> Prop := fun x vs H Q => ∃ l xs y, x = .ref l /\ vs = [y] /\ H l = some (.lst xs) /\ xs.length < sizeLine /\ Q .non (upd H l (.lst (xs ++ [y])))
theorem mt_append : MtM X "list.append" rAppend := by
 intro pins s σ H x vs v us Q I rx rv h
 obtain ⟨l, xs, y, rfl, rfl, hH, hz, q⟩ := h
 cases rx
 obtain ⟨u, rfl, ru⟩ := rv.one
 obtain ⟨z, its, n, r, hl, e⟩ := I.lstM hH
 refine call_meets F.slot_list_append ⟨_, e, rfl⟩ F.entry_list_append (F.args_list_append_2 _ _) (PySem.list_append l its.toArray n u (by rw [List.size_toArray]; omega)) ⟨e, ?_⟩
 refine ⟨.non, _, I.lset (its' := its ++ [u]) hH e (by simp) (r.append (.cons ru .nil)) ?_, rfl, q⟩
 rw [List.length_append, List.length_singleton]
 omega
def rExtend : V -> List V -> Hp -> VK -> Prop := fun x vs H Q => ∃ l b xs zs, x = .ref l /\ vs = [.ref b] /\ H l = some (.lst xs) /\ H b = some (.lst zs) /\ xs.length + zs.length <= sizeLine /\ Q .non (upd H l (.lst (xs ++ zs)))
theorem mt_extend : MtM X "list.extend" rExtend := by
 intro pins s σ H x vs v us Q I rx rv h
 obtain ⟨l, b, xs, zs, rfl, rfl, hH, hB, hz, q⟩ := h
 cases rx
 obtain ⟨u, rfl, ru⟩ := rv.one
 cases ru
 obtain ⟨z, its, n, r, hl, e⟩ := I.lstM hH
 obtain ⟨z2, its2, n2, r2, hl2, e2⟩ := I.lstM hB
 have hsz : its.toArray.size + its2.toArray.size <= sizeLine := by rw [List.size_toArray, List.size_toArray]; omega
 have hlong : ¬ (!its.toArray.isEmpty && Builtin.List.listTooLong (its.toArray.size + its2.toArray.size)) = true := by
  rw [notLongL hsz, Bool.and_false]
  exact Bool.false_ne_true
 refine call_meets F.slot_list_extend ⟨_, e, rfl⟩ F.entry_list_extend (F.args_list_extend_2 _ _)
  (AutoSeq1.list_extend_list_list_0 l its.toArray n b its2.toArray n2 hlong (by rw [List.size_toArray]; omega) (by omega)) ⟨e, e2, ?_⟩
 refine ⟨.non, _, I.lset (its' := its ++ its2) hH e (by simp) (r.append r2) ?_, rfl, q⟩
 rw [List.length_append]
 omega
def rPopAt : V -> List V -> Hp -> VK -> Prop := fun x vs H Q => ∃ l xs i k y, x = .ref l /\ vs = [.int i] /\ H l = some (.lst xs) /\ -(2 ^ 63) <= i /\ i < 2 ^ 63 /\ seqIndex? i xs.length = some k /\ xs[k]? = some y /\ Q y (upd H l (.lst (xs.eraseIdx k)))
theorem mt_popAt : MtM X "list.pop" rPopAt := by
 intro pins s σ H x vs v us Q I rx rv h
 obtain ⟨l, xs, i, k, y, rfl, rfl, hH, h1, h2, hk, hy, q⟩ := h
 cases rx
 obtain ⟨u, rfl, ru⟩ := rv.one
 obtain ⟨t, rfl⟩ := ru
 obtain ⟨z, its, n, r, hl, e⟩ := I.lstM hH
 obtain ⟨w, hw, rw'⟩ := r.get hy
 refine call_meets F.slot_list_pop ⟨_, e, rfl⟩ F.entry_list_pop (F.args_list_pop_2 _ _)
  (MeetsSeq.list_pop_at l its.toArray n i t k w (fitsIndex_both h1 h2) (by rw [List.size_toArray, <- hl]; exact hk) (by rw [<- Array.getElem?_toList]; exact hw) (by rw [List.size_toArray]; omega)) ⟨e, ?_⟩
 refine ⟨y, _, I.lset (its' := its.eraseIdx k) hH e ?_ (r.eraseIdx k) ?_, rw', q⟩
 ·show its.toArray.eraseIdxIfInBounds k = (its.eraseIdx k).toArray
  rw [List.eraseIdxIfInBounds_toArray]
 ·have := len_erase xs k
  omega
end
section
variable {prog : Program} {w : World} {A : Around} {E : Value -> Shared -> Prop} {s : Shared}
set_option maxRecDepth 100000 in
end
end L2
namespace Att
open PySem PySem.W PySem.Calls PyProof.Rows
theorem ints_of_wellAll {P : Params} {h : Heap} : ∀ (ns : List Int) (vs : List Value), WellAll P h vs (ns.map WData.int) -> IntsAre vs ns := by
 intro ns
 induction ns with
 | nil =>
  intro vs w
  rw [List.map_nil] at w
  cases w
  exact .nil
 | cons n ns ih =>
  intro vs w
  rw [List.map_cons] at w
  cases w with
  | cons a b =>
   cases a
   exact .cons _ _ (ih _ b)
theorem script_of {l : OpenLaw} {n : Nat} (hn : l.most = some n) {P : Params} {h : Heap} {args : List WData} {vals : List Value}
  (hpre : l.row.toRowW.claim.pre args = true) (hwl : WellAll P h vals args) :
  ∃ a vs ns, vals = [Value.ref a] /\ args = [WData.list (ns.map WData.int)] /\ h.get? a = some { cls := .type "list", data := .seq vs.toArray } /\ IntsAre vs ns /\ ns.length <= n := by
 have hsh : WShape.hasAll [] args [.list .int] = true := (pre_splitW hpre).1
 have hc : l.pre.holds [] { args := args } = true := (pre_splitW hpre).2
 obtain ⟨d, r, rfl, h1, h2⟩ := hasAllW_cons hsh
 obtain rfl := hasAllW_nil h2
 obtain ⟨xs, rfl, h3⟩ := hasW_list h1
 obtain ⟨ns, rfl⟩ := items_int h3
 have hlen : ns.length <= n := by
  unfold OpenLaw.pre at hc
  have h4 : (WTm.not (.lt (.lit (.int (n : Int))) (.len (.arg 0)))).holds [] { args := [.list (ns.map .int)] } = true := by
   have h4 := (holds_andW hc).1
   rw [hn] at h4
   exact h4
  have h5 := condW_of h4 (w_not (w_lt w_lit (w_len_list (w_arg rfl))))
  rw [List.length_map] at h5
  refine Nat.le_of_not_lt fun q => ?_
  have q' : (n : Int) < ((ns.length : Nat) : Int) := by omega
  first
   | (rw [decide_eq_true q'] at h5; exact absurd h5 (by decide))
   | (simp at h5; omega)
 cases hwl with
 | cons w1 w2 =>
  cases w2
  cases w1 with
  | list ho hall => exact ⟨_, _, ns, rfl, rfl, ho, ints_of_wellAll ns _ hall, hlen⟩
theorem post_true (l : OpenLaw) (args : List WData) : l.row.toRowW.claim.post args (.bool true) args = true :=
 postW_of (r := l.row.toRowW) (X := (true == true))
  (show WShape.has [] (.bool true) .bool = true by first | rfl | decide | simp [WShape.has, WShape.arms, WShape.armsAll])
  (show (WTm.eq .res (.lit (.bool true))).value [] { args := args, res := some (.bool true), after := args } = some (.bool (true == true)) from w_eq_bool (w_res rfl) w_lit) rfl
theorem attach_call {l : OpenLaw} {n : Nat} {q : Program} {loose : List Str} {XP : (Str -> Option Value) -> Heap -> Prop} {YP : World -> Heap -> Prop} {d : DefRec}
  (hn : l.most = some n) (hdf : d.params.defaults = [])
  (call : ∀ (w : World) (s₀ s₁ : Shared) (mg mb : Str -> Option Value) (fa : Addr) (o : Obj) (pm cd doc : Value) (a : Addr) (vs : List Value) (ns : List Int),
   Ground q loose [] XP w s₀ mg mb s₁.heap -> YP w s₁.heap ->
   s₁.heap.get? fa = some o -> o.data = .func (docDef d.name d.params d.body d.scope pm cd doc) -> s₁.heap.CodeRec cd d.name -> mg d.name = some (.ref fa) ->
   s₁.heap.get? a = some { cls := .type "list", data := .seq vs.toArray } -> IntsAre vs ns -> ns.length <= n -> s₁.gens = #[] ->
   codeAny (model l.prog w) callerA (.call (.ref fa) ⟨[.ref a], []⟩) (fun r s' => r = .ok (.ret (.bool true)) /\ OldK s₁.heap s'.heap /\ s'.os = s₁.os /\ AllBare s'.gens) s₁) :
  WalkO q loose XP YP l.row.toRowW d [] (fun f vs => PySem.call f vs) := by
 intro w s₀ s₁ mg mb G Y fa o pm cd doc dV kV ho hd hcd hD hmg hg args vals as hpre hlay hrd hwl hlo
 obtain rfl : dV = .none := Dflts.none hD hdf
 obtain rfl : kV = .none := Dflts.noKw hD
 obtain ⟨a, vs, ns, rfl, rfl, hobj, hints, hlen⟩ := script_of hn hpre hwl
 refine enter_call (codeAny_mono (call w s₀ s₁ mg mb fa o pm cd doc a vs ns G Y ho (fd_plain hd) hcd hmg hobj hints hlen hg) fun r s' hq => ?_)
 obtain ⟨rfl, h2, h3, h4⟩ := hq
 exact ⟨.inl ⟨.bool true, .bool true, [], rfl, fun _ => rfl, .bool true, post_true l _, fun _ => ⟨List.Pairwise.nil, fun _ hm => (nomatch hm)⟩⟩, h2, h3, h4⟩
end Att
namespace L2
open PySem PySem.Spec PyProof.Rows
theorem vals_ints : ∀ {vs : List Value} {ns : List Int}, IntsAre vs ns -> Vals (ns.map V.int) vs
 | _, _, .nil => .nil
 | _, _, .cons n t h => .cons ⟨t, rfl⟩ (vals_ints h)
def Only (H : Hp) : Prop := ∀ b, H b = none \/ ∃ o xs, H b = some (.frz o (.lst xs))
theorem law_call {P : Program} {w : World} {K : PySem.W.Frag} {mg mb : Str -> Option Value} {CX : CXT} {k : Nat} {fa a : Addr} {fd : FuncData} {x : Str} {sp : Sp} {s₁ : Shared} {vs : List Value} {ns : List Int}
  (KX : K.In s₁.heap) (hns : s₁.heap.Ns mainGlobals mg) (hb : s₁.heap.Ns builtinsNs mb) (hbb : ∀ x : Str, x ≠ "__name__" -> mb x = bootBuiltins x) (hlim : s₁.heap.NoLimit) (hg : s₁.gens = #[])
  (ha : s₁.heap.get? a = some { cls := .type "list", data := .seq vs.toArray }) (hi : IntsAre vs ns) (hl : ns.length <= sizeLine) (hr : Room k callerA)
  (F : ∀ base : Heap, K.In base -> base.Ns mainGlobals mg -> FnOk P w K mg base CX k fa fd [x] sp) (hbind : ∀ (s : Shared) (u : Value), BindsTo s fd ⟨[u], []⟩ [(x, u)])
  (hsp : ∀ H : Hp, Only H -> SqL K H a (ns.map V.int) -> sp [.ref a] H (fun v _ => v = .bl true) fun _ _ _ => False)
  (hCX : ∀ H e s', CX [] H s₁ (fun _ _ _ => False) e s' -> False) :
  codeAny (model P w) callerA (.call (.ref fa) ⟨[.ref a], []⟩) (fun r s' => r = .ok (.ret (.bool true)) /\ OldK s₁.heap s'.heap /\ s'.os = s₁.os /\ AllBare s'.gens) s₁ := by
 have rv := vals_ints hi
 have lenV := hi.length
 have core : ∀ H : Hp, Only H -> SqL K H a (ns.map V.int) -> HOk P w H s₁.heap -> (∀ b, H b ≠ none -> b = a) -> (H a ≠ none -> K.lookup a = none) ->
   codeAny (model P w) callerA (.call (.ref fa) ⟨[.ref a], []⟩) (fun r s' => r = .ok (.ret (.bool true)) /\ OldK s₁.heap s'.heap /\ s'.os = s₁.os /\ AllBare s'.gens) s₁ := by
  intro H hO hS hok hA hK
  have base_of : ∀ {b : Addr} {o : Obj}, s₁.heap.get? b = some o -> H b = none -> (hidT s₁.heap H).get? b = some o := fun e n => hidT_get e n
  have noA : ∀ {b : Addr} {o : Obj} {es : Array DictEntry} {ep : Nat}, s₁.heap.get? b = some o -> o.data = .dict es ep -> H b = none := fun {b o es ep} e d => by
   cases q : H b with
   | none => rfl
   | some u =>
    have e' : b = a := hA b (by rw [q]; simp)
    subst e'
    rw [ha] at e; cases e
    have d' : Data.seq vs.toArray _ = Data.dict es ep := d
    cases d'
  have nsK : ∀ {b : Addr} {m : Str -> Option Value}, s₁.heap.Ns b m -> (hidT s₁.heap H).Ns b m := fun {b m} ⟨o, es, ep, e, d, r⟩ => ⟨o, es, ep, base_of e (noA e d), d, r⟩
  have hKb : K.In (hidT s₁.heap H) := fun b o e => base_of (KX b o e) (by
   cases q : H b with
   | none => rfl
   | some u =>
    have e' : b = a := hA b (by rw [q]; simp)
    subst e'
    rw [hK (by rw [q]; simp)] at e; cases e)
  have hM : Mod K mg (hidT s₁.heap H) := ⟨hKb, nsK hns, ⟨mb, nsK hb, hbb⟩, let ⟨mc, h1, h2⟩ := hlim; ⟨mc, nsK h1, h2⟩⟩
  have e0 : Env0 P w K mg (hidT s₁.heap H) callerA [] s₁ H := ⟨rfl, hM, fun b o e => of_hidT e, Nat.le_of_eq (hidT_size _ _), trivial, fun b hb => absurd (show b ∈ ([] : List Addr) from hb) (by simp), hok, .of_eq hg⟩
  refine codeAny_mono ((F _ hKb (nsK hns)).run callerA [] s₁ H ⟨[.ref a], []⟩ [.ref a] [.ref a] _ _ hr e0 (hbind s₁ (.ref a)) (.cons rfl .nil) (hsp H hO hS)) fun r s' h => ?_
  cases r with
  | error e => exact (hCX H e s' h).elim
  | ok fl =>
   cases fl with
   | next => exact False.elim h
   | brk => exact False.elim h
   | cont => exact False.elim h
   | ret u =>
    obtain ⟨v, H', os, bare, un, hok', r', q⟩ := h
    have q' : v = .bl true := q
    subst q'
    obtain rfl : u = Value.bool true := r'
    refine ⟨rfl, OldK.of_keep fun b o e => ?_, os, bare⟩
    cases q : H b with
    | none => exact un.keep b o e q (by intro z; exact absurd (show b ∈ ([] : List Addr) from z) (by simp)) (by simp)
    | some u =>
     rcases hO b with z | ⟨ob, xs, z⟩
     ·rw [q] at z; cases z
     ·have z2 := un.frzs b ob _ z
      obtain ⟨e1, _⟩ := hok b _ z
      obtain ⟨e2, _⟩ := hok' b _ z2
      rw [e] at e1; cases e1
      exact e2
 cases hk : K.lookup a with
 | some o =>
  have e := KX a o hk
  rw [ha] at e
  cases e
  refine core (fun _ => none) (fun _ => .inl rfl) (.inr ⟨_, vs.toArray, _, hk, rfl, rfl, rfl, by rw [List.size_toArray, lenV]; exact hl, by simpa using rv⟩) (fun b u z => by have z' : (none : Option HO) = some u := z; cases z') (fun b z => absurd rfl z) fun z => absurd rfl z
 | none =>
  refine core (fun b => if b = a then some (.frz { cls := .type "list", data := .seq vs.toArray } (.lst (ns.map V.int))) else none) (fun b => ?_) (.inl (.inr ⟨{ cls := .type "list", data := .seq vs.toArray }, if_pos rfl⟩)) (fun b u z => ?_) (fun b z => ?_) fun _ => hk
  ·by_cases hb : b = a
   ·exact .inr ⟨_, _, if_pos hb⟩
   ·exact .inl (if_neg hb)
  ·by_cases hb : b = a
   ·have z' := (if_pos hb).symm.trans z
    cases z'
    subst hb
    exact ⟨ha, by rw [List.length_map]; exact hl, vs, _, rv, ha⟩
   ·have z' := (if_neg hb).symm.trans z
    cases z'
  ·by_cases hb : b = a
   ·exact hb
   ·exact absurd (if_neg hb) z
end L2
namespace L2
open PySem PySem.Spec PyProof.Rows
theorem walk_of {l : PySem.W.OpenLaw} {n k : Nat} {q : Program} {loose : List Str} {XP : (Str -> Option Value) -> Heap -> Prop} {YP : World -> Heap -> Prop} {d : DefRec} {K : Params -> PySem.W.Frag} {CX : World -> CXT} {sp : World -> Sp} {x : Str}
  (hn : l.most = some n) (hn2 : n <= sizeLine) (hdf : d.params.defaults = []) (hr : Room k callerA)
  (hY : ∀ (w : World) (h : Heap), YP w h -> (K w.params).In h)
  (F : ∀ (w : World) (mg : Str -> Option Value) (fa : Addr) (h : Heap), (K w.params).In h -> h.Ns mainGlobals mg -> mg d.name = some (.ref fa) ->
   ∃ fd : FuncData, (∀ (s : Shared) (u : Value), BindsTo s fd ⟨[u], []⟩ [(x, u)]) /\
    ∀ base : Heap, (K w.params).In base -> base.Ns mainGlobals mg -> FnOk l.prog w (K w.params) mg base (CX w) k fa fd [x] (sp w))
  (hsp : ∀ (w : World) (H : Hp) (a : Addr) (ns : List Int), ns.length <= n -> Only H -> SqL (K w.params) H a (ns.map V.int) -> sp w [.ref a] H (fun v _ => v = .bl true) fun _ _ _ => False)
  (hCX : ∀ (w : World) (H : Hp) (s : Shared) (e : Value) (s' : Shared), CX w [] H s (fun _ _ _ => False) e s' -> False) :
  PySem.W.WalkO q loose XP YP l.row.toRowW d [] (fun f vs => PySem.call f vs) := by
 refine Att.attach_call hn hdf fun w s₀ s₁ mg mb fa o pm cd doc a vs ns G Y ho hd hcd hmg hobj hints hlen hg => ?_
 have KX := hY w _ Y
 obtain ⟨fd, hb, hF⟩ := F w mg fa _ KX G.T.g hmg
 exact law_call KX G.T.g G.T.b G.T.builtins G.T.nolimit hg hobj hints (Nat.le_trans hlen hn2) hr hF hb (fun H hO hS => hsp w H a ns hlen hO hS) fun H e s' => hCX w H s₁ e s'
end L2
namespace L2
open PySem PySem.Spec PyProof.Rows
def defArgs (s : Stmt) : Arguments := match s with
 | .FunctionDef _ a _ _ _ _ _ _ _ _ => a
 | _ => { posonlyargs := [], args := [], vararg := none, kwonlyargs := [], kw_defaults := [], kwarg := none, defaults := [] }
def defBody (s : Stmt) : List Stmt := match s with
 | .FunctionDef _ _ b _ _ _ _ _ _ _ => b
 | _ => []
def defScope (s : Stmt) : Scope := match s with
 | .FunctionDef _ _ _ _ _ _ sc _ _ _ => sc
 | _ => { kind := .function, names := [], isGenerator := false, isCoroutine := false }
abbrev CX0 : CXT := fun _ _ _ _ _ _ => False
abbrev E0 : XK := fun _ _ _ => False
theorem pass0 {X : Cx} : Passes CX0 X E0 := fun _ _ _ _ _ _ _ h => h.elim
structure Fun (K : PySem.W.Frag) (x qual : Str) (st : Stmt) (f : Addr) (fd : FuncData) : Prop where
 ex : ∃ (oc : Value) (od : Option Addr) (kV doc pm : Value) (an : Option Addr) (cdv ct : Value) (osl : Array (Option Value)),
  fd = PySem.W.fnOf x qual (defArgs st) (defBody st) (defScope st) .none kV doc pm an cdv ct /\ K.lookup f = some ⟨oc, od, .func fd, osl⟩ /\ PySem.W.codeIn K cdv qual = true
 kp : PySem.W.keepIn K (.ref f) = true
section
variable {P : Program} {w : World} {K : PySem.W.Frag} {mg : Str -> Option Value} {base : Heap}
theorem Fun.ok {x qual : Str} {st : Stmt} {f : Addr} {fd : FuncData} {N ps : List Str} {k : Nat} {sp : Sp} (F : Fun K x qual st f fd) (S : FnScope N ps (defScope st)) (len : ∀ vs H Q E, sp vs H Q E -> vs.length = ps.length)
  (hbody : ∀ (cdv : Value) (A : Around) (outer : List Env) (s : Shared) (H : Hp) (vs : List V) (Q : VK) (E : XK), Room k (A.deeper (envOfC qual (defScope st) s.heap.objs.size f cdv)) -> sp vs H Q E ->
   ∃ t, PSs (cxOf CX0 P w K mg base N qual (defScope st) f cdv A outer s H E).nox (defBody st) t /\ t { nx := fun _ H' => Q .non H', rt := Q } (start N vs) H) : FnOk P w K mg base CX0 (k + 1) f fd ps sp := by
 obtain ⟨oc, od, kV, doc, pm, an, cdv, ct, osl, rfl, lk, hcd⟩ := F.ex
 refine fn_of lk hcd S len fun A outer s H vs Q E hr hsp => ?_
 obtain ⟨t, h, q⟩ := hbody cdv A outer s H vs Q E hr hsp
 exact ⟨t, h.nox, q⟩
theorem Fun.binds {x qual : Str} {st : Stmt} {f : Addr} {fd : FuncData} {ps : List Str} (F : Fun K x qual st f fd)
  (h : ∀ (kV doc pm : Value) (an : Option Addr) (cdv ct : Value) (us : List Value), us.length = ps.length -> bindArgs (PySem.W.fnOf x qual (defArgs st) (defBody st) (defScope st) .none kV doc pm an cdv ct) ⟨us, []⟩ = pure (ps.zip us)) : Binds K fd ps [] := by
 obtain ⟨oc, od, kV, doc, pm, an, cdv, ct, osl, rfl, lk, hcd⟩ := F.ex
 exact .all (h kV doc pm an cdv ct)
theorem fun_mk {x qual : Str} {st : Stmt} {f : Addr} {oc : Value} {od an : Option Addr} {osl : Array (Option Value)} {kV doc pm cdv ct : Value} (l : K.lookup f = some ⟨oc, od, .func (PySem.W.fnOf x qual (defArgs st) (defBody st) (defScope st) .none kV doc pm an cdv ct), osl⟩)
  (c : PySem.W.codeIn K cdv qual = true) (k : PySem.W.keepIn K (.ref f) = true) : Fun K x qual st f (PySem.W.fnOf x qual (defArgs st) (defBody st) (defScope st) .none kV doc pm an cdv ct) := ⟨⟨oc, od, kV, doc, pm, an, cdv, ct, osl, rfl, l, c⟩, k⟩
end
section
variable {X : Cx}
theorem pv (i : Nat) {x : Str} {pos : Pos} (hN : X.N[i]? = some x := by rfl) (hv : Vis X.env.scope x := by first | exact Or.inl rfl | exact Or.inr (Or.inl rfl) | exact Or.inr (Or.inr rfl)) (hd : (x == ("__debug__" : Str)) = false := by decide)
  (hcd : (x == ("__classdict__" : Str)) = false := by decide) : PE X (.Name x pos) (tVar i) := pe_var hN hv hd hcd
end
theorem ite2 {c A B : Prop} [Decidable c] (h1 : c -> A) (h2 : ¬ c -> B) : if c then A else B := by
 by_cases h : c
 ·rw [if_pos h]
  exact h1 h
 ·rw [if_neg h]
  exact h2 h
def Same (H H' : Hp) : Prop := ∀ b o, H b = some o -> H' b = some o
theorem Same.refl (H : Hp) : Same H H := fun _ _ h => h
theorem Same.trans {H H1 H2 : Hp} (a : Same H H1) (b : Same H1 H2) : Same H H2 := fun c o h => b c o (a c o h)
theorem Same.free {H H' : Hp} (e : Same H H') {l : Addr} (h : H' l = Option.none) : H l = Option.none := by
 cases q : H l with
 | none => rfl
 | some o =>
  rw [e l o q] at h
  cases h
end L2
namespace L2
open PySem PySem.Spec PyProof.Rows
def closL (cells : List (Str × Addr)) : List (Str × NameKind) -> List (Str × Addr) -> List (Str × Addr)
 | [], acc => acc
 | (n, k) :: r, acc => if k == .free then closL cells r ((n, (cells.lookup n).getD 0) :: acc) else closL cells r acc
theorem closureFor_eq {env : Env} {scope : Scope} (h : ∀ n, (n, NameKind.free) ∈ scope.names -> ∃ c, env.cells.lookup n = some c) :
  closureFor scope env = pure (closL env.cells scope.names []) := by
 have key : ∀ (names : List (Str × NameKind)) (acc : List (Str × Addr)), (∀ n, (n, NameKind.free) ∈ names -> ∃ c, env.cells.lookup n = some c) ->
   (forIn (m := Sem) names acc fun x r => match x with | (name, kind) => if (kind == NameKind.free) = true then (do let a <- cellOf env name; pure (ForInStep.yield ((name, a) :: r))) else pure (ForInStep.yield r)) = pure (closL env.cells names acc) := by
  intro names
  induction names with
  | nil => intro acc _; rfl
  | cons x r ih =>
   intro acc hx
   obtain ⟨n, k⟩ := x
   rw [List.forIn_cons]
   unfold closL
   by_cases hk : k = .free
   ·subst hk
    obtain ⟨c, hc⟩ := hx n List.mem_cons_self
    simp only [beq_self_eq_true, if_true]
    have e : cellOf env n = pure c := by unfold cellOf; rw [hc]
    rw [e, hc]
    exact ih _ fun m hm => hx m (List.mem_cons_of_mem _ hm)
   ·have hb : (k == NameKind.free) = false := by simpa using hk
    simp only [hb, Bool.false_eq_true, if_false]
    exact ih _ fun m hm => hx m (List.mem_cons_of_mem _ hm)
 unfold closureFor
 have := key scope.names [] h
 show ((forIn (m := Sem) scope.names [] fun x r => match x with | (name, kind) => if (kind == NameKind.free) = true then (do let a <- cellOf env name; pure (ForInStep.yield ((name, a) :: r))) else pure (ForInStep.yield r)) >>= fun cs => pure cs) = _
 rw [this]
 rfl
theorem cellsFrom_app : ∀ (names : List (Str × NameKind)) (n : Nat) (acc : List (Str × Addr)), cellsFrom n names acc = cellsFrom n names [] ++ acc
 | [], _, _ => rfl
 | (name, kind) :: r, n, acc => by
  unfold cellsFrom
  split
  ·rw [cellsFrom_app r (n + 1) ((name, n) :: acc), cellsFrom_app r (n + 1) [(name, n)], List.append_assoc]; rfl
  ·exact cellsFrom_app r n acc
theorem closL_lookup {cells : List (Str × Addr)} : ∀ (names : List (Str × NameKind)) (acc : List (Str × Addr)) (x : Str) (c : Addr), (closL cells names acc).lookup x = some c ->
  (acc.lookup x = some c) \/ ((x, NameKind.free) ∈ names /\ c = (cells.lookup x).getD 0)
 | [], acc, x, c, h => .inl h
 | (n, k) :: r, acc, x, c, h => by
  unfold closL at h
  split at h
  ·rename_i hk
   have hk' : k = .free := by simpa using hk
   subst hk'
   rcases closL_lookup r _ x c h with z | ⟨z, e⟩
   ·rw [List.lookup_cons] at z
    cases hb : x == n with
    | true => rw [hb] at z; cases z; rw [beq_iff_eq.mp hb]; exact .inr ⟨List.mem_cons_self, rfl⟩
    | false => rw [hb] at z; exact .inl z
   ·exact .inr ⟨List.mem_cons_of_mem _ z, e⟩
  ·rcases closL_lookup r _ x c h with z | ⟨z, e⟩
   ·exact .inl z
   ·exact .inr ⟨List.mem_cons_of_mem _ z, e⟩
theorem closL_acc {cells : List (Str × Addr)} : ∀ (names : List (Str × NameKind)) (acc : List (Str × Addr)) (x : Str), (∃ c, acc.lookup x = some c) -> ∃ c, (closL cells names acc).lookup x = some c
 | [], acc, x, h => h
 | (n, k) :: r, acc, x, h => by
  unfold closL
  split
  ·refine closL_acc r _ x ?_
   obtain ⟨c, h⟩ := h
   rw [List.lookup_cons]
   cases hb : x == n with
   | true => exact ⟨_, rfl⟩
   | false => exact ⟨c, h⟩
  ·exact closL_acc r _ x h
theorem closL_has {cells : List (Str × Addr)} : ∀ (names : List (Str × NameKind)) (acc : List (Str × Addr)) (x : Str), (x, NameKind.free) ∈ names -> ∃ c, (closL cells names acc).lookup x = some c
 | [], acc, x, h => by simp at h
 | (n, k) :: r, acc, x, h => by
  unfold closL
  rcases List.mem_cons.mp h with e | h
  ·cases e
   simp only [beq_self_eq_true, if_true]
   exact closL_acc r _ _ ⟨(cells.lookup n).getD 0, by rw [List.lookup_cons]; simp⟩
  ·split
   ·exact closL_has r _ x h
   ·exact closL_has r _ x h
theorem cellsFrom_mem : ∀ (names : List (Str × NameKind)) (n : Nat) (acc : List (Str × Addr)) (x : Str) (c : Addr), (x, c) ∈ cellsFrom n names acc -> (x, c) ∈ acc \/ (x, NameKind.cell) ∈ names
 | [], _, _, _, _, h => .inl h
 | (name, kind) :: r, n, acc, x, c, h => by
  unfold cellsFrom at h
  split at h
  ·rename_i hk
   have hk' : kind = .cell := by simpa using hk
   subst hk'
   rcases cellsFrom_mem r _ _ x c h with z | z
   ·rcases List.mem_cons.mp z with e | z
    ·cases e; exact .inr List.mem_cons_self
    ·exact .inl z
   ·exact .inr (List.mem_cons_of_mem _ z)
  ·rcases cellsFrom_mem r _ _ x c h with z | z
   ·exact .inl z
   ·exact .inr (List.mem_cons_of_mem _ z)
structure CompScope (N : List Str) (sc0 : Scope) (N' : List Str) (ixs : List (Option Nat)) (sc : Scope) : Prop where
 kind : sc.kind = .function
 keys : (sc.names.map (·.1)).Nodup
 nd : N'.Nodup
 len : ixs.length = N'.length
 fv : ∀ (j i : Nat), ixs[j]? = some (some i) -> ∃ x, N[i]? = some x /\ N'[j]? = some x /\ sc.names.lookup x = some .free
 free : ∀ p ∈ sc.names, p.2 = .free -> sc0.names.lookup p.1 = some .cell \/ sc0.names.lookup p.1 = some .free
theorem lookup_of_mem {α : Type} : ∀ {l : List (Str × α)}, (l.map (·.1)).Nodup -> ∀ {x : Str} {k : α}, (x, k) ∈ l -> l.lookup x = some k
 | (n, v) :: r, hn, x, k, h => by
  obtain ⟨h1, h2⟩ := List.nodup_cons.mp hn
  rw [List.lookup_cons]
  rcases List.mem_cons.mp h with e | hm
  ·cases e; simp
  ·have : (x == n) = false := by
    rw [beq_eq_false_iff_ne]
    intro e
    exact h1 (List.mem_map.mpr ⟨_, hm, e⟩)
   rw [this]
   exact lookup_of_mem h2 hm
def compEnv2 (scope : Scope) (L : Addr) (env : Env) : Env :=
 { scope := relabel scope env, locals := L, globals := env.globals, cells := cellsFrom (L + 1) scope.names (closL env.cells scope.names []), qual := env.qual, func := none, code := env.code, frame := env.frame, builtins := env.builtins }
theorem newEnv_comp {M : Model} {A : Around} {E : Value -> Shared -> Prop} {s : Shared} {scope : Scope} {globals : Addr} {cl : List (Str × Addr)} {qual : Str} {env : Env} {Q : Env -> Shared -> Prop}
  (hQ : ∀ h', h'.Ns s.heap.objs.size (fun _ => none) -> (∀ b o, s.heap.get? b = some o -> h'.get? b = some o) -> (∀ x c, (x, c) ∈ cellsFrom (s.heap.objs.size + 1) scope.names [] -> h'.IsCell c none /\ s.heap.objs.size < c) ->
   ((cellsFrom (s.heap.objs.size + 1) scope.names []).Pairwise fun x y => x.2 ≠ y.2) ->
   Q { scope := scope, locals := s.heap.objs.size, globals := globals, cells := cellsFrom (s.heap.objs.size + 1) scope.names cl, qual := qual, func := none, code := env.code, frame := env.frame, builtins := env.builtins } { s with heap := h' }) :
  wpAny M A (newFunctionEnv scope globals cl [] qual none .none (some env)) Q E s := by
 simp only [newFunctionEnv, Option.isSome_some, if_true]
 refine wpAny_bind (wpAny_alloc ?_)
 refine wpAny_bind (wpAny_layCells _ (fun name kind cells => by cases hkc : kind == NameKind.cell <;> simp [hkc]) _ _ _ _ ?_)
 have ok := cellsFrom_ok scope.names (s.heap.push { cls := .type "dict", data := .dict #[] }) (s.heap.objs.size + 1) [] ⟨fun _ _ hm => (nomatch hm), List.Pairwise.nil⟩ (by rw [Heap.size_push]; exact Nat.le_refl _)
 rw [Heap.size_push] at ok
 rw [show ({ s with heap := s.heap.push { cls := .type "dict", data := .dict #[] } } : Shared).heap.objs.size = s.heap.objs.size + 1 from Heap.size_push ..]
 rw [List.forIn_nil]
 refine wpAny_bind (wpAny_pure (wpAny_pure ?_))
 exact hQ _ ((Heap.Ns.new s.heap (.type "dict")).keeps (pushCells_keeps _ _)) (fun b o e => pushCells_keeps _ _ b o (Heap.get?_push_of_some _ e)) (fun x c hm => ⟨(ok.empty x c hm).1, (ok.empty x c hm).2⟩) ok.apart
def cxComp (X : Cx) (N' : List Str) (scope : Scope) (s2 : Shared) (H2 : Hp) (fp : List Addr) : Cx :=
 { X with N := N', s₀ := s2, H₀ := H2, env := compEnv2 scope s2.heap.objs.size X.env, outer := X.stack, stack := X.stack, ex := fp, fn := fun x => scope.names.lookup x == some .cell, pn := [], xe := fun _ _ => False }
theorem lookup_relabel {env : Env} : ∀ {names : List (Str × NameKind)} {x : Str} {k : NameKind},
  (names.map fun (n, k) => if (k == NameKind.free && env.scope.kind == .function && env.kindOf n == some .cell) then (n, NameKind.cell) else (n, k)).lookup x = some k ->
  ∃ k0, names.lookup x = some k0 /\ (k = k0 \/ (k0 = .free /\ k = .cell))
 | [], _, _, h => by simp at h
 | (n, k0) :: r, x, k, h => by
  have ih := @lookup_relabel env r x k
  have h' : List.lookup x ((if (k0 == NameKind.free && env.scope.kind == .function && env.kindOf n == some .cell) = true then (n, NameKind.cell) else (n, k0)) :: _) = some k := h
  rw [List.lookup_cons]
  by_cases hc : (k0 == NameKind.free && env.scope.kind == .function && env.kindOf n == some .cell) = true
  ·rw [if_pos hc, List.lookup_cons] at h'
   cases hx : x == n with
   | true =>
    rw [hx] at h'; cases h'
    have : k0 = .free := by
     have z := hc
     rw [Bool.and_eq_true, Bool.and_eq_true] at z
     simpa using z.1.1
    exact ⟨k0, rfl, .inr ⟨this, rfl⟩⟩
   | false => rw [hx] at h'; exact ih h'
  ·rw [if_neg hc, List.lookup_cons] at h'
   cases hx : x == n with
   | true => rw [hx] at h'; cases h'; exact ⟨k0, rfl, .inl rfl⟩
   | false => rw [hx] at h'; exact ih h'
theorem lookup_relabel_of {env : Env} : ∀ {names : List (Str × NameKind)} {x : Str}, names.lookup x = some .free ->
  (names.map fun (n, k) => if (k == NameKind.free && env.scope.kind == .function && env.kindOf n == some .cell) then (n, NameKind.cell) else (n, k)).lookup x = some .cell \/
  (names.map fun (n, k) => if (k == NameKind.free && env.scope.kind == .function && env.kindOf n == some .cell) then (n, NameKind.cell) else (n, k)).lookup x = some .free
 | [], _, h => by simp at h
 | (n, k0) :: r, x, h => by
  have ih := @lookup_relabel_of env r x
  show List.lookup x ((if (k0 == NameKind.free && env.scope.kind == .function && env.kindOf n == some .cell) = true then (n, NameKind.cell) else (n, k0)) :: _) = _ \/ List.lookup x ((if (k0 == NameKind.free && env.scope.kind == .function && env.kindOf n == some .cell) = true then (n, NameKind.cell) else (n, k0)) :: _) = _
  rw [List.lookup_cons] at h
  cases hx : x == n with
  | true =>
   rw [hx] at h; cases h
   by_cases hc : (NameKind.free == NameKind.free && env.scope.kind == .function && env.kindOf n == some .cell) = true
   ·rw [if_pos hc, List.lookup_cons, hx]; exact .inl rfl
   ·rw [if_neg hc, List.lookup_cons, hx]; exact .inr rfl
  | false =>
   rw [hx] at h
   by_cases hc : (k0 == NameKind.free && env.scope.kind == .function && env.kindOf n == some .cell) = true
   ·rw [if_pos hc, List.lookup_cons, hx]; exact ih h
   ·rw [if_neg hc, List.lookup_cons, hx]; exact ih h
def pick (ixs : List (Option Nat)) (σ : St) : St := ixs.map fun o => o.bind fun i => (σ[i]?).join
section
variable {X : Cx} {pins : List (Addr × Obj)} {σ : St} {H : Hp} {s2 : Shared} {N' : List Str} {ixs : List (Option Nat)} {scope : Scope} {fp : List Addr} {h' : Heap}
theorem comp_free (I : Inv X pins σ H s2) (S : CompScope X.N X.env.scope N' ixs scope) {x : Str} (hx : (x, NameKind.free) ∈ scope.names) : ∃ c, X.env.cells.lookup x = some c :=
 I.ok.has x (S.free _ hx rfl)
theorem comp_cells (I : Inv X pins σ H s2) (S : CompScope X.N X.env.scope N' ixs scope) {n : Nat} {x : Str} {c : Addr} (h : (cellsFrom n scope.names (closL X.env.cells scope.names [])).lookup x = some c) :
  ((x, c) ∈ cellsFrom n scope.names [] /\ (x, NameKind.cell) ∈ scope.names) \/ ((x, NameKind.free) ∈ scope.names /\ X.env.cells.lookup x = some c) := by
 rw [cellsFrom_app, List.lookup_append] at h
 cases e : (cellsFrom n scope.names []).lookup x with
 | some d =>
  rw [e] at h
  have z : d = c := by simpa using h
  subst z
  have m := PySem.mem_of_lookup e
  rcases cellsFrom_mem _ _ _ _ _ m with z | z
  ·simp at z
  ·exact .inl ⟨m, z⟩
 | none =>
  rw [e] at h
  have h' : (closL X.env.cells scope.names []).lookup x = some c := by simpa using h
  rcases closL_lookup _ _ _ _ h' with z | ⟨z, e2⟩
  ·simp at z
  ·obtain ⟨c0, h0⟩ := comp_free I S z
   rw [h0] at e2
   exact .inr ⟨z, by rw [h0, e2]; rfl⟩
theorem inv_comp (I : Inv X pins σ H s2) (S : CompScope X.N X.env.scope N' ixs scope) (hfp : ∀ b ∈ fp, FpOk X pins H b) (hfo : ∀ b ∈ fp, ∃ o, s2.heap.get? b = some o)
  (hn : h'.Ns s2.heap.objs.size (fun _ => none)) (hk : ∀ b o, s2.heap.get? b = some o -> h'.get? b = some o)
  (hc : ∀ x c, (x, c) ∈ cellsFrom (s2.heap.objs.size + 1) scope.names [] -> h'.IsCell c none /\ s2.heap.objs.size < c) (hp : (cellsFrom (s2.heap.objs.size + 1) scope.names []).Pairwise fun x y => x.2 ≠ y.2) :
  Inv (cxComp X N' scope s2 H fp) [] (pick ixs σ) H { s2 with heap := h' } := by
 have old : ∀ {x : Str} {c : Addr}, X.env.cells.lookup x = some c -> c < s2.heap.objs.size := fun {x c} e => let ⟨_, q⟩ := I.cell x c e; q.lt
 have cc : ∀ {x : Str} {c : Addr}, (cxComp X N' scope s2 H fp).env.cells.lookup x = some c -> ((x, c) ∈ cellsFrom (s2.heap.objs.size + 1) scope.names [] /\ (x, NameKind.cell) ∈ scope.names) \/ ((x, NameKind.free) ∈ scope.names /\ X.env.cells.lookup x = some c) :=
  fun {x c} e => comp_cells I S e
 have isc : ∀ {x : Str} {c : Addr}, (cxComp X N' scope s2 H fp).env.cells.lookup x = some c -> ∃ v, h'.IsCell c v := fun {x c} e => by
  rcases cc e with ⟨m, _⟩ | ⟨_, e0⟩
  ·exact ⟨_, (hc x c m).1⟩
  ·obtain ⟨v, q⟩ := I.cell x c e0
   exact ⟨v, q.keeps hk⟩
 have flt : ∀ b ∈ fp, b < s2.heap.objs.size := fun b hb => let ⟨_, e⟩ := hfo b hb; Heap.lt_size e
 refine ⟨⟨I.ok.mod, S.kind, I.ok.glob, I.ok.blt, Nat.le_refl _, fun x y c e1 e2 => ?_, fun x hx => ?_, fun x c hx e => ?_, I.ok.hd, I.ok.frames, .inl rfl, fun b hb => ⟨Nat.ne_of_lt (flt b hb), fun x c e z => ?_⟩, I.bs, ?_, fun b o e hb => ?_, fun b hb hb2 => ?_, I.stack, I.stkFree⟩,
  rfl, I.bare, Un.kept hk, ⟨_, hn, fun j x v e1 e2 e3 => ?_⟩, fun x c e => isc e, I.hok.fresh (Nat.le_refl _), fun x c e => ?_, fun p hp => absurd (show p ∈ ([] : List (Addr × Obj)) from hp) (by simp), I.hok.kept hk, ?_⟩
 ·rcases cc e1 with ⟨m1, _⟩ | ⟨_, o1⟩ <;> rcases cc e2 with ⟨m2, _⟩ | ⟨_, o2⟩
  ·exact name_of_addr hp m1 m2
  ·exact absurd (Nat.lt_trans (hc _ _ m1).2 (old o2)) (Nat.lt_irrefl _)
  ·exact absurd (Nat.lt_trans (hc _ _ m2).2 (old o1)) (Nat.lt_irrefl _)
  ·exact I.ok.inj x y c o1 o2
 ·have hk0 : ∃ k0, scope.names.lookup x = some k0 /\ (k0 = .cell \/ k0 = .free) := by
   rcases hx with hx | hx
   ·obtain ⟨k0, e, z⟩ := lookup_relabel (env := X.env) hx
    refine ⟨k0, e, ?_⟩
    rcases z with z | z
    ·exact .inl z.symm
    ·exact .inr z.1
   ·obtain ⟨k0, e, z⟩ := lookup_relabel (env := X.env) hx
    refine ⟨k0, e, ?_⟩
    rcases z with z | z
    ·exact .inr z.symm
    ·exact .inr z.1
  obtain ⟨k0, e, z⟩ := hk0
  show ∃ c, (cellsFrom (s2.heap.objs.size + 1) scope.names (closL X.env.cells scope.names [])).lookup x = some c
  rw [cellsFrom_app, List.lookup_append]
  rcases z with rfl | rfl
  ·obtain ⟨c, hc'⟩ := cell_has (n := s2.heap.objs.size + 1) e
   exact ⟨c, by rw [hc']; rfl⟩
  ·cases q : (cellsFrom (s2.heap.objs.size + 1) scope.names []).lookup x with
   | some d => exact ⟨d, rfl⟩
   | none =>
    obtain ⟨c, hc'⟩ := closL_has (cells := X.env.cells) scope.names [] x (PySem.mem_of_lookup e)
    exact ⟨c, by rw [hc']; rfl⟩
 ·have hx' : scope.names.lookup x = some .cell := by simpa [cxComp] using hx
  rcases cc e with ⟨m, _⟩ | ⟨m, _⟩
  ·exact Nat.le_of_lt (hc _ _ m).2
  ·rw [lookup_of_mem S.keys m] at hx'; cases hx'
 ·rcases cc e with ⟨m, _⟩ | ⟨_, o1⟩
  ·have := flt b hb
   rw [<- z] at this
   exact absurd (Nat.lt_trans (hc _ _ m).2 this) (Nat.lt_irrefl _)
  ·exact (hfp b hb).2.2.2.2.1 x c o1 z
 ·exact Nat.le_trans I.ok.bsz I.sz
 ·rcases (hfp b hb).2.2.2.1 with z | z
  ·exact I.ok.noex b o e z
  ·exact absurd (Nat.lt_of_lt_of_le (Heap.lt_size (I.ok.bs b o e).1) z) (Nat.lt_irrefl _)
 ·have := I.stkSub b hb2
  rcases List.mem_cons.mp this with z | z
  ·exact (hfp b hb).2.1 z
  ·exact (hfp b hb).2.2.1 z
 ·-- the names around
  have e2' : (ixs[j]?).bind (fun o => some (o.bind fun i => (σ[i]?).join)) = some (some v) := by
   have e2a : (ixs.map fun o => o.bind fun i => (σ[i]?).join)[j]? = some (some v) := e2
   rw [List.getElem?_map] at e2a
   cases q : ixs[j]? with
   | none => rw [q] at e2a; cases e2a
   | some o => rw [q] at e2a; exact e2a
  cases q : ixs[j]? with
  | none => rw [q] at e2'; cases e2'
  | some o =>
   rw [q] at e2'
   cases o with
   | none => simp at e2'
   | some i =>
    have e3' : (σ[i]?).join = some v := by simpa using e2'
    have e4 : σ[i]? = some (some v) := by
     cases q2 : σ[i]? with
     | none => rw [q2] at e3'; cases e3'
     | some z => rw [q2] at e3'; rw [show z = some v from e3']
    obtain ⟨y, hy1, hy2, hy3⟩ := S.fv j i q
    have exy : x = y := by
     have e1' : N'[j]? = some x := e1
     rw [hy2] at e1'; exact (Option.some.inj e1').symm
    subst exy
    obtain ⟨m, hm, hl⟩ := I.loc
    have hf := S.free _ (PySem.mem_of_lookup hy3) rfl
    obtain ⟨u, r, lk⟩ := hl i x v hy1 e4 (by rcases hf with z | z; exact .inr (.inl z); exact .inr (.inr z))
    refine ⟨u, r, .inr ⟨lookup_relabel_of hy3, ?_⟩⟩
    rcases lk with ⟨k, _⟩ | ⟨_, c, ec, ic⟩
    ·have k' : X.env.scope.names.lookup x = some .local := k
     rcases hf with z | z <;> (rw [z] at k'; cases k')
    ·refine ⟨c, ?_, ic.keeps hk⟩
     show (cellsFrom (s2.heap.objs.size + 1) scope.names (closL X.env.cells scope.names [])).lookup x = some c
     rw [cellsFrom_app, List.lookup_append]
     cases q3 : (cellsFrom (s2.heap.objs.size + 1) scope.names []).lookup x with
     | some d =>
      rcases cellsFrom_mem _ _ _ _ _ (PySem.mem_of_lookup q3) with z | z
      ·simp at z
      ·rw [lookup_of_mem S.keys z] at hy3; cases hy3
     | none =>
      obtain ⟨c', hc'⟩ := closL_has (cells := X.env.cells) scope.names [] x (PySem.mem_of_lookup hy3)
      rcases closL_lookup _ _ _ _ hc' with z | ⟨_, e5⟩
      ·simp at z
      ·rw [ec] at e5
       rw [hc', e5]; rfl
 ·rcases cc e with ⟨m, _⟩ | ⟨_, o1⟩
  ·exact I.hok.fresh (Nat.le_of_lt (hc _ _ m).2)
  ·exact I.freeC x c o1
 ·show (ixs.map _).length = N'.length
  rw [List.length_map, S.len]
end
end L2
namespace L2
open PySem PySem.Spec PyProof.Rows
def PIfs (X : Cx) (ifs : List Expr) (t : TT) : Prop :=
 ∀ (pins : List (Addr × Obj)) (s : Shared) (σ : St) (H : Hp) (Q : Bool -> Hp -> Prop), Inv X pins σ H s -> t σ H Q ->
  wpAny (model X.prog X.w) X.A (forIn ifs true fun c r => if r = true then do let ok <- isTrue c X.env (eval c X.env); pure (ForInStep.yield ok) else pure (ForInStep.yield r)) (TP X pins σ Q) X.xe s
def tTrue : TT := fun _ H Q => Q true H
section
variable {X : Cx}
theorem pifs_nil : PIfs X [] tTrue := fun _ _ _ H _ I h => wpAny_tests_nil ⟨H, I, h⟩
theorem pifs_one {c : Expr} {t : TT} (h : PT X c t) : PIfs X [c] t := fun pins s σ H Q I hw => wpAny_tests_one (h pins s σ H Q I hw)
end
theorem codeAny_compLoop2 {prog : Program} {w : World} {A : Around} {R : Result -> Shared -> Prop} {s : Shared} {elt target iter : Expr} {ifs : List Expr} {scope : Scope} {pos : Pos} {it acc : Value} {env : Env} (I : Nat -> Shared -> Prop)
  (turn : ∀ n s, I n s -> wpAny (model prog w) A (pyNext it) (fun r s1 => match r with
   | none => R (.ok .next) s1
   | some v => wpAny (model prog w) A (letOwnedTupleGo target it v) (fun _ s2 => wpAny (model prog w) A (assign target env v) (fun _ s3 =>
     wpAny (model prog w) A (forIn ifs true fun c r => if r = true then do let ok <- isTrue c env (eval c env); pure (ForInStep.yield ok) else pure (ForInStep.yield r)) (fun ok s4 =>
      if ok = true then wpAny (model prog w) A (eval elt env) (fun x s5 =>
       wpAny (model prog w) A (call (.builtin "list.append") [acc, x]) (fun _ s6 => ∃ m, m < n /\ I m s6) (fun _ _ => False) s5) (fun _ _ => False) s4
      else ∃ m, m < n /\ I m s4) (fun _ _ => False) s3) (fun _ _ => False) s2) (fun _ _ => False) s1) (fun _ _ => False) s)
  (n : Nat) (h : I n s) :
  codeAny (model prog w) A (.compLoop (.ListComp elt [⟨target, iter, ifs, 0⟩] scope pos) 0 it acc env) R s := by
 refine codeAny_loop rfl I (fun n s hI => ?_) n h
 show wpAny _ A ((compTurn (.ListComp elt [⟨target, iter, ifs, 0⟩] scope pos) 0 it acc env).onRaise (fun x => do noteFrame x env; theTreesLotGoes x)) _ _ s
 refine wpAny_noted (wpAny_noRaise ?_)
 rw [compTurn_list]
 refine wpAny_bind (wpAny_standAt (wpAny_bind (thn (turn n s hI) fun r s1 h1 => ?_)))
 cases r with
 | none => exact wpAny_pure h1
 | some v =>
  refine wpAny_bind (thn h1 fun _ s2 h2 => wpAny_bind (thn h2 fun _ s3 h3 => wpAny_bind (thn h3 fun ok s4 h4 => ?_)))
  cases ok with
  | false => exact wpAny_pure ⟨rfl, h4⟩
  | true => exact wpAny_bind (wpAny_bind (thn h4 fun x s5 h5 => wpAny_bind (thn h5 fun _ s6 h6 => wpAny_pure (wpAny_pure ⟨rfl, h6⟩))))
def CompW (J : It) (g : TG) (ti : TT) (te : TE) (τ0 : St) (Q : VK) (p : Addr) (H1 : Hp) : Prop :=
 ∃ W : Nat -> Nat -> List V -> St -> Hp -> Prop, (∃ m, W 0 m [] τ0 (upd H1 p (.lst []))) /\ ∀ i m ys τ H2, W i m ys τ H2 -> H2 p = some (.lst ys) /\
  ((J.stop i H2 /\ Q (.ref p) H2) \/ (J.go i H2 /\ ∀ x H3, J.yld i H2 x H3 -> g x τ H3 fun τ4 H4 => ti τ4 H4 fun b H5 =>
   if b = true then te τ4 H5 fun y H6 => H6 p = some (.lst ys) /\ ys.length < sizeLine /\ ∃ m', m' < m /\ W (i + 1) m' (ys ++ [y]) τ4 (upd H6 p (.lst (ys ++ [y])))
   else ∃ m', m' < m /\ W (i + 1) m' ys τ4 H5))
def tComp (wi : TI) (ixs : List (Option Nat)) (g : TG) (ti : TT) (te : TE) : TE := fun σ H Q => wi σ H fun J H1 => ∀ p, H1 p = none -> CompW J g ti te (pick ixs σ) Q p H1
section
variable {X : Cx} {pins : List (Addr × Obj)} {σ : St} {H2 : Hp} {s2 : Shared} {N' : List Str} {ixs : List (Option Nat)} {scope : Scope} {tg elt iter : Expr} {ifs : List Expr} {pos : Pos}
def CompEnd (X : Cx) (pins : List (Addr × Obj)) (σ : St) (Q : VK) (acc : Value) (C : Addr) (s' : Shared) : Prop :=
 ∃ (p : Addr) (H' : Hp), acc = .ref p /\ Inv X pins σ H' s' /\ FpOk X pins H' C /\ (∃ m, s'.heap.Ns C m) /\ Q (.ref p) H'
theorem comp_core {J : It} {fp : List Addr} {it : Addr} {tn : Nat -> Heap -> Prop} {g : TG} {ti : TT} {te : TE} {Q : VK} {E : Value -> Shared -> Prop} {RR : Value -> Addr -> Result -> Shared -> Prop} (hc : X.calm = true) (S : CompScope X.N X.env.scope N' ixs scope)
  (I2 : Inv X pins σ H2 s2) (T : Turn X.prog X.w X.K tg J fp it tn) (st : tn 0 s2.heap) (hf : ∀ b ∈ fp, FpOk X pins H2 b)
  (hb : ∀ s H fp, PG (cxComp X N' scope s H fp) tg g /\ PIfs (cxComp X N' scope s H fp) ifs ti /\ PE (cxComp X N' scope s H fp) elt te)
  (hw : ∀ p, H2 p = none -> CompW J g ti te (pick ixs σ) Q p H2) (hR : ∀ acc C s', CompEnd X pins σ Q acc C s' -> RR acc C (.ok .next) s') :
  wpAny (model X.prog X.w) X.A (newList []) (fun acc s3 => wpAny (model X.prog X.w) X.A (newFunctionEnv scope X.env.globals (closL X.env.cells scope.names []) [] X.env.qual none .none (some X.env)) (fun cenv s4 =>
   codeAny (model X.prog X.w) X.A (.compStart (.ListComp elt [⟨tg, iter, ifs, 0⟩] scope pos) 0 (.ref it) acc { cenv with scope := relabel scope X.env }) (RR acc cenv.locals) s4) E s3) E s2 := by
 refine wpAny_newObj_type ?_
 have I3 : Inv X pins σ (upd H2 s2.heap.objs.size (.lst [])) { s2 with heap := s2.heap.push { cls := .type "list", data := .seq ([] : List Value).toArray } } :=
  I2.lnew (its := []) (t' := s2.toks) .nil (Nat.zero_le _)
 have hp := hw s2.heap.objs.size I2.fresh
 generalize e3 : ({ s2 with heap := s2.heap.push { cls := .type "list", data := .seq ([] : List Value).toArray } } : Shared) = s3 at I3 ⊢
 generalize eH : upd H2 s2.heap.objs.size (.lst []) = H3 at I3 hp
 have flt : ∀ b ∈ fp, b < s2.heap.objs.size := fun b hb => let ⟨_, e, _⟩ := T.obj _ _ st b hb; Heap.lt_size e
 have get3 : ∀ b o, s2.heap.get? b = some o -> s3.heap.get? b = some o := fun b o e => by rw [<- e3]; exact Heap.get?_push_of_some _ e
 have st3 : tn 0 s3.heap := T.keep _ _ _ st fun b _ o e => get3 b o e
 have hf3 : ∀ b ∈ fp, FpOk X pins H3 b := fun b hb => ⟨by rw [<- eH, upd_ne (Nat.ne_of_lt (flt b hb))]; exact (hf b hb).1, (hf b hb).2⟩
 have ho3 : ∀ b ∈ fp, ∃ o, s3.heap.get? b = some o := fun b hb => let ⟨o, e, _⟩ := T.obj _ _ st3 b hb; ⟨o, e⟩
 refine newEnv_comp fun h4 hn hk hcl hpw => ?_
 have I4 : Inv (cxComp X N' scope s3 H3 fp) [] (pick ixs σ) H3 { s3 with heap := h4 } := inv_comp I3 S hf3 ho3 hn hk hcl hpw
 have st4 : tn 0 ({ s3 with heap := h4 } : Shared).heap := T.keep _ _ _ st3 fun b _ o e => hk b o e
 obtain ⟨hG, hI, hE⟩ := hb s3 H3 fp
 obtain ⟨W, ⟨m0, w0⟩, turn⟩ := hp
 rw [eH] at w0
 have stat : ∀ {H' : Hp}, (∀ b ∈ fp, H' b = none) -> ∀ b ∈ fp, FpOk (cxComp X N' scope s3 H3 fp) [] H' b := fun hn b hb =>
  ⟨hn b hb, (I4.ok.exf b hb).1, I4.ok.exfs b hb, .inl hb, fun x c e => (I4.ok.exf b hb).2 x c e, fun p hp => absurd (show p ∈ ([] : List (Addr × Obj)) from hp) (by simp)⟩
 have loop : codeAny (model X.prog X.w) X.A (.compLoop (.ListComp elt [⟨tg, iter, ifs, 0⟩] scope pos) 0 (.ref it) (.ref s2.heap.objs.size) (compEnv2 scope s3.heap.objs.size X.env))
   (RR (.ref s2.heap.objs.size) s3.heap.objs.size) { s3 with heap := h4 } := by
  refine codeAny_compLoop2 (fun n s' => ∃ i ys τ H', Inv (cxComp X N' scope s3 H3 fp) [] τ H' s' /\ tn i s'.heap /\ (∀ b ∈ fp, H' b = none) /\ W i n ys τ H') ?_ m0 ⟨0, [], _, H3, I4, st4, fun b hb => (hf3 b hb).1, w0⟩
  rintro n s5 ⟨i, ys, τ, H5, I5, st5, fr5, w5⟩
  obtain ⟨hp5, w5⟩ := turn i n ys τ H5 w5
  rcases w5 with ⟨stop, qn⟩ | ⟨go, step⟩
  ·refine thn (T.done (cxComp X N' scope s3 H3 fp) rfl rfl rfl hc i [] s5 τ H5 _ I5 (stat fr5) st5 stop) fun r s6 ⟨hr, I6⟩ => ?_
   subst hr
   refine hR _ _ _ ⟨_, H5, rfl, ?_, ?_, ?_, qn⟩
   ·exact I3.call' (s' := s6) (ch := fp) I6.os I6.base I6.hok I6.bare fun b hb => ⟨(hf3 b hb).2.2.2.1, (hf3 b hb).2.1, (hf3 b hb).2.2.2.2.1, (hf3 b hb).2.2.2.2.2⟩
   ·exact I3.fpOk (Nat.le_refl _) I6.free
   ·obtain ⟨m, hm, _⟩ := I6.loc
    exact ⟨m, hm⟩
  ·refine thn (T.item (cxComp X N' scope s3 H3 fp) rfl rfl rfl hc i [] s5 τ H5 _ I5 (stat fr5) st5 go) fun r s6 ⟨u, hr, h6⟩ => ?_
   subst hr
   refine thn h6 fun _ s7 ⟨x, H7, I7, r7, y7, st7, fr7⟩ => ?_
   have I7' := I7.pinned (stat fr7) (T.obj _ _ st7)
   refine thn (hG _ s7 τ H7 x u _ I7' r7 (step x H7 y7)) fun _ s8 ⟨τ8, H8, I8, q8⟩ => ?_
   refine thn (hI _ s8 τ8 H8 _ I8 q8) fun b s9 ⟨H9, I9, q9⟩ => ?_
   have again : ∀ {τ' : St} {H' : Hp} {s' : Shared} {ys' : List V} {m' : Nat}, Inv (cxComp X N' scope s3 H3 fp) ([] ++ pinsAt fp s7.heap) τ' H' s' -> m' < n -> W (i + 1) m' ys' τ' H' ->
     ∃ m, m < n /\ ∃ i ys τ H', Inv (cxComp X N' scope s3 H3 fp) [] τ H' s' /\ tn i s'.heap /\ (∀ b ∈ fp, H' b = none) /\ W i m ys τ H' := fun {τ' H' s' ys' m'} I' hm w' => by
    refine ⟨m', hm, i + 1, ys', τ', H', I'.unpinned, T.keep _ _ _ st7 fun b hb o e => (I'.pin (b, o) (List.mem_append_right _ (List.mem_append_right _ (mem_pinsAt hb e)))).1, fun b hb => ?_, w'⟩
    obtain ⟨o, e, d⟩ := T.obj _ _ st7 b hb
    exact (I'.pin (b, o) (List.mem_append_right _ (List.mem_append_right _ (mem_pinsAt hb e)))).2.1
   cases b with
   | false =>
    obtain ⟨m', hm, w'⟩ := q9
    exact again I9 hm w'
   | true =>
    refine thn (hE _ s9 τ8 H9 _ I9 q9) fun y s10 ⟨z, H10, I10, r10, hp10, hz10, m', hm, w'⟩ => ?_
    refine thn (mt_append _ s10 τ8 H10 (.ref s2.heap.objs.size) [z] (.ref s2.heap.objs.size) [y] (fun _ H' => H' = upd H10 s2.heap.objs.size (.lst (ys ++ [z]))) I10 rfl (.cons r10 .nil) ⟨_, _, _, rfl, rfl, hp10, hz10, rfl⟩) fun _ s11 ⟨_, H11, I11, _, e11⟩ => ?_
    subst e11
    exact again I11 hm w'
 exact codeAny_compStart_list loop (T.self X.A 0 _ _ _ st4 loop)
theorem pe_comp {wi : TI} {g : TG} {ti : TT} {te : TE} (hc : X.calm = true) (S : CompScope X.N X.env.scope N' ixs scope) (hi : PI X tg iter wi)
  (hb : ∀ s H fp, PG (cxComp X N' scope s H fp) tg g /\ PIfs (cxComp X N' scope s H fp) ifs ti /\ PE (cxComp X N' scope s H fp) elt te)
  (hs : ∀ x, foldedSetIterable iter X.env x = pure x := by intro _; rfl) : PE X (.ListComp elt [⟨tg, iter, ifs, 0⟩] scope pos) (tComp wi ixs g ti te) := by
 intro pins s σ H Q I h
 rw [eval_ListComp]
 refine wpAny_comprehension_free (use := none) rfl hs (closureFor_eq fun n hn => comp_free I S hn) S.kind (fun x hx hl => lookup_of_mem S.keys (by rw [<- hl]; exact hx)) ?_
 refine thn (hi pins s σ H _ I h) fun v s1 h1 => thn h1 fun itv s2 h2 => ?_
 obtain ⟨it, fp, tn, J, H2, e, I2, T, st2, f2, hw⟩ := h2
 subst e
 refine comp_core (RR := fun acc C => compPost (model X.prog X.w) X.A X.xe none (EP X pins σ Q) acc C) hc S I2 T st2 f2 hb hw ?_
 rintro acc C s' ⟨p, H', rfl, I', fC, ⟨m, hm⟩, q⟩
 refine ⟨m, hm, fun h' hs' => ⟨.ref p, H', ?_, rfl, q⟩⟩
 exact I'.turned (it := C) (t' := s'.toks) (fun b o hb e => (hs'.2 b hb).trans e) fC.1 fC.2.1 fC.2.2.2.1 fC.2.2.2.2.1 fC.2.2.2.2.2
theorem ps_setComp {wi : TI} {g : TG} {ti : TT} {te : TE} {i : Nat} {x : Str} {pos' spos : Pos} (hc : X.calm = true) (S : CompScope X.N X.env.scope N' ixs scope) (hN : X.N.Nodup) (hx : X.N[i]? = some x) (hl : X.env.scope.names.lookup x = some .local) (hi : PI X tg iter wi)
  (hb : ∀ s H fp, PG (cxComp X N' scope s H fp) tg g /\ PIfs (cxComp X N' scope s H fp) ifs ti /\ PE (cxComp X N' scope s H fp) elt te)
  (hsw : swapsWith (.ListComp elt [⟨tg, iter, ifs, 0⟩] scope pos) (some (.Name x pos')) spos.line X.env = pure true := by rfl)
  (hs : ∀ x, foldedSetIterable iter X.env x = pure x := by intro _; rfl) : PS X (.Assign [.Name x pos'] (.ListComp elt [⟨tg, iter, ifs, 0⟩] scope pos) spos) (tAsg (tComp wi ixs g ti te) (gName i)) := by
 intro pins s σ H D I h
 rw [exec_Assign_Name_used _ _ _ _ hsw]
 refine wpAny_bind (wpAny_standAt (wpAny_bind ?_))
 show wpAny _ X.A (do let _ <- comprehension (.ListComp elt [⟨tg, iter, ifs, 0⟩] scope pos) scope X.env _ (newList []) false (eval iter X.env) (some (assign (.Name x pos') X.env))) _ _ s
 refine wpAny_bind (thn (wpAny_comprehension_free (use := some (assign (.Name x pos') X.env)) (Q := fun _ s' => SP X pins D .next s') rfl hs (closureFor_eq fun n hn => comp_free I S hn) S.kind (fun x hx hl => lookup_of_mem S.keys (by rw [<- hl]; exact hx)) ?_) fun _ s' hq => wpAny_pure (wpAny_pure hq))
 refine thn (hi pins s σ H _ I h) fun v s1 h1 => thn h1 fun itv s2 h2 => ?_
 obtain ⟨it, fp, tn, J, H2, e, I2, T, st2, f2, hw⟩ := h2
 subst e
 refine comp_core (Q := fun v H' => D.nx (σ.set i (some v)) H') (RR := fun acc C => compPost (model X.prog X.w) X.A X.xe (some (assign (.Name x pos') X.env)) (fun _ s' => SP X pins D .next s') acc C) hc S I2 T st2 f2 hb hw ?_
 rintro acc C s' ⟨p, H', rfl, I', fC, ⟨m, hm⟩, q⟩
 show wpAny (model X.prog X.w) X.A (assign (.Name x pos') X.env (.ref p)) _ _ s'
 refine wpAny_assign_Name (store_ok2 (v := .ref p) I' hN hx (.inl hl) rfl (fun s'' I'' ⟨a, hsb, ha⟩ => ?_) (.inr hl))
 have hCa : C ≠ a := by
  rcases ha with ha | ha
  ·rw [ha]; exact fC.2.1
  ·exact fun z => fC.2.2.2.2.1 _ _ ha z.symm
 refine ⟨m, hm.sameBut hsb hCa, fun h' hs' => ⟨_, H', ?_, q⟩⟩
 exact I''.turned (it := C) (t' := s''.toks) (fun b o hb e => (hs'.2 b hb).trans e) fC.1 fC.2.1 fC.2.2.2.1 fC.2.2.2.2.1 fC.2.2.2.2.2
end
end L2
namespace L2
open PySem PySem.Spec PyProof.Rows PySem.W PySem.Builtin.ObjectAttr
abbrev bmV : List Value := [.type "ValueError", .type "Exception", .type "BaseException", .type "object"]
def excInI (K : Frag) (C : Addr) (i : Option Value) : Bool :=
  match K.lookup C with
  | some ⟨.type "type", _, .cls cls, slots⟩ =>
    (match cls.mro, slots.toList with
     | .ref C' :: up, [_, _, _, _, some (.builtin n), _] => C' == C && (n == "ValueError.__new__" && (!cls.hasDel && (tailIn K bmV up && (nsOkIn K cls.ns && nsIn K cls.ns "__init__" == some i))))
     | _, _ => false)
  | _ => false
def overE : List Value -> Bool
 | .ref _ :: r => overE r
 | l => l == bmV
structure XCls (K : Frag) (C : Addr) : Prop where
 ga : findIn K (.ref C) "__getattribute__" = some (some (.builtin "BaseException.__getattribute__"))
 gh : findIn K (.ref C) "__getattr__" = some none
 sa : findIn K (.ref C) "__setattr__" = some (some (.builtin "object.__setattr__"))
 hd : hasDictIn K C = true
 ov : ((clsIn K C).any fun cd => overE cd.mro) = true
 be : mroIn K C (.type "BaseException") = some true
 ve : mroIn K C (.type "ValueError") = some true
 ob : mroIn K C (.type "object") = some true
 ka : findIn K (.ref C) "__class__" = some (some (.builtin "object.__class__"))
 kn : specialIn K (.builtin "object.__class__") "__get__" = some (some (.builtin "getset_descriptor.__get__"))
 kt : takesIn K (.builtin "object.__class__") = some true
section
variable {prog : Program} {w : World} {A : Around} {E : Value -> Shared -> Prop} {s : Shared} {K : Frag} {x C : Addr} {ox : Obj} {od : Option Obj} {name : Str}
theorem exc_getBy {tk : Tok} {fill expr : Bool} {Q : Value -> Shared -> Prop} (X : K.In s.heap) (I : InstAt s.heap x ox C od) (c : XCls K C)
  (h : wpAny (model prog w) A.in1 (Builtin.«object.__getattribute__» ⟨[.ref x, .str name tk], []⟩) (fun fin s' => match fin with | .done (.ret v) => wpAny (model prog w) A (handedOut v) Q E s' | _ => False) (fun _ _ => False) s) :
  wpAny (model prog w) A (getAttrBy (.ref x) (.str name tk) fill expr) Q E s := by
 have L0 := I.type (M := model prog w)
 have L1 := looks_findIn (M := model prog w) X c.ga
 have L2 := looks_findIn (M := model prog w) X c.gh
 have sub : Looks (model prog w) s.heap (isInstance (.ref x) (.type "BaseException")) true := I.type.andThen (looks_mroIn X c.be)
 have hx2 : (Value.builtin "BaseException.__getattribute__" == Value.builtin "object.__getattribute__") = false := by decide +kernel
 have hx1 : (onTheHeap (Value.ref C) && Value.builtin "BaseException.__getattribute__" == Value.builtin "object.__getattribute__") = false := by rw [hx2]; rfl
 have hk : builtinKind "BaseException.__getattribute__" = some .slot := by decide +kernel
 have hsplit : splitId "BaseException.__getattribute__" = some ("BaseException", "__getattribute__") := by decide +kernel
 unfold getAttrBy
 refine wpAny_holding (wpAny_bind (L0.here (wpAny_bind (L1.here ?_))))
 dsimp only
 rw [hx1]
 show wpAny _ _ (getAttrByItsOwn _ _ _ _ _ _) _ _ _
 unfold getAttrByItsOwn hookBefore
 refine wpAny_bind ?_
 rw [if_pos (show onTheHeap (Value.ref C) = true from rfl)]
 refine L2.here (wpAny_bind (wpAny_attempt (wpAny_holding ?_)))
 unfold callGetattribute
 rw [if_neg (show ¬ (expr && onTheHeap (Value.builtin "BaseException.__getattribute__")) = true by cases expr <;> decide)]
 unfold boundAndCalled
 rw [PySem.F.attrBase_ValueError.ga.bind]
 refine wpAny_bind (wpAny_pure (wpAny_call (codeAny_call_builtin PySem.F.attrBase_ValueError.ga.plain PySem.F.entry_bexc_ga (@check_slot (model prog w) _ _ s "BaseException.__getattribute__" "BaseException" "__getattribute__" (.ref x) [.str name tk] [] _ hk hsplit sub (PySem.F.args_bexc_ga _ _) ?_))))
 refine wpAny_mono h (fun fin s' z => ?_) fun _ _ z => z.elim
 rcases fin with (_ | _ | _ | _) | _ <;> first | exact z | exact z.elim
theorem exc_class {Q : Option Value -> Shared -> Prop} (X : K.In s.heap) (I : InstAt s.heap x ox C od) (c : XCls K C) (h : Q (some (.ref C)) { s with toks := s.toks + 1 }) : wpAny (model prog w) A (getAttr? (.ref x) "__class__") Q E s := by
 have hf : findObj K C od "__class__" = some (.bind (.builtin "getset_descriptor.__get__") (.builtin "object.__class__")) := by
  obtain ⟨cd, hc, _⟩ := any_some c.hd
  unfold findObj
  rw [hc, Option.bind_some, c.ka, Option.bind_some]
  dsimp only
  rw [c.kn, Option.bind_some]
  dsimp only
  rw [c.kt, Option.bind_some]
 unfold getAttr? getAttrBy?
 refine wpAny_bind (wpAny_mkText (wpAny_bind (wpAny_attempt ?_)))
 have L0 := I.type (M := model prog w)
 have L1 := looks_find (M := model prog w) X I hf
 refine exc_getBy (s := { s with toks := s.toks + 1 }) X I c ?_
 refine wpAny_bind (wpAny_pure (wpAny_bind (wpAny_pure (wpAny_bind (Looks.here (s := { s with toks := s.toks + 1 }) L0 (wpAny_bind (Looks.here (s := { s with toks := s.toks + 1 }) L1 ?_)))))))
 show wpAny _ _ (holding [.builtin "object.__class__"] (call (.builtin "getset_descriptor.__get__") [.builtin "object.__class__", .ref x, .ref C]) >>= ret) _ _ _
 refine wpAny_bind (wpAny_holding (wpAny_call (class_get (s := { s with toks := s.toks + 1 }) (ox := ox) (od := od) X I c.ob ?_)))
 exact wpAny_pure (handed_on rfl (wpAny_pure h))
theorem cls_isType {M : Model} {h : Heap} (X : K.In h) (c : XCls K C) : Looks M h (isType (.ref C)) true := by
 obtain ⟨cls, ic, _⟩ := any_some c.hd
 unfold clsIn at ic
 split at ic
 next at_ =>
  intro A' Q' E' s' k q
  exact wpAny_bind (wpAny_loadPart (part := some headPart) (k _ _ (X _ _ at_)) (wpAny_pure q))
 next => cases ic
theorem kitx_exc (c : XCls K C) : KitX K (.ref x) (.ref C) (fun h => InstAt h x ox C od) where
 ty := fun _ _ _ I => I.type
 it := fun _ _ X _ => cls_isType X c
 ne := fun h tp _ _ _ _ X tup => by
  obtain ⟨cls, ic, _⟩ := any_some c.hd
  cases q : (Value.ref C == .ref tp) with
  | false => rfl
  | true =>
   have e : C = tp := Value.ref.inj (beq_iff_eq.mp q)
   unfold clsIn at ic
   split at ic
   next at_ =>
    have two := (X _ _ at_).symm
    rw [e, tup] at two
    cases two
   next => cases ic
 ca := fun X I k => exc_class X I c k
end
end L2
namespace L2
open PySem PySem.Spec PyProof.Rows PySem.W PySem.Builtin.ObjectAttr
def ExcO (C : Addr) (dx : Option Addr) (a : Addr) : HO := .ext fun h => ∃ t, h.get? a = some { cls := .ref C, dict := dx, data := .fields #[.ref t, .none, .none, .none, .bool false, .none] }
def ExcD (d : Addr) (fs : List (Str × V)) : HO := .ext fun h => fs.length <= 100 /\ ∃ mA, h.Ns1 d mA /\ (∀ f, RelO (fs.lookup f) (mA f)) /\ PySem.Within mA (fs.map (·.1))
section
variable {X : Cx} {pins : List (Addr × Obj)} {σ : St} {H : Hp} {s : Shared} {A : Around} {E : Value -> Shared -> Prop} {a d C : Addr} {dx : Option Addr} {fs : List (Str × V)} {f : Str}
theorem Inv.excAt (I : Inv X pins σ H s) (e : H a = some (ExcO C dx a)) : ∃ t, s.heap.get? a = some { cls := .ref C, dict := dx, data := .fields #[.ref t, .none, .none, .none, .bool false, .none] } := (I.hok a _ e).1
theorem Inv.excDict (I : Inv X pins σ H s) (e : H d = some (ExcD d fs)) : fs.length <= 100 /\ ∃ mA, s.heap.Ns1 d mA /\ (∀ f, RelO (fs.lookup f) (mA f)) /\ PySem.Within mA (fs.map (·.1)) := (I.hok d _ e).1
end
end L2
namespace L2
open PySem PySem.Spec PyProof.Rows PySem.W
mutual
inductive Rep (H : Hp) : V -> PyData -> Prop where
 | non : Rep H .non .none
 | bl (b : Bool) : Rep H (.bl b) (.bool b)
 | int (i : Int) : Rep H (.int i) (.int i)
 | str (x : Str) : Rep H (.str x) (.str x)
 | lst {a : Addr} {xs : List V} {ds : List PyData} : H a = some (.lst xs) -> RepAll H xs ds -> Rep H (.ref a) (.list ds)
 | tup {a : Addr} {xs : List V} {ds : List PyData} : H a = some (.tup xs) -> RepAll H xs ds -> Rep H (.ref a) (.tuple ds)
inductive RepAll (H : Hp) : List V -> List PyData -> Prop where
 | nil : RepAll H [] []
 | cons {x : V} {d : PyData} {xs : List V} {ds : List PyData} : Rep H x d -> RepAll H xs ds -> RepAll H (x :: xs) (d :: ds)
end
section
variable {X : Cx} {pins : List (Addr × Obj)} {σ : St} {H H' : Hp} {s : Shared}
mutual
theorem Rep.reads (I : Inv X pins σ H s) : ∀ {v : V} {d : PyData} {u : Value}, Rep H v d -> RelV v u -> ∃ as, Reads s.heap u d as
 | _, _, _, .non, r => by cases r; exact ⟨_, .none⟩
 | _, _, _, .bl b, r => by cases r; exact ⟨_, .bool b⟩
 | _, _, _, .int i, r => by obtain ⟨t, rfl⟩ := r; exact ⟨_, .int i t⟩
 | _, _, _, .str x, r => by obtain ⟨t, rfl⟩ := r; exact ⟨_, .str x t⟩
 | _, _, _, .lst (a := a) (xs := xs) e rs, r => by
  cases r
  obtain ⟨_, its, n, rv, at_⟩ := (show ObjOk X.prog X.w H s.heap a (.lst xs) from I.hok a _ e)
  obtain ⟨as, ra⟩ := RepAll.reads I rs rv
  exact ⟨_, .list at_ rfl rfl ra⟩
 | _, _, _, .tup (a := a) (xs := xs) e rs, r => by
  cases r
  obtain ⟨_, its, rv, ob, at_, hc, n, hd, _⟩ := (show ObjOk X.prog X.w H s.heap a (.tup xs) from I.hok a _ e)
  obtain ⟨as, ra⟩ := RepAll.reads I rs rv
  exact ⟨_, .tuple at_ hc hd ra⟩
theorem RepAll.reads (I : Inv X pins σ H s) : ∀ {vs : List V} {ds : List PyData} {us : List Value}, RepAll H vs ds -> Vals vs us -> ∃ as, ReadsAll s.heap us ds as
 | _, _, _, .nil, r => by cases r; exact ⟨_, .nil⟩
 | _, _, _, .cons r rs, rv => by
  cases rv with
  | cons q qs =>
   obtain ⟨as, h1⟩ := Rep.reads I r q
   obtain ⟨bs, h2⟩ := RepAll.reads I rs qs
   exact ⟨_, .cons h1 h2⟩
end
mutual
theorem Rep.same : ∀ {v : V} {d : PyData}, Rep H v d -> Same H H' -> Rep H' v d
 | _, _, .non, _ => .non
 | _, _, .bl b, _ => .bl b
 | _, _, .int i, _ => .int i
 | _, _, .str x, _ => .str x
 | _, _, .lst e rs, k => .lst (k _ _ e) (RepAll.same rs k)
 | _, _, .tup e rs, k => .tup (k _ _ e) (RepAll.same rs k)
theorem RepAll.same : ∀ {vs : List V} {ds : List PyData}, RepAll H vs ds -> Same H H' -> RepAll H' vs ds
 | _, _, .nil, _ => .nil
 | _, _, .cons r rs, k => .cons (Rep.same r k) (RepAll.same rs k)
end
end
section
variable {X : Cx}
def rEqD : R2 := fun x y H Q => ∃ da db, Rep H x da /\ Rep H y db /\ da.canLay0 = true /\ db.canLay0 = true /\ da.depth <= 60 /\ Q (.bl (PyData.eqv da db)) H
theorem op_eqD (hu : X.A.units + 64 < cLine) : OpR X (compareOp .Eq) rEqD := by
 intro pins s σ H x y v u Q I rx ry h
 obtain ⟨da, db, r1, r2, l1, l2, dp, q⟩ := h
 obtain ⟨as, h1⟩ := r1.reads I rx
 obtain ⟨bs, h2⟩ := r2.reads I ry
 exact SeqAt.compareEq_reads h1 h2 l1 l2 (by omega) ⟨.bl _, H, I, rfl, q⟩
end
end L2
namespace L2
open PySem PySem.Spec PyProof.Rows PySem.W
section
variable {X : Cx} {o value e : Expr} {f : Str} {pos pos' : Pos} {ta tv : TE}
def rIsi (K : Frag) : List V -> Hp -> VK -> Prop := fun xs H Q => ∃ x c t cv b, xs = [x, c] /\ RelV c cv /\ (TyOf K H x t \/ ∃ a C dx, x = .ref a /\ t = .ref C /\ H a = some (ExcO C dx a) /\ XCls K C /\ (∀ d, dx = some d -> ∃ fs, H d = some (ExcD d fs))) /\ kitOne K t cv = some b /\ Q (.bl b) H
theorem call_isi : CallR X (.builtin "isinstance") (fun xs H Q => (∃ x, (∃ C, xs = [x, .ref C]) \/ (∃ T, xs = [x, .ty T])) /\ rIsi X.K xs H Q) := by
 intro pins s σ H xs us Q I r h
 obtain ⟨hx, x, c, t, cv, b, rfl, rc, ty, e, q⟩ := h
 obtain ⟨u, w', rfl, ru, rw'⟩ := r.two
 have ecv : w' = cv := by
  obtain ⟨x', ⟨C, z⟩ | ⟨T, z⟩⟩ := hx
  ·cases z; cases rc; cases rw'; rfl
  ·cases z; cases rc; cases rw'; rfl
 subst ecv
 rcases ty with ty | ⟨a, C, dx, rfl, rfl, ea, c, hd⟩
 ·exact isinst_ok I ru ty e fun tk => ⟨.bl b, H, I.tok _, rfl, q⟩
 ·cases ru
  obtain ⟨t, at_⟩ := I.excAt ea
  cases dx with
  | none =>
   have J : InstAt s.heap a _ C none := ⟨at_, rfl, rfl, True.intro⟩
   exact kia_one (kitx_exc c) I.kIn J e (fun z => nomatch z) fun tk => ⟨.bl b, H, I.tok _, rfl, q⟩
  | some d =>
   obtain ⟨fs, ed⟩ := hd d rfl
   obtain ⟨_, mA, n, _⟩ := I.excDict ed
   obtain ⟨od, hod, _⟩ := lookIn_ns n
   have J : InstAt s.heap a _ C (some od) := ⟨at_, rfl, rfl, hod⟩
   exact kia_one (kitx_exc c) I.kIn J e (fun z => nomatch z) fun tk => ⟨.bl b, H, I.tok _, rfl, q⟩
end
end L2
namespace L2
open PySem PySem.Spec PyProof.Rows PySem.W
section
variable {X : Cx}
theorem strsAre_of : ∀ {ys : List Str} {us : List Value}, Vals (ys.map V.str) us -> StrsAre us ys := by
 intro ys
 induction ys with
 | nil => intro us r; cases r; exact .nil
 | cons y ys ih =>
  intro us r
  cases r with
  | cons q qs =>
   obtain ⟨t, rfl⟩ := q
   exact .cons _ _ (ih qs)
def rJoin (K : Frag) : V -> List V -> Hp -> VK -> Prop := fun x vs H Q => ∃ (z : Str) (p : Addr) (ys : List Str), x = .str z /\ vs = [.ref p] /\ (SqL K H p (ys.map V.str) \/ SqT K H p (ys.map V.str)) /\ (ys.map (·.length)).sum + ys.length * z.length <= 1000000 /\ Q (.str (Txt.join z ys)) H
theorem mt_join : MtR X "str.join" (rJoin X.K) := by
 intro pins s σ H x xs v us Q I rx rv h
 obtain ⟨z, p, ys, rfl, rfl, hp, hz, q⟩ := h
 obtain ⟨t, rfl⟩ := rx
 obtain ⟨u, rfl, ru⟩ := rv.one
 cases ru
 rcases hp with hp | hp
 ·obtain ⟨its, r, pl, _⟩ := I.list hp
  exact join_list pl.isList (by simpa using strsAre_of r) (by omega) fun t' k => ⟨.str _, H, I.tok _, ⟨_, rfl⟩, q⟩
 ·obtain ⟨its, r, pl, _⟩ := I.tuple hp
  exact join_tuple pl (by simpa using strsAre_of r) (by omega) fun t' k => ⟨.str _, H, I.tok _, ⟨_, rfl⟩, q⟩
def rSlS : V -> Option Int -> Option Int -> Hp -> VK -> Prop := fun x lo hi H Q => ∃ z : Str, x = .str z /\ z.length <= 1000000 /\ Q (.str (Txt.slice z lo hi)) H
theorem sl_str : SlR X rSlS := by
 intro pins s σ H x v vl vu lo hi sl Q I rx hs pl pu h
 obtain ⟨z, rfl, hz, q⟩ := h
 obtain ⟨t, rfl⟩ := rx
 have fz : (Txt.slice z lo hi).length <= sizeLine := Nat.le_trans (Txt.slice_le z _ _) (by rw [sizeLine_eq]; omega)
 refine ⟨"str", _, PySem.F.slot_str_getitem.lookup, typeIs_str _ _ _, ?_⟩
 cases pl with
 | none =>
  cases pu with
  | none => exact wpAny_getItem_str_slice (l := none) (u := none) (st := none) hs rfl (post_val_or_str ⟨fz, fun t' k => ⟨.str _, H, I.tok _, ⟨_, rfl⟩, q⟩⟩)
  | int j tj => exact wpAny_getItem_str_slice (l := none) (u := some (j, tj)) (st := none) hs rfl (post_val_or_str ⟨fz, fun t' k => ⟨.str _, H, I.tok _, ⟨_, rfl⟩, q⟩⟩)
 | int i ti =>
  cases pu with
  | none => exact wpAny_getItem_str_slice (l := some (i, ti)) (u := none) (st := none) hs rfl (post_val_or_str ⟨fz, fun t' k => ⟨.str _, H, I.tok _, ⟨_, rfl⟩, q⟩⟩)
  | int j tj => exact wpAny_getItem_str_slice (l := some (i, ti)) (u := some (j, tj)) (st := none) hs rfl (post_val_or_str ⟨fz, fun t' k => ⟨.str _, H, I.tok _, ⟨_, rfl⟩, q⟩⟩)
end
def CW (Pv : Nat -> List V -> St -> Hp -> Prop) (n i m : Nat) (ys : List V) (τ : St) (H : Hp) : Prop := m = n - i /\ i <= n /\ Pv i ys τ H
theorem cw_next {Pv : Nat -> List V -> St -> Hp -> Prop} {n i : Nat} {ys : List V} {τ : St} {H : Hp} (h : i < n) (p : Pv (i + 1) ys τ H) : ∃ m', m' < n - i /\ CW Pv n (i + 1) m' ys τ H := ⟨n - (i + 1), by omega, rfl, h, p⟩
theorem comp_range {lo : Int} {n : Nat} {g : TG} {ti : TT} {te : TE} {τ0 : St} {Q : VK} {p : Addr} {H1 : Hp} (Pv : Nat -> List V -> St -> Hp -> Prop) (h0 : Pv 0 [] τ0 (upd H1 p (.lst []))) (hl : ∀ i ys τ H, Pv i ys τ H -> H p = some (.lst ys))
  (hs : ∀ i ys τ H, i < n -> Pv i ys τ H -> g (.int (lo + i)) τ H fun τ4 H4 => ti τ4 H4 fun b H5 => if b = true then te τ4 H5 fun y H6 => H6 p = some (.lst ys) /\ ys.length < sizeLine /\ ∃ m', m' < n - i /\ CW Pv n (i + 1) m' (ys ++ [y]) τ4 (upd H6 p (.lst (ys ++ [y]))) else ∃ m', m' < n - i /\ CW Pv n (i + 1) m' ys τ4 H5)
  (hd : ∀ ys τ H, Pv n ys τ H -> Q (.ref p) H) : CompW (Itr lo n) g ti te τ0 Q p H1 := by
 refine ⟨CW Pv n, ⟨n, by simp, Nat.zero_le _, h0⟩, ?_⟩
 rintro i m ys τ H ⟨rfl, hi, pv⟩
 refine ⟨hl i ys τ H pv, ?_⟩
 by_cases hlt : i < n
 ·refine .inr ⟨hlt, fun x H3 y3 => ?_⟩
  obtain ⟨e3, ex⟩ := y3
  subst e3 ex
  exact hs i ys τ _ hlt pv
 ·have e : i = n := by omega
  subst e
  exact .inl ⟨Nat.le_refl _, hd ys τ H pv⟩
theorem comp_list {K : Frag} {a : Addr} {xs : List V} {g : TG} {ti : TT} {te : TE} {τ0 : St} {Q : VK} {p : Addr} {H1 : Hp} (Pv : Nat -> List V -> St -> Hp -> Prop) (h0 : Pv 0 [] τ0 (upd H1 p (.lst []))) (hl : ∀ i ys τ H, Pv i ys τ H -> H p = some (.lst ys) /\ SqL K H a xs)
  (hs : ∀ i x ys τ H, xs[i]? = some x -> Pv i ys τ H -> g x τ H fun τ4 H4 => ti τ4 H4 fun b H5 => if b = true then te τ4 H5 fun y H6 => H6 p = some (.lst ys) /\ ys.length < sizeLine /\ ∃ m', m' < xs.length - i /\ CW Pv xs.length (i + 1) m' (ys ++ [y]) τ4 (upd H6 p (.lst (ys ++ [y]))) else ∃ m', m' < xs.length - i /\ CW Pv xs.length (i + 1) m' ys τ4 H5)
  (hd : ∀ ys τ H, Pv xs.length ys τ H -> Q (.ref p) H) : CompW (Itl K a) g ti te τ0 Q p H1 := by
 refine ⟨CW Pv xs.length, ⟨xs.length, by simp, Nat.zero_le _, h0⟩, ?_⟩
 rintro i m ys τ H ⟨rfl, hi, pv⟩
 obtain ⟨hp, hq⟩ := hl i ys τ H pv
 refine ⟨hp, ?_⟩
 by_cases hlt : i < xs.length
 ·refine .inr ⟨⟨xs, xs[i], hq, by simp [hlt]⟩, fun x H3 y3 => ?_⟩
  obtain ⟨e3, ex⟩ := y3
  subst e3
  exact hs i x ys τ _ (ex xs hq) pv
 ·have e : i = xs.length := by omega
  subst e
  exact .inl ⟨⟨xs, hq, Nat.le_refl _⟩, hd ys τ H pv⟩
theorem comp_tup {K : Frag} {a : Addr} {xs : List V} {g : TG} {ti : TT} {te : TE} {τ0 : St} {Q : VK} {p : Addr} {H1 : Hp} (Pv : Nat -> List V -> St -> Hp -> Prop) (h0 : Pv 0 [] τ0 (upd H1 p (.lst []))) (hl : ∀ i ys τ H, Pv i ys τ H -> H p = some (.lst ys) /\ SqT K H a xs)
  (hs : ∀ i x ys τ H, xs[i]? = some x -> Pv i ys τ H -> g x τ H fun τ4 H4 => ti τ4 H4 fun b H5 => if b = true then te τ4 H5 fun y H6 => H6 p = some (.lst ys) /\ ys.length < sizeLine /\ ∃ m', m' < xs.length - i /\ CW Pv xs.length (i + 1) m' (ys ++ [y]) τ4 (upd H6 p (.lst (ys ++ [y]))) else ∃ m', m' < xs.length - i /\ CW Pv xs.length (i + 1) m' ys τ4 H5)
  (hd : ∀ ys τ H, Pv xs.length ys τ H -> Q (.ref p) H) : CompW (Itt K a) g ti te τ0 Q p H1 := by
 refine ⟨CW Pv xs.length, ⟨xs.length, by simp, Nat.zero_le _, h0⟩, ?_⟩
 rintro i m ys τ H ⟨rfl, hi, pv⟩
 obtain ⟨hp, hq⟩ := hl i ys τ H pv
 refine ⟨hp, ?_⟩
 by_cases hlt : i < xs.length
 ·refine .inr ⟨⟨xs, xs[i], hq, by simp [hlt]⟩, fun x H3 y3 => ?_⟩
  obtain ⟨e3, ex⟩ := y3
  subst e3
  exact hs i x ys τ _ (ex xs hq) pv
 ·have e : i = xs.length := by omega
  subst e
  exact .inl ⟨⟨xs, hq, Nat.le_refl _⟩, hd ys τ H pv⟩
def fvOk (N N' : List Str) (ixs : List (Option Nat)) (sc : Scope) : Bool := (List.range ixs.length).all fun j => match ixs[j]? with
 | some (some i) => (match N[i]? with | some x => N'[j]? == some x && sc.names.lookup x == some .free | none => false)
 | _ => true
theorem fv_of {N N' : List Str} {ixs : List (Option Nat)} {sc : Scope} (h : fvOk N N' ixs sc = true) (j i : Nat) (e : ixs[j]? = some (some i)) : ∃ x, N[i]? = some x /\ N'[j]? = some x /\ sc.names.lookup x = some .free := by
 have hj : j < ixs.length := (List.getElem?_eq_some_iff.mp e).1
 have z := List.all_eq_true.mp h j (List.mem_range.mpr hj)
 rw [e] at z
 dsimp only at z
 split at z
 ·rename_i x q
  obtain ⟨z1, z2⟩ := Bool.and_eq_true_iff.mp z
  exact ⟨x, q, beq_iff_eq.mp z1, beq_iff_eq.mp z2⟩
 ·cases z
structure Nm (x : Str) : Prop where
 lo : 1 <= x.length
 hi : x.length <= 8
 az : ∀ c ∈ x.cps.toList, 97 <= c /\ c <= 122
def sign (c : Nat) : Str := ⟨#[c]⟩
theorem fold_signs : ∀ (cs : List Nat) (acc : Array Nat), (cs.map sign).foldl (fun acc p => acc ++ ("" : Str).cps ++ p.cps) acc = acc ++ cs.toArray
 | [], acc => by simp
 | c :: cs, acc => by
  rw [List.map_cons, List.foldl_cons, fold_signs cs]
  have e : ("" : Str).cps = #[] := rfl
  rw [e]
  apply Array.toList_inj.mp
  simp [sign]
theorem join_signs (cs : List Nat) : Txt.join ("" : Str) (cs.map sign) = ⟨cs.toArray⟩ := by
 unfold Txt.join Builtin.Str.glued
 cases cs with
 | nil => rfl
 | cons c cs =>
  rw [List.map_cons]
  show (⟨(cs.map sign).foldl _ (sign c).cps⟩ : Str) = _
  rw [fold_signs]
  apply congrArg Str.mk
  apply Array.toList_inj.mp
  simp [sign]
theorem slice6_mem {z : Str} {c : Nat} (h : c ∈ (Txt.slice z none (some 6)).cps.toList) : c ∈ z.cps.toList := by
 unfold Txt.slice at h
 split at h
 ·exact h
 ·simp only [List.mem_filterMap] at h
  obtain ⟨i, _, e⟩ := h
  obtain ⟨_, e2⟩ := Array.getElem?_eq_some_iff.mp e
  rw [<- e2]; simp
theorem slice6_len (z : Str) : (Txt.slice z none (some 6)).length <= 6 := by
 have hi : (Builtin.Str.strSliceIndices none (some 6) 1 z.length).length <= 6 := by
  unfold Builtin.Str.strSliceIndices sliceRange
  simp only [show (1 : Int) > 0 by decide, if_true, List.length_map, List.length_range]
  split <;> (try split) <;> omega
 unfold Txt.slice
 split
 ·rename_i h
  have e : (Builtin.Str.strSliceIndices none (some 6) 1 z.length).length = z.length := by simpa using h
  omega
 ·show (List.filterMap _ _).toArray.size <= 6
  rw [List.size_toArray]
  exact Nat.le_trans (List.length_filterMap_le _ _) hi
theorem strApp (a b : Str) : (a ++ b).cps = a.cps ++ b.cps := rfl
theorem cand_nm {z : Str} {c : Nat} (hz : ∀ c ∈ z.cps.toList, 97 <= c /\ c <= 122) (hc : 97 <= c /\ c <= 122) : Nm (Txt.slice z none (some 6) ++ sign c ++ ("q" : Str)) := by
 have hq : ("q" : Str).cps = #[113] := by decide +kernel
 have hl := slice6_len z
 have e : (Txt.slice z none (some 6) ++ sign c ++ ("q" : Str)).length = (Txt.slice z none (some 6)).length + 2 := by
  show (_ : Array Nat).size = _
  rw [strApp, strApp, hq]
  show (_ ++ #[c] ++ #[113]).size = _
  rw [Array.size_append, Array.size_append]; rfl
 refine ⟨by omega, by omega, fun d hd => ?_⟩
 rw [strApp, strApp, hq] at hd
 have hd' : d ∈ (Txt.slice z none (some 6)).cps.toList \/ d = c \/ d = 113 := by
  have : d ∈ ((Txt.slice z none (some 6)).cps ++ #[c] ++ #[113]).toList := hd
  simp at this
  rcases this with h | h | h
  ·exact .inl (by simpa using h)
  ·exact .inr (.inl h)
  ·exact .inr (.inr h)
 rcases hd' with h | h | h
 ·exact hz d (slice6_mem h)
 ·rw [h]; exact hc
 ·rw [h]; omega
theorem cand_inj {p : Str} {c d : Nat} (h : p ++ sign c ++ ("q" : Str) = p ++ sign d ++ ("q" : Str)) : c = d := by
 have h1 := congrArg (fun s : Str => s.cps.toList) h
 simp only [strApp] at h1
 have h2 : p.cps.toList ++ ([c] ++ ("q" : Str).cps.toList) = p.cps.toList ++ ([d] ++ ("q" : Str).cps.toList) := by
  simpa [sign, Array.toList_append] using h1
 have h3 := List.append_cancel_left h2
 simpa using h3
theorem pigeon : ∀ {ys found : List Str}, ys.Nodup -> found.length < ys.length -> ∃ y ∈ ys, y ∉ found
 | [], found, _, h => by simp at h
 | y :: ys, found, nd, h => by
  obtain ⟨n1, n2⟩ := List.nodup_cons.mp nd
  by_cases hy : y ∈ found
  ·have hl := List.length_erase_of_mem hy
   have hp := List.length_pos_of_mem hy
   obtain ⟨z, hz, hn⟩ := pigeon (found := found.erase y) n2 (by rw [hl]; rw [List.length_cons] at h; omega)
   refine ⟨z, List.mem_cons_of_mem _ hz, fun q => hn ?_⟩
   have ne : z ≠ y := fun e => n1 (by rw [<- e]; exact hz)
   exact (List.mem_erase_of_ne ne).mpr q
  ·exact ⟨y, List.mem_cons_self, hy⟩
end L2
namespace L2
open PySem PySem.Spec PyProof.Rows PySem.W
section
variable {X : Cx}
theorem op_in_K (K : Frag) (h : X.K = K) : OpR X (compareOp .In) (rIn K false) := by subst h; exact op_in_seq
theorem op_notIn_K (K : Frag) (h : X.K = K) : OpR X (compareOp .NotIn) (rIn K true) := by subst h; exact op_notIn_seq
end
theorem inV_strs (x : Str) (ys : List Str) : inV (.str x) (ys.map V.str) = decide (x ∈ ys) := by
 unfold inV
 rw [List.any_map]
 induction ys with
 | nil => simp
 | cons y ys ih =>
  rw [List.any_cons, ih]
  show ((y == x) || decide (x ∈ ys)) = decide (x ∈ y :: ys)
  by_cases h : y = x
  ·subst h; simp
  ·have h' : (y == x) = false := beq_eq_false_iff_ne.mpr h
   rw [h', Bool.false_or]
   have : x ∈ y :: ys ↔ x ∈ ys := by simp [Ne.symm h]
   simp [this]
theorem flat_strs (ys : List Str) : (ys.map V.str).all flatV = true := by
 rw [List.all_eq_true]
 intro v hv
 obtain ⟨y, _, rfl⟩ := List.mem_map.mp hv
 rfl
end L2
namespace L2
open PySem PySem.Spec PyProof.Rows PySem.W
end L2
namespace L2
open PySem PySem.Spec PyProof.Rows PySem.W
section
variable {X : Cx}
theorem call_allB (hc : X.calm = true) : CallR X (.builtin "all") (fun xs H Q => ∃ (p : Addr) (bs : List Bool), xs = [.ref p] /\ SqL X.K H p (bs.map V.bl) /\ Q (.bl (bs.all id)) H) := by
 intro pins s σ H xs us Q I r h
 obtain ⟨p, bs, rfl, hq, q⟩ := h
 obtain ⟨u, rfl, rx⟩ := vals1 r
 cases rx
 obtain ⟨its, rv, pl, hz⟩ := I.list hq
 have hlen := rv.length
 have vals : its = bs.map Value.bool := by
  clear q hq pl hz r hlen
  induction bs generalizing its with
  | nil => cases rv; rfl
  | cons b bs ih =>
   cases rv with
   | cons r1 rt => cases r1; rw [ih _ rt]; rfl
 have new : ∀ b o, s.heap.get? b = some o -> b ≠ s.heap.objs.size := fun b o e => Nat.ne_of_lt (Heap.lt_size e)
 obtain ⟨ol, hol, _⟩ := id pl.isList
 refine call_all_walk (wpAny_pyIter_list pl.isList ?_)
 refine ⟨s.heap.objs.size, _, _, _, _, _, fun i => bs.getD i true, rfl, Walks.list (A := X.A.in1) (I.ok.hd hc) s.heap.objs.size p (new p ol hol) its.toArray, ⟨⟨_, Heap.get?_push_size _ rfl, rfl, rfl⟩, pl.isList.at fun o e => Heap.get?_push_of_some _ e⟩, fun i v s2 Q2 E2 hv hq2 => ?_, fun h' tk kp => ?_⟩
 ·rw [vals] at hv
  have : bs[i]?.map Value.bool = some v := by simpa using hv
  obtain ⟨b, hb, rfl⟩ := Option.map_eq_some_iff.mp this
  refine wpAny_truthy_bool ?_
  have e : bs.getD i true = b := by rw [List.getD_eq_getElem?_getD, hb]; rfl
  exact e ▸ hq2
 ·have fin : (List.range its.toArray.size).all (fun i => bs.getD i true) = bs.all id := by
   have hs : its.toArray.size = bs.length := by rw [vals]; simp
   rw [hs]
   apply Bool.eq_iff_iff.mpr
   simp only [List.all_eq_true, List.mem_range]
   constructor
   ·intro h b hb
    obtain ⟨i, hi, rfl⟩ := List.getElem_of_mem hb
    simpa [List.getD, hi] using h i hi
   ·intro h i hi
    simpa [List.getD, hi] using h bs[i] (List.getElem_mem hi)
  rw [fin]
  exact ⟨.bl _, H, I.kept (t' := tk) fun b o e => kp b o (by simpa using new b o e) (Heap.get?_push_of_some _ e), rfl, q⟩
end
end L2
namespace L2
open PySem PySem.Spec PyProof.Rows
section
variable {X : Cx} {pins : List (Addr × Obj)} {σ : St} {H : Hp} {s : Shared} {a : Addr} {y v : V} {u r : Value} {o : Option V} {A : Around} {E : Value -> Shared -> Prop}
theorem Inv.big (I : Inv X pins σ H s) : sysModules < s.heap.objs.size := by
 have h : mainGlobals < s.heap.objs.size := (I.mod.glob.keeps I.bk).lt
 exact Nat.lt_trans (by decide) h
end
theorem dk_empty {P : Program} {w : World} {H : Hp} (h : Heap) (hb : sysModules < h.objs.size) : ObjOk P w H (h.push { cls := .type "dict", data := .dict #[] }) h.objs.size (.dK []) :=
 ⟨Nat.zero_le _, beq_eq_false_iff_ne.mpr (Ne.symm (Nat.ne_of_lt hb)), [], .nil, Heap.DictOf.new h⟩
def tDNewK : TE := fun _ H Q => ∀ p, H p = none -> Q (.ref p) (upd H p (.dK []))
section
variable {X : Cx} {pos : Pos}
theorem pe_dnewK : PE X (.Dict [] [] pos) tDNewK := fun pins s σ H Q I h =>
 wpAny_Dict_empty ⟨.ref s.heap.objs.size, _, I.laid (a := s.heap.objs.size) (o := .dK []) (t' := s.toks) (fun _ _ q => Heap.get?_push_of_some _ q) (Nat.le_refl _) (dk_empty s.heap I.big), rfl, h _ (I.hok.fresh (Nat.le_refl _))⟩
end
end L2
namespace HT
open PySem PyProof.Rows
section
variable {prog : Program} {w : World} {A : Around} {E : Value -> Shared -> Prop} {s : Shared}
theorem getItem_tuple_all {t sl : Addr} {items : Array Value} {vl vu : Value} {lo hi : Option Int} {Q : Value -> Shared -> Prop} (ht : IsTup s.heap t items) (hs : s.heap.IsSliceOf sl vl vu .none) (pl : IsPart vl lo) (pu : IsPart vu hi)
  (h0 : sIx items.size 0 lo = 0) (h1 : sIx items.size items.size hi = items.size) (h : Q (.ref t) s) : wpAny (model prog w) A (getItem (.ref t) (.ref sl)) Q E s := by
 obtain ⟨os, hos, hcs, hds⟩ := id hs
 have hTs : s.TypeIs (.ref sl) "slice" := ⟨os, hos, hcs⟩
 unfold getItem
 try with_reducible refine wpAny_holding ?_
 first | refine wpAny_bind (wpAny_pure ?_) | skip
 refine wpAny_bind (wpAny_sequenceKey ht.typeIs (by decide) ?_)
 refine wpAny_bind (wpAny_callSpecial?_slot (name := Str.ofString "__getitem__") ht.typeIs PyProof.Rows.slot_tuple_getitem
  (wpAny_call_entry PyProof.Rows.slot_tuple_getitem ht.typeIs entry_tuple_getitem ?_ (args_tuple_getitem _ _)))
 show wpAny _ _ (Builtin.Tuple.tupleItemsOf (.ref t) >>= _) _ _ s
 refine wpAny_bind (tupleItemsOf_ ht ?_)
 refine wpAny_bind (wpAny_typeOf hTs ?_)
 rw [if_pos (by decide)]
 refine wpAny_bind (sliceApplied_gen hs pl pu ?_)
 rw [h0, h1]
 have hyes : ((((0 : Nat) : Int) == 0 && (1 : Int) == 1 && (items.size - 0) == items.size) = true) := by simp
 show wpAny _ _ (if ((((0 : Nat) : Int) == 0 && (1 : Int) == 1 && (items.size - 0) == items.size) = true) then _ else _) _ _ s
 rw [if_pos hyes]
 refine wpAny_bind (wpAny_bind (wpAny_typeOf ht.typeIs (wpAny_pure ?_)))
 rw [if_pos (by decide)]
 exact wpAny_bind (wpAny_rule (wpAny_pure ⟨_, rfl, wpAny_pure h⟩))
theorem cat_tup0 {t b : Addr} {ws : List Value} {Q : Value -> Shared -> Prop} (ht : IsTup s.heap t ([] : List Value).toArray) (hb : IsTup s.heap b ws.toArray) (h : Q (.ref b) s) : wpAny (model prog w) A (binaryOp .Add (.ref t) (.ref b)) Q E s := by
 obtain ⟨⟨cls, dd, data, sl⟩, ho, hc, n, hd⟩ := id ht
 obtain ⟨⟨cls2, dd2, data2, sl2⟩, ho2, hc2, n2, hd2⟩ := id hb
 obtain rfl : cls = .type "tuple" := hc
 obtain rfl : data = .seq #[] n := hd
 obtain rfl : cls2 = .type "tuple" := hc2
 obtain rfl : data2 = .seq ws.toArray n2 := hd2
 exact concat_meets ⟨_, ho, rfl⟩ ⟨_, ho2, rfl⟩ noFill_tuple_add seq_tuple_add PySem.F.slot_tuple_add PySem.F.entry_tuple_add (PySem.F.args_tuple_add_2 _ _) (tuple_addW0 t b #[] ws.toArray n n2 dd dd2 sl sl2 rfl) ⟨ho, ho2, h⟩
end
end HT
namespace L2
open PySem PySem.Spec PyProof.Rows PySem.W
theorem same_one {H : Hp} {q : Addr} {o : HO} (hq : H q = none) : Same H (upd H q o) := fun b u e => by rw [upd_ne (ne_of_none e hq)]; exact e
section
variable {X : Cx}
def rSlA : V -> Option Int -> Option Int -> Hp -> VK -> Prop := fun x lo hi H Q => ∃ a xs, x = .ref a /\ H a = some (.tup xs) /\ ∀ p H', Same H H' -> H' p = some (.tup (cutV xs lo hi)) -> Q (.ref p) H'
theorem sl_tupA : SlR X rSlA := by
 intro pins s σ H x v vl vu lo hi sl Q I rx hs pl pu h
 obtain ⟨a, xs, rfl, hx, q⟩ := h
 by_cases hw : HT.sIx xs.length 0 lo = 0 /\ HT.sIx xs.length xs.length hi = xs.length
 ·cases rx
  obtain ⟨its, r, ht, hz⟩ := I.tuple (SqT.of hx)
  have hlen : its.toArray.size = xs.length := by rw [List.size_toArray]; exact r.length.symm
  refine ⟨"tuple", _, PyProof.Rows.slot_tuple_getitem.lookup, ht.typeIs, HT.getItem_tuple_all ht hs pl pu (by rw [hlen]; exact hw.1) (by rw [hlen]; exact hw.2) ?_⟩
  refine ⟨.ref a, H, I, rfl, q a H (Same.refl _) ?_⟩
  unfold cutV
  rw [hw.1, hw.2, List.drop_zero, Nat.sub_zero, List.take_length]
  exact hx
 ·exact sl_tup pins s σ H (.ref a) v vl vu lo hi sl Q I rx hs pl pu ⟨a, xs, rfl, SqT.of hx, hw, fun p hp => q p _ (same_one hp) upd_same⟩
def rCatA : R2 := fun x y H Q => ∃ a b xs ys, x = .ref a /\ y = .ref b /\ H a = some (.tup xs) /\ H b = some (.tup ys) /\ xs.length + ys.length <= sizeLine /\ ∀ p H', Same H H' -> H' p = some (.tup (xs ++ ys)) -> Q (.ref p) H'
theorem op_catA : OpR X (binaryOp .Add) rCatA := by
 intro pins s σ H x y v u Q I rx ry h
 obtain ⟨a, b, xs, ys, rfl, rfl, ha, hb, hz, q⟩ := h
 cases xs with
 | nil =>
  cases rx
  cases ry
  obtain ⟨its, r1, p1, _⟩ := I.tuple (SqT.of ha)
  obtain ⟨its2, r2, p2, _⟩ := I.tuple (SqT.of hb)
  cases r1
  exact HT.cat_tup0 p1 p2 ⟨.ref b, H, I, rfl, q b H (Same.refl _) hb⟩
 | cons z xs => exact op_catT pins s σ H (.ref a) (.ref b) v u Q I rx ry ⟨a, b, _, ys, rfl, rfl, SqT.of ha, SqT.of hb, by simp, hz, fun e => q a H (Same.refl _) (by rw [e, List.append_nil]; exact ha), fun _ p hp => q p _ (same_one hp) upd_same⟩
end
end L2
namespace HT
open PySem PyProof.Rows
section
open PySem.SeqAt
open PySem.AutoSeq1 (wpAny_loadPart')
open PySem.MeetsSeq PySem.MeetsSeq2 PySem.MeetsSeq3
end
end HT
namespace HT
open PySem PyProof.Rows
end HT
namespace L2
open PySem PySem.Spec PyProof.Rows PySem.W HT
end L2
namespace HT
open PySem PyProof.Rows
end HT
namespace HT
open PySem PyProof.Rows
open PySem.AutoSeq1 (wpAny_loadPart')
end HT
namespace L2
open PySem PySem.Spec PyProof.Rows PySem.W HT
end L2
namespace HT
open PySem PyProof.Rows
end HT
namespace HT
open PySem PyProof.Rows PySem.W
end HT
namespace HT
open PySem PyProof.Rows PySem.W L2
end HT
namespace HT
open PySem PyProof.Rows PySem.W L2
end HT
namespace HT
open PySem PyProof.Rows
section
open PySem.SeqAt
open PySem.AutoSeq1 (wpAny_loadPart')
open PySem.MeetsSeq PySem.MeetsSeq2 PySem.MeetsSeq3
end
end HT
namespace L2
open PySem PySem.Spec PyProof.Rows PySem.W HT
end L2
namespace L2
open PySem PySem.Spec PyProof.Rows PySem.W HT
section
variable {X : Cx}
def Its (x : Str) : It := ⟨fun i _ => i < x.cps.size, fun i H v H' => H' = H /\ ∃ c, x.cps[i]? = some c /\ v = .str ⟨#[c]⟩, fun i _ => x.cps.size <= i⟩
theorem turn_str {P : Program} {w : World} {K : Frag} {tg : Expr} (it : Addr) (x : Str) (t : Tok) (T : String) (hT : ["enumerate", "zip", "dict_itemiterator", "dict_reverseitemiterator", "odict_iterator", "itertools.zip_longest", "itertools.pairwise"].contains T = false)
  (W : ∀ A' : Around, A'.handled = none -> Walks P w A' it [it] [it] x.cps.size (SignAt x) (fun i h => h.IsStrIter it T x t i))
  (hs : ∀ (A : Around) (i : Nat) (s : Shared) (Q : Value -> Shared -> Prop) (E : Value -> Shared -> Prop), s.heap.IsStrIter it T x t i -> Q (.ref it) s -> wpAny (model P w) A (pyIter (.ref it)) Q E s) : Turn P w K tg (Its x) [it] it (fun i h => i <= x.cps.size /\ h.IsStrIter it T x t i) where
 mem := by simp
 obj := fun i h st b hb => by
  obtain rfl : b = it := by simpa using hb
  obtain ⟨_, o, e, c, d⟩ := st
  exact ⟨o, e, fun v z => by rw [d] at z; cases z⟩
 keep := fun i h h' st k => by
  obtain ⟨l, o, e, r⟩ := st
  exact ⟨l, o, k it (by simp) _ e, r⟩
 item := by
  intro X hP hw hK hc i pins s σ H E I hf st hg
  subst hP hw hK
  obtain ⟨f0, f1, f2, f3, f4, f5⟩ := hf it (by simp)
  refine (W X.A (I.ok.hd hc)).item i s _ _ hg st.2 fun v h' tk hv st' kk => ?_
  obtain ⟨c, u, hcx, rfl⟩ := hv
  have I1 : Inv X pins σ H { s with heap := h', toks := tk } := I.turned (fun b o hb e => kk b o (by simpa using hb) e) f0 f1 f3 f4 f5
  obtain ⟨o, e, cl, d⟩ := id st'
  exact ⟨_, rfl, go_of (s := { s with heap := h', toks := tk }) e cl d hT ⟨.str ⟨#[c]⟩, H, I1, ⟨u, rfl⟩, ⟨rfl, c, hcx, rfl⟩, ⟨hg, st'⟩, fun b hb => (hf b hb).1⟩⟩
 done := by
  intro X hP hw hK hc i pins s σ H E I hf st hg
  subst hP hw hK
  obtain ⟨f0, f1, f2, f3, f4, f5⟩ := hf it (by simp)
  have ei : i = x.cps.size := Nat.le_antisymm st.1 hg
  subst ei
  exact (W X.A (I.ok.hd hc)).done s _ _ st.2 fun h' tk kk => ⟨rfl, I.turned (fun b o hb e => kk b o (by simpa using hb) e) f0 f1 f3 f4 f5⟩
 self := fun A i s Q E st h => hs A i s Q E st.2 h
def iStr (te : TE) : TI := fun σ H R => te σ H fun v H1 => ∃ x, v = .str x /\ R (Its x) H1
theorem pi_str {tg e : Expr} {te : TE} (he : PE X e te) : PI X tg e (iStr te) := by
 intro pins s σ H R I h
 refine thn (he pins s σ H _ I h) fun v s1 ⟨y, H1, I1, r1, x, ey, q⟩ => ?_
 subst ey
 obtain ⟨t, rfl⟩ := r1
 have I2 : ∀ o : Obj, Inv X pins σ H1 { s1 with heap := s1.heap.push o } := fun o => I1.kept (t' := s1.toks) fun b ob z => Heap.get?_push_of_some _ z
 have fp : ∀ b ∈ [s1.heap.objs.size], FpOk X pins H1 b := fun b hb => by
  obtain rfl : b = s1.heap.objs.size := by simpa using hb
  exact I1.fpOk (Nat.le_refl _) (I1.hok.fresh (Nat.le_refl _))
 cases ha : x.cps.all (· < 128)
 ·refine wpAny_pyIter_wide ha ?_
  exact ⟨s1.heap.objs.size, [s1.heap.objs.size], _, _, H1, rfl, I2 _, turn_str s1.heap.objs.size x t "str_iterator" (by decide) (fun A' hA => Walks.strWide hA _ x t) (fun _ _ _ _ _ st h => wpAny_pyIter_striter_wide st h), ⟨Nat.zero_le _, _, Heap.get?_push_size _ rfl, rfl, rfl⟩, fp, q⟩
 ·refine wpAny_pyIter_ascii ha ?_
  exact ⟨s1.heap.objs.size, [s1.heap.objs.size], _, _, H1, rfl, I2 _, turn_str s1.heap.objs.size x t "str_ascii_iterator" (by decide) (fun A' hA => Walks.strAscii hA _ x t) (fun _ _ _ _ _ st h => wpAny_pyIter_striter_ascii st h), ⟨Nat.zero_le _, _, Heap.get?_push_size _ rfl, rfl, rfl⟩, fp, q⟩
theorem comp_str {x : Str} {g : TG} {ti : TT} {te : TE} {τ0 : St} {Q : VK} {p : Addr} {H1 : Hp} (Pv : Nat -> List V -> St -> Hp -> Prop) (h0 : Pv 0 [] τ0 (upd H1 p (.lst []))) (hl : ∀ i ys τ H, Pv i ys τ H -> H p = some (.lst ys))
  (hs : ∀ i c ys τ H, x.cps[i]? = some c -> Pv i ys τ H -> g (.str ⟨#[c]⟩) τ H fun τ4 H4 => ti τ4 H4 fun b H5 => if b = true then te τ4 H5 fun y H6 => H6 p = some (.lst ys) /\ ys.length < sizeLine /\ ∃ m', m' < x.cps.size - i /\ CW Pv x.cps.size (i + 1) m' (ys ++ [y]) τ4 (upd H6 p (.lst (ys ++ [y]))) else ∃ m', m' < x.cps.size - i /\ CW Pv x.cps.size (i + 1) m' ys τ4 H5)
  (hd : ∀ ys τ H, Pv x.cps.size ys τ H -> Q (.ref p) H) : CompW (Its x) g ti te τ0 Q p H1 := by
 refine ⟨CW Pv x.cps.size, ⟨x.cps.size, by simp, Nat.zero_le _, h0⟩, ?_⟩
 rintro i m ys τ H ⟨rfl, hi, pv⟩
 refine ⟨hl i ys τ H pv, ?_⟩
 by_cases hlt : i < x.cps.size
 ·refine .inr ⟨hlt, fun v H3 y3 => ?_⟩
  obtain ⟨e3, c, hc, rfl⟩ := y3
  subst e3
  exact hs i c ys τ _ hc pv
 ·have e : i = x.cps.size := by omega
  subst e
  exact .inl ⟨Nat.le_refl _, hd ys τ H pv⟩
end
end L2
namespace HT
open PySem PyProof.Rows PySem.W L2
end HT
namespace HT
open PySem PyProof.Rows PySem.W L2
end HT
namespace L2
open PySem PySem.Spec PyProof.Rows PySem.W HT
section
variable {X : Cx}
theorem op_le_str : OpR X (compareOp .LtE) (fun x y H Q => ∃ i j, x = .str i /\ y = .str j /\ Q (.bl (!decide (j.cps.toList < i.cps.toList))) H) := by
 intro pins s σ H x y v u Q I rx ry ⟨i, j, ex, ey, q⟩
 subst ex ey
 obtain ⟨t, rfl⟩ := rx
 obtain ⟨t', rfl⟩ := ry
 exact P.le_str (fin_bl I q rfl)
end
end L2
namespace L2
open PySem PySem.W
section
variable {X : Cx}
def CDivW (_ j : Int) : Prop := 0 < j /\ j < 4611686018427387904
theorem op_fdivW : OpR X (binaryOp .FloorDiv) (rI CDivW fun i j => .int (i / j)) := opI fun i j _ _ _ _ _ hc q => by
 have h1 : (0 : Int) < j := hc.1
 have h2 : j < 4611686018427387904 := hc.2
 refine PyProof.Rows.floordiv_int (by omega) (by rw [Int.fdiv_eq_ediv_of_nonneg i (by omega)]; exact q) (.inl (PyProof.noPylong_of_log2 ?_))
 have h3 : j.natAbs < 2 ^ 62 := by omega
 have h4 : j.natAbs.log2 < 62 := (Nat.log2_lt (by omega)).mpr h3
 omega
end
end L2
namespace L2
open PySem PySem.W PySem.Calls PyProof.Rows
end L2
namespace L2
open PySem PySem.W PySem.Spec PyProof.Rows
end L2
namespace L2
open PySem PySem.W PySem.Spec PyProof.Rows
end L2
namespace HS
open PySem PySem.Spec PyProof.Rows
end HS
namespace HS
open PySem PySem.Spec PyProof.Rows
end HS
namespace HS
open PySem PySem.Spec PyProof.Rows
end HS
namespace HS
open PySem PySem.Spec PyProof.Rows
end HS
namespace HS
open PySem PySem.Spec PyProof.Rows
end HS
namespace HS
open PySem PySem.Spec PyProof.Rows PySem.W
end HS
namespace L2
open PySem PySem.Spec PyProof.Rows PySem.W HS
end L2
namespace L2
open PySem PySem.W PySem.Calls PyProof.Rows
end L2
namespace L2
open PySem PySem.W PySem.Calls PyProof.Rows
end L2
namespace HS
open PySem PySem.Spec PyProof.Rows PySem.W
end HS
namespace L2
open PySem PySem.Spec PyProof.Rows PySem.W HS
end L2
namespace L2
open PySem PySem.Spec PyProof.Rows PySem.W
mutual
inductive Dt (p : Addr) (H : Hp) : V -> PyData -> Prop where
 | non : Dt p H .non .none
 | bl (b : Bool) : Dt p H (.bl b) (.bool b)
 | int (i : Int) : Dt p H (.int i) (.int i)
 | str (x : Str) : Dt p H (.str x) (.str x)
 | lst {a : Addr} {xs : List V} {ds : List PyData} : a ≠ p -> H a = some (.lst xs) -> Dts p H xs ds -> Dt p H (.ref a) (.list ds)
 | tup {a : Addr} {xs : List V} {ds : List PyData} : a ≠ p -> H a = some (.tup xs) -> Dts p H xs ds -> Dt p H (.ref a) (.tuple ds)
 | dct {a : Addr} : a ≠ p -> H a = some (.dK []) -> Dt p H (.ref a) (.dict [])
inductive Dts (p : Addr) (H : Hp) : List V -> List PyData -> Prop where
 | nil : Dts p H [] []
 | cons {x : V} {d : PyData} {xs : List V} {ds : List PyData} : Dt p H x d -> Dts p H xs ds -> Dts p H (x :: xs) (d :: ds)
end
section
variable {p : Addr} {H H' : Hp}
mutual
theorem Dt.keep (k : ∀ b o, H b = some o -> b ≠ p -> H' b = some o) : ∀ {v : V} {d : PyData}, Dt p H v d -> Dt p H' v d
 | _, _, .non => .non
 | _, _, .bl b => .bl b
 | _, _, .int i => .int i
 | _, _, .str x => .str x
 | _, _, .lst n e rs => .lst n (k _ _ e n) (Dts.keep k rs)
 | _, _, .tup n e rs => .tup n (k _ _ e n) (Dts.keep k rs)
 | _, _, .dct n e => .dct n (k _ _ e n)
theorem Dts.keep (k : ∀ b o, H b = some o -> b ≠ p -> H' b = some o) : ∀ {vs : List V} {ds : List PyData}, Dts p H vs ds -> Dts p H' vs ds
 | _, _, .nil => .nil
 | _, _, .cons r rs => .cons (Dt.keep k r) (Dts.keep k rs)
end
theorem Dts.length : ∀ {vs : List V} {ds : List PyData}, Dts p H vs ds -> vs.length = ds.length
 | _, _, .nil => rfl
 | _, _, .cons _ rs => by rw [List.length_cons, List.length_cons, Dts.length rs]
theorem Dts.get : ∀ {vs : List V} {ds : List PyData}, Dts p H vs ds -> ∀ {i : Nat} {d : PyData}, ds[i]? = some d -> ∃ v, vs[i]? = some v /\ Dt p H v d
 | _, _, .nil, i, v, h => by cases h
 | _, _, .cons r rs, 0, v, h => by cases h; exact ⟨_, rfl, r⟩
 | _, _, .cons r rs, i + 1, v, h => Dts.get rs (by simpa using h)
theorem Dts.app : ∀ {vs ws : List V} {ds es : List PyData}, Dts p H vs ds -> Dts p H ws es -> Dts p H (vs ++ ws) (ds ++ es)
 | _, _, _, _, .nil, r => r
 | _, _, _, _, .cons a as, r => .cons a (Dts.app as r)
theorem Dts.take : ∀ {vs : List V} {ds : List PyData} (n : Nat), Dts p H vs ds -> Dts p H (vs.take n) (ds.take n)
 | _, _, 0, _ => .nil
 | _, _, _ + 1, .nil => .nil
 | _, _, n + 1, .cons a as => .cons a (Dts.take n as)
theorem Dts.drop : ∀ {vs : List V} {ds : List PyData} (n : Nat), Dts p H vs ds -> Dts p H (vs.drop n) (ds.drop n)
 | _, _, 0, r => r
 | _, _, _ + 1, .nil => .nil
 | _, _, n + 1, .cons _ as => Dts.drop n as
end
def tyD : PyData -> String
 | .none => "NoneType"
 | .bool _ => "bool"
 | .int _ => "int"
 | .str _ => "str"
 | .list _ => "list"
 | .tuple _ => "tuple"
 | .dict _ => "dict"
def isT (T : String) (d : PyData) : Bool := tyD d == T || (tyD d == "bool" && T == "int")
theorem Dt.ty {p : Addr} {H : Hp} {K : Frag} {v : V} {d : PyData} (r : Dt p H v d) : TyOf K H v (.type (tyD d)) := by
 cases r with
 | non => exact .non
 | bl b => exact .bl b
 | int i => exact .int i
 | str x => exact .str x
 | lst n e _ => exact .lst e
 | tup n e _ => exact .tup e
 | dct n e => exact .dK e
theorem kit_int (K : Frag) (d : PyData) : kitOne K (.type (tyD d)) (.type "int") = some (isT "int" d) := by cases d <;> rfl
theorem kit_bool (K : Frag) (d : PyData) : kitOne K (.type (tyD d)) (.type "bool") = some (isT "bool" d) := by cases d <;> rfl
theorem kit_str (K : Frag) (d : PyData) : kitOne K (.type (tyD d)) (.type "str") = some (isT "str" d) := by cases d <;> rfl
theorem kit_list (K : Frag) (d : PyData) : kitOne K (.type (tyD d)) (.type "list") = some (isT "list" d) := by cases d <;> rfl
theorem kit_tuple (K : Frag) (d : PyData) : kitOne K (.type (tyD d)) (.type "tuple") = some (isT "tuple" d) := by cases d <;> rfl
theorem isi_sp {T : String} {p : Addr} {H : Hp} {K : Frag} {v : V} {d : PyData} {Q : VK} (kt : ∀ (K : Frag) (d : PyData), kitOne K (.type (tyD d)) (.type T) = some (isT T d)) (r : Dt p H v d) (q : Q (.bl (isT T d)) H) :
  (∃ x, (∃ C, [v, V.ty T] = [x, .ref C]) \/ (∃ T', [v, V.ty T] = [x, .ty T'])) /\ rIsi K [v, .ty T] H Q := ⟨⟨v, .inr ⟨T, rfl⟩⟩, v, .ty T, .type (tyD d), .type T, _, rfl, rfl, .inl r.ty, kt K d, q⟩
section
variable {X : Cx}
theorem call_isi2 : CallR X (.builtin "isinstance") (fun xs H Q => ∃ p v d t S T, xs = [v, .ref t] /\ Dt p H v d /\ H t = some (.tup [.ty S, .ty T]) /\ (∀ K, kitOne K (.type (tyD d)) (.type S) = some (isT S d)) /\ (∀ K, kitOne K (.type (tyD d)) (.type T) = some (isT T d)) /\ Q (.bl (isT S d || isT T d)) H) := by
 intro pins s σ H xs us Q I r h
 obtain ⟨p, v, d, t, S, T, rfl, rd, ht, kS, kT, q⟩ := h
 obtain ⟨u, w', rfl, ru, rw'⟩ := r.two
 cases rw'
 obtain ⟨_, its, rv, ⟨oc, od, oda, osl⟩, h1, h2, n, h3, _⟩ := (show ObjOk X.prog X.w H s.heap t (.tup [.ty S, .ty T]) from I.hok t _ ht)
 obtain ⟨a, b, rfl, ra, rb⟩ := rv.two
 cases ra; cases rb
 cases h2; cases h3
 have e : kitAny X.K (.type (tyD d)) [.type S, .type T] = some (isT S d || isT T d) := by
  unfold kitAny; rw [kS]
  cases isT S d with
  | true => rfl
  | false => unfold kitAny; rw [kT]; cases isT T d <;> rfl
 have fin : ∀ tk, EP X pins σ Q (.bool (isT S d || isT T d)) { s with toks := tk } := fun tk => ⟨.bl _, H, I.tok _, rfl, q⟩
 have tp : s.heap.get? t = some ⟨.type "tuple", od, .seq [Value.type S, Value.type T].toArray n, osl⟩ := h1
 cases rd with
 | non => cases ru; exact kia_tup kitx_none I.kIn True.intro tp e (fun z => nomatch z) fin
 | bl b => cases ru; exact kia_tup kitx_bool I.kIn True.intro tp e (fun z => nomatch z) fin
 | int i => obtain ⟨k, rfl⟩ := ru; exact kia_tup kitx_int I.kIn True.intro tp e (fun z => nomatch z) fin
 | str x => obtain ⟨k, rfl⟩ := ru; exact kia_tup kitx_str I.kIn True.intro tp e (fun z => nomatch z) fin
 | @lst a xs ds n ea _ =>
  cases ru
  obtain ⟨_, _, n, _, g1⟩ := (show ObjOk X.prog X.w H s.heap a (.lst xs) from I.hok a _ ea)
  exact kia_tup kitx_list I.kIn ⟨_, g1, rfl⟩ tp e (fun z => nomatch z) fin
 | @tup a xs ds n ea _ =>
  cases ru
  obtain ⟨_, _, _, o, g1, g2, _⟩ := (show ObjOk X.prog X.w H s.heap a (.tup xs) from I.hok a _ ea)
  exact kia_tup kitx_tuple I.kIn ⟨o, g1, g2⟩ tp e (fun z => nomatch z) fin
 | @dct a n ea =>
  cases ru
  obtain ⟨_, _, vs, _, o, es, ep, g1, g2, _⟩ := (show ObjOk X.prog X.w H s.heap a (.dK []) from I.hok a _ ea)
  exact kia_tup kitx_dict I.kIn ⟨o, g1, g2.1⟩ tp e (fun z => nomatch z) fin
end
end L2
namespace HT
open PySem PyProof.Rows
section
open PySem.SeqAt
open PySem.AutoSeq1 (wpAny_loadPart')
open PySem.MeetsSeq PySem.MeetsSeq2 PySem.MeetsSeq3
theorem dict_eq_declines_str (l : Addr) (es : Array DictEntry) (ep : Nat) (dd : Option Addr) (sl : Array (Option Value)) (b : Str) (u : Tok) :
  Meets (Builtin.«dict.__eq__» ⟨[.ref l, .str b u], []⟩) (fun _ R s => s.heap.get? l = some { cls := .type "dict", dict := dd, data := .dict es ep, slots := sl } /\ R (.ok (.ret .notImplemented)) s) :=
 .of_wp fun prog w A R s h => by obtain ⟨hp, g, d, tk, os⟩ := s; obtain ⟨hl, h⟩ := h; have f1 := F.sub_str_dict; wp_walk using wpAny_loadPart' hl, wpAny_load hl; exact ⟨_, rfl, h⟩
theorem str_eq_declines_dict (b : Str) (u : Tok) (l : Addr) (es : Array DictEntry) (ep : Nat) (dd : Option Addr) (sl : Array (Option Value)) :
  Meets (Builtin.«str.__eq__» ⟨[.str b u, .ref l], []⟩) (fun _ R s => s.heap.get? l = some { cls := .type "dict", dict := dd, data := .dict es ep, slots := sl } /\ R (.ok (.ret .notImplemented)) s) :=
 .of_wp fun prog w A R s h => by obtain ⟨hp, g, d, tk, os⟩ := s; obtain ⟨hl, h⟩ := h; wp_walk using wpAny_loadPart' hl, wpAny_load hl; exact ⟨_, rfl, h⟩
variable {A : Around} {s : Shared}
theorem rc_dict_str {l : Addr} {es : Array DictEntry} {ep : Nat} {o : Obj} (b : Str) (u : Tok) (ho : s.heap.get? l = some o) (hc : o.cls = .type "dict") (hd : o.data = .dict es ep) (hu : A.units < cLine) : RcAt A s (.ref l) (.str b u) false := fun prog w E Q h => by
 obtain ⟨cls, dd, data, sl⟩ := o
 simp only at hc hd
 subst hc hd
 exact rc_eq_decline_or (k := false) ⟨_, ho, rfl⟩ (typeIs_str s b u) (by decide) F.sub_str_dict F.slot_dict_eq F.slot_str_eq_refl
  (fun _ hq => call_meets F.slot_dict_eq ⟨_, ho, rfl⟩ F.entry_dict_eq (F.args_dict_eq_2 _ _) (dict_eq_declines_str l es ep dd sl b u) ⟨ho, hq⟩)
  (fun _ hq => call_meets F.slot_str_eq_refl (typeIs_str s b u) F.entry_str_eq (F.args_str_eq_2 _ _) (str_eq_declines_dict b u l es ep dd sl) ⟨ho, hq⟩)
  (fun _ hq => wpAny_of_eq (rfl : isSame (.ref l) (.str b u) = pure false) hq) (.inr hu) h
theorem rc_str_dict {l : Addr} {es : Array DictEntry} {ep : Nat} {o : Obj} (b : Str) (u : Tok) (ho : s.heap.get? l = some o) (hc : o.cls = .type "dict") (hd : o.data = .dict es ep) (hu : A.units < cLine) : RcAt A s (.str b u) (.ref l) false := fun prog w E Q h => by
 obtain ⟨cls, dd, data, sl⟩ := o
 simp only at hc hd
 subst hc hd
 exact rc_eq_decline_or (k := false) (typeIs_str s b u) ⟨_, ho, rfl⟩ (by decide) F.sub_dict_str F.slot_str_eq F.slot_dict_eq_refl
  (fun _ hq => call_meets F.slot_str_eq (typeIs_str s b u) F.entry_str_eq (F.args_str_eq_2 _ _) (str_eq_declines_dict b u l es ep dd sl) ⟨ho, hq⟩)
  (fun _ hq => call_meets F.slot_dict_eq_refl ⟨_, ho, rfl⟩ F.entry_dict_eq (F.args_dict_eq_2 _ _) (dict_eq_declines_str l es ep dd sl b u) ⟨ho, hq⟩)
  (fun _ hq => wpAny_of_eq (rfl : isSame (.str b u) (.ref l) = pure false) hq) (.inr hu) h
theorem eqAt_str_dict {l : Addr} {es : Array DictEntry} {ep : Nat} {o : Obj} (b : Str) (u : Tok) (ho : s.heap.get? l = some o) (hc : o.cls = .type "dict") (hd : o.data = .dict es ep) (hu : A.units < cLine) : EqAt A s (.str b u) (.ref l) false := fun prog w E Q h => by
 unfold eqBool
 refine wpAny_holding ?_
 refine wpAny_ite_split (fun hab => absurd (eq_of_beq hab) nofun) (fun _ => ?_)
 exact wpAny_bind (rc_str_dict b u ho hc hd hu prog w E _ (wpAny_truthy_bool h))
end
end HT
namespace L2
open PySem PySem.Spec PyProof.Rows PySem.W HT
def isS (c : Str) (d : PyData) : Bool := match d with | .str x => x == c | _ => false
section
variable {X : Cx} {pins : List (Addr × Obj)} {σ : St} {H : Hp} {s : Shared} {p : Addr} {v : V} {d : PyData} {u : Value}
theorem Dt.rcS (I : Inv X pins σ H s) (r : Dt p H v d) (ru : RelV v u) (c : Str) (t : Tok) {A : Around} (hu : A.units < cLine) : SeqAt.RcAt A s u (.str c t) (isS c d) := by
 cases r with
 | non => cases ru; exact SeqAt.RcAt.none_str c t
 | bl b => cases ru; exact SeqAt.RcAt.bool_str b c t
 | int i => obtain ⟨k, rfl⟩ := ru; exact SeqAt.RcAt.int_str i k c t
 | str x => obtain ⟨k, rfl⟩ := ru; exact SeqAt.RcAt.str_str x k c t
 | @lst a xs ds n ea _ =>
  cases ru
  obtain ⟨its, _, pl, _⟩ := I.list (SqL.of ea)
  exact SeqAt.RcAt.list_str c t pl.isList hu
 | @tup a xs ds n ea _ =>
  cases ru
  obtain ⟨its, _, pl, _⟩ := I.tuple (SqT.of ea)
  exact SeqAt.RcAt.tuple_str c t pl hu
 | @dct a n ea =>
  cases ru
  obtain ⟨_, _, vs, _, o, es, ep, g1, g2, g3, _⟩ := (show ObjOk X.prog X.w H s.heap a (.dK []) from I.hok a _ ea)
  exact rc_dict_str c t g1 g2.1 g3 hu
theorem Dt.eqS (I : Inv X pins σ H s) (r : Dt p H v d) (ru : RelV v u) (c : Str) (t : Tok) {A : Around} (hu : A.units < cLine) : SeqAt.EqAt A s (.str c t) u (isS c d) := by
 cases r with
 | non => cases ru; exact SeqAt.EqAt.str_none c t
 | bl b => cases ru; exact SeqAt.EqAt.str_bool c t b
 | int i => obtain ⟨k, rfl⟩ := ru; exact SeqAt.EqAt.str_int c t i k
 | str x => obtain ⟨k, rfl⟩ := ru; rw [show isS c (.str x) = (c == x) from Bool.beq_comm]; exact SeqAt.EqAt.str_str c t x k
 | @lst a xs ds n ea _ =>
  cases ru
  obtain ⟨its, _, pl, _⟩ := I.list (SqL.of ea)
  exact SeqAt.EqAt.str_list c t pl.isList hu
 | @tup a xs ds n ea _ =>
  cases ru
  obtain ⟨its, _, pl, _⟩ := I.tuple (SqT.of ea)
  exact SeqAt.EqAt.str_tuple c t pl hu
 | @dct a n ea =>
  cases ru
  obtain ⟨_, _, vs, _, o, es, ep, g1, g2, g3, _⟩ := (show ObjOk X.prog X.w H s.heap a (.dK []) from I.hok a _ ea)
  exact eqAt_str_dict c t g1 g2.1 g3 hu
end
section
variable {X : Cx}
def rEqS : R2 := fun x y H Q => ∃ p d c, Dt p H x d /\ y = .str c /\ Q (.bl (isS c d)) H
theorem op_eqS (hu : X.A.units + 64 < cLine) : OpR X (compareOp .Eq) rEqS := by
 intro pins s σ H x y v u Q I rx ry h
 obtain ⟨p, d, c, r, rfl, q⟩ := h
 obtain ⟨t, rfl⟩ := ry
 exact r.rcS I rx c t (by omega) X.prog X.w X.xe _ ⟨.bl _, H, I, rfl, q⟩
def rNotInS : R2 := fun x y H Q => ∃ (p : Addr) (d : PyData) (l : Addr) (cs : List Str), Dt p H x d /\ y = .ref l /\ H l = some (.lst (cs.map V.str)) /\ Q (.bl (!(cs.any fun c => isS c d))) H
theorem strs_vals : ∀ {cs : List Str} {us : List Value}, Vals (cs.map V.str) us -> ∀ w ∈ us, ∃ c t, c ∈ cs /\ w = Value.str c t
 | [], _, r, w, h => by cases r; cases h
 | c :: cs, _, r, w, h => by
  cases r with
  | cons a b =>
   rcases List.mem_cons.mp h with rfl | h
   ·obtain ⟨t, rfl⟩ := a; exact ⟨c, t, List.mem_cons_self, rfl⟩
   ·obtain ⟨c', t, m, e⟩ := strs_vals b w h; exact ⟨c', t, List.mem_cons_of_mem _ m, e⟩
def strOf? : Value -> Option Str | .str c _ => some c | _ => none
theorem any_strs (g : Str -> Bool) : ∀ {cs : List Str} {us : List Value}, Vals (cs.map V.str) us -> (us.any fun w => match strOf? w with | some c => g c | none => false) = cs.any g
 | [], _, r => by cases r; rfl
 | c :: cs, _, r => by
  cases r with
  | cons a b => obtain ⟨t, rfl⟩ := a; rw [List.any_cons, List.any_cons, any_strs g b]; rfl
theorem op_notInS (hu : X.A.units + 64 < cLine) : OpR X (compareOp .NotIn) rNotInS := by
 intro pins s σ H x y v u Q I rx ry h
 obtain ⟨p, d, l, cs, r, rfl, hl, q⟩ := h
 cases ry
 obtain ⟨its, rv, pl, _⟩ := I.list (SqL.of hl)
 refine SeqAt.notIn_listAt (fun w => match strOf? w with | some c => isS c d | none => false) pl.isList (fun w hw => ?_) ⟨.bl _, H, I, rfl, ?_⟩
 ·obtain ⟨c, t, _, rfl⟩ := strs_vals rv w (by simpa using hw)
  exact r.eqS I rx c t (show X.A.units + 1 < cLine by omega)
 ·rw [show its.toArray.any (fun w => match strOf? w with | some c => isS c d | none => false) = its.any (fun w => match strOf? w with | some c => isS c d | none => false) by simp, any_strs (fun c => isS c d) rv]
  exact q
def rEqT0 : R2 := fun x y H Q => ∃ a b xs, x = .ref a /\ y = .ref b /\ H a = some (.tup xs) /\ H b = some (.tup []) /\ Q (.bl xs.isEmpty) H
theorem op_eqT0 (hu : X.A.units + 64 < cLine) : OpR X (compareOp .Eq) rEqT0 := by
 intro pins s σ H x y v u Q I rx ry h
 obtain ⟨a, b, xs, rfl, rfl, ha, hb, q⟩ := h
 cases rx; cases ry
 obtain ⟨its, rv, pl, _⟩ := I.tuple (SqT.of ha)
 obtain ⟨its2, rv2, pl2, _⟩ := I.tuple (SqT.of hb)
 cases rv2
 refine SeqAt.eq_tupleAt (e := fun _ => true) pl pl2 (by omega) (fun j h1 h2 => absurd h2 (by simp)) ⟨.bl _, H, I, rfl, ?_⟩
 have e : its.length = xs.length := rv.length.symm
 rw [show ((List.range (min its.toArray.size ([] : List Value).toArray.size)).all (fun _ => true) && its.toArray.size == ([] : List Value).toArray.size) = xs.isEmpty from by
  cases xs with
  | nil => simp only [List.length_nil, List.length_eq_zero_iff] at e; subst e; rfl
  | cons x xs =>
   cases its with
   | nil => cases e
   | cons i its => simp]
 exact q
def rNeL0 : R2 := fun x y H Q => ∃ a b xs, x = .ref a /\ y = .ref b /\ H a = some (.lst xs) /\ H b = some (.lst []) /\ Q (.bl (!xs.isEmpty)) H
end
end L2
namespace L2
open PySem PySem.Spec PyProof.Rows PySem.W HT
section
variable {X : Cx}
theorem op_neL0 (hu : X.A.units + 64 < cLine) : OpR X (compareOp .NotEq) rNeL0 := by
 intro pins s σ H x y v u Q I rx ry h
 obtain ⟨a, b, xs, rfl, rfl, ha, hb, q⟩ := h
 cases rx; cases ry
 obtain ⟨its, rv, pl, _⟩ := I.list (SqL.of ha)
 obtain ⟨its2, rv2, pl2, _⟩ := I.list (SqL.of hb)
 cases rv2
 have e : xs.length = its.length := rv.length
 cases xs with
 | nil =>
  have e0 : its = [] := List.length_eq_zero_iff.mp e.symm
  subst e0
  exact SeqAt.RcNeAt.lists (e := fun _ => true) pl.isList pl2.isList rfl (by omega) (fun j h1 h2 => absurd h2 (by simp)) X.prog X.w X.xe _ ⟨.bl _, H, I, rfl, q⟩
 | cons x xs =>
  refine SeqAt.RcNeAt.lists_lengths pl.isList pl2.isList ?_ (by omega) X.prog X.w X.xe _ ⟨.bl _, H, I, rfl, q⟩
  cases its with
  | nil => cases e
  | cons i its => simp
def rInsert : V -> List V -> Hp -> VK -> Prop := fun x vs H Q => ∃ l xs k y, x = .ref l /\ vs = [.int (k : Nat), y] /\ H l = some (.lst xs) /\ k <= xs.length /\ xs.length < 1000 /\ Q .non (upd H l (.lst (xs.take k ++ y :: xs.drop k)))
theorem Vals.take' : ∀ {vs : List V} {us : List Value} (n : Nat), Vals vs us -> Vals (vs.take n) (us.take n)
 | _, _, 0, _ => .nil
 | _, _, _ + 1, .nil => .nil
 | _, _, n + 1, .cons a b => .cons a (Vals.take' n b)
theorem Vals.drop' : ∀ {vs : List V} {us : List Value} (n : Nat), Vals vs us -> Vals (vs.drop n) (us.drop n)
 | _, _, 0, r => r
 | _, _, _ + 1, .nil => .nil
 | _, _, n + 1, .cons _ b => Vals.drop' n b
theorem mt_insert : MtM X "list.insert" rInsert := by
 intro pins s σ H x vs v us Q I rx rv h
 obtain ⟨l, xs, k, y, rfl, ev, hH, hk, h1, q⟩ := h
 cases rx
 obtain ⟨x, hx⟩ : ∃ x : Int, x = (k : Int) := ⟨_, rfl⟩
 rw [<- hx] at ev
 subst ev
 obtain ⟨u1, u2, rfl, ru1, ru2⟩ := rv.two
 obtain ⟨t, rfl⟩ := ru1
 obtain ⟨z, its, n, r, hl, e⟩ := I.lstM hH
 have hz : its.toArray.size <= sizeLine := by rw [List.size_toArray]; omega
 have fx : Builtin.List.listFitsIndex x = true := fitsIndex_both (by omega) (by omega)
 refine call_meets F.slot_list_insert ⟨_, e, rfl⟩ F.entry_list_insert (F.args_list_insert_3 _ _ _) (PySem.AutoSeq1.list_insert_list_int_val_1 l its.toArray n x t u2 (by simp [fx]) hz) ⟨e, ?_⟩
 have hk' : k <= its.length := by omega
 refine ⟨.non, _, I.lset (its' := its.take k ++ u2 :: its.drop k) hH e ?_ ((r.take' k).append (.cons ru2 (r.drop' k))) ?_, rfl, q⟩
 ·have em : min x.toNat its.toArray.size = k := by rw [hx]; simp; omega
  show (let j := if x < 0 then _ else min x.toNat its.toArray.size; (its.toArray.extract 0 j).push u2 ++ its.toArray.extract j) = _
  rw [if_neg (by omega), em]
  apply Array.ext'
  simp
  exact List.take_of_length_le (by rw [List.length_drop]; omega)
 ·rw [List.length_append, List.length_cons, List.length_take, List.length_drop, sizeLine_eq]; omega
end
section
variable {X : Cx} {pins : List (Addr × Obj)} {σ : St} {H : Hp} {s : Shared} {p : Addr}
mutual
theorem Dt.reads (I : Inv X pins σ H s) : ∀ {v : V} {d : PyData} {u : Value}, Dt p H v d -> RelV v u -> ∃ as, Reads s.heap u d as
 | _, _, _, .non, r => by cases r; exact ⟨_, .none⟩
 | _, _, _, .bl b, r => by cases r; exact ⟨_, .bool b⟩
 | _, _, _, .int i, r => by obtain ⟨t, rfl⟩ := r; exact ⟨_, .int i t⟩
 | _, _, _, .str x, r => by obtain ⟨t, rfl⟩ := r; exact ⟨_, .str x t⟩
 | _, _, _, .lst (a := a) (xs := xs) _ e rs, r => by
  cases r
  obtain ⟨_, its, n, rv, at_⟩ := (show ObjOk X.prog X.w H s.heap a (.lst xs) from I.hok a _ e)
  obtain ⟨as, ra⟩ := Dts.reads I rs rv
  exact ⟨_, .list at_ rfl rfl ra⟩
 | _, _, _, .tup (a := a) (xs := xs) _ e rs, r => by
  cases r
  obtain ⟨_, its, rv, ob, at_, hc, n, hd, _⟩ := (show ObjOk X.prog X.w H s.heap a (.tup xs) from I.hok a _ e)
  obtain ⟨as, ra⟩ := Dts.reads I rs rv
  exact ⟨_, .tuple at_ hc hd ra⟩
 | _, _, _, .dct (a := a) _ e, r => by
  cases r
  obtain ⟨_, _, vs, kv, o, es, ep, g1, g2, g3, _, g4, _⟩ := (show ObjOk X.prog X.w H s.heap a (.dK []) from I.hok a _ e)
  cases kv
  have e0 : es.toList = [] := by cases h : es.toList with
   | nil => rfl
   | cons a b => rw [h] at g4; cases g4
  exact ⟨_, .dict (kvs := []) g1 g2.1 g3 (by rw [e0]; exact .nil) (by rw [e0]; exact .nil)⟩
theorem Dts.reads (I : Inv X pins σ H s) : ∀ {vs : List V} {ds : List PyData} {us : List Value}, Dts p H vs ds -> Vals vs us -> ∃ as, ReadsAll s.heap us ds as
 | _, _, _, .nil, r => by cases r; exact ⟨_, .nil⟩
 | _, _, _, .cons r rs, rv => by
  cases rv with
  | cons q qs =>
   obtain ⟨as, h1⟩ := Dt.reads I r q
   obtain ⟨bs, h2⟩ := Dts.reads I rs qs
   exact ⟨_, .cons h1 h2⟩
end
mutual
theorem Dt.reprK (I : Inv X pins σ H s) : ∀ {v : V} {d : PyData} {u : Value}, Dt p H v d -> RelV v u -> d.showable = true -> d.shown.length <= sizeLine -> ∃ bs, ReadAtMost s.heap d.depth bs /\ ReprK X.prog X.w bs s.heap d.depth u d.shown
 | _, _, _, .non, r, _, _ => by cases r; exact ⟨[], (fun _ h => nomatch h), by simp only [PyData.shown]; exact .of_is ReprIs.none _ _ _⟩
 | _, _, _, .bl b, r, _, _ => by cases r; exact ⟨[], (fun _ h => nomatch h), by simp only [PyData.shown]; exact .of_is (ReprIs.bool b) _ _ _⟩
 | _, _, _, .int i, r, hs, _ => by obtain ⟨t, rfl⟩ := r; exact ⟨[], (fun _ h => nomatch h), by simp only [PyData.shown]; exact .of_is (ReprIs.int t (by simpa [PyData.showable] using hs)) _ _ _⟩
 | _, _, _, .str x, r, _, hz => by obtain ⟨t, rfl⟩ := r; exact ⟨[], (fun _ h => nomatch h), by simp only [PyData.shown]; exact .of_is (ReprIs.str x t (by simpa only [PyData.shown] using hz)) _ _ _⟩
 | _, _, _, .lst (a := a) (xs := xs) (ds := ds) n e rs, r, hs, hz => by
  cases r
  obtain ⟨_, its, n', rv, h1⟩ := (show ObjOk X.prog X.w H s.heap a (.lst xs) from I.hok a _ e)
  have hz' : (listText (PyData.shownAll ds)).length <= sizeLine := by simpa only [PyData.shown] using hz
  obtain ⟨bs, hb, hk⟩ := Dts.reprK I rs rv (by simpa [PyData.showable] using hs) (fun t ht => Nat.le_trans (listText_mem_le ht) hz')
  obtain ⟨as, ra⟩ := Dts.reads I rs rv
  have r : Reads s.heap (.ref a) (.list ds) _ := .list h1 rfl rfl ra
  have hna : a ∉ bs := not_mem_of_deeper r (by simp only [PyData.depth]; omega) hb
  refine ⟨a :: bs, ReadAtMost.cons r (by simp only [PyData.depth]; omega) hb, ?_⟩
  simp only [PyData.depth, PyData.shown]
  cases its with
  | nil =>
   cases ra
   simp only [PyData.shownAll, listText_nil]
   exact ReprK.listEmpty h1 rfl rfl
  | cons x l => exact ReprK.list h1 rfl rfl hna (by simpa using hk.length_eq) (fun i y e => hk.item i y (by simpa using e))
 | _, _, _, .tup (a := a) (xs := xs) (ds := ds) n e rs, r, hs, hz => by
  cases r
  obtain ⟨_, its, rv, ob, h1, h2, n', h3, _⟩ := (show ObjOk X.prog X.w H s.heap a (.tup xs) from I.hok a _ e)
  have hz' : (tupleText (PyData.shownAll ds)).length <= sizeLine := by simpa only [PyData.shown] using hz
  obtain ⟨bs, hb, hk⟩ := Dts.reprK I rs rv (by simpa [PyData.showable] using hs) (fun t ht => Nat.le_trans (tupleText_mem_le ht) hz')
  obtain ⟨as, ra⟩ := Dts.reads I rs rv
  have r : Reads s.heap (.ref a) (.tuple ds) _ := .tuple h1 h2 h3 ra
  have hna : a ∉ bs := not_mem_of_deeper r (by simp only [PyData.depth]; omega) hb
  refine ⟨a :: bs, ReadAtMost.cons r (by simp only [PyData.depth]; omega) hb, ?_⟩
  simp only [PyData.depth, PyData.shown]
  exact ReprK.tuple h1 h2 h3 hna hk
 | _, _, _, .dct (a := a) n e, r, hs, hz => by
  cases r
  obtain ⟨as, rd⟩ := Dt.reads I (.dct n e) (rfl : RelV (.ref a) (.ref a))
  obtain ⟨_, ns, vs, kv, o, es, ep, g1, g2, g3, _, g4, _⟩ := (show ObjOk X.prog X.w H s.heap a (.dK []) from I.hok a _ e)
  cases kv
  have e0 : es.toList = [] := by cases h : es.toList with
   | nil => rfl
   | cons a b => rw [h] at g4; cases g4
  refine ⟨a :: [], ReadAtMost.cons rd (Nat.zero_le _) (fun _ h => nomatch h), ?_⟩
  exact ReprK.dict (as := []) (d := 0) (ps := []) g1 g2.1 g3 ns (by simp) (by rw [e0]; exact .nil)
theorem Dts.reprK (I : Inv X pins σ H s) : ∀ {vs : List V} {ds : List PyData} {us : List Value}, Dts p H vs ds -> Vals vs us -> PyData.showableAll ds = true -> (∀ t ∈ PyData.shownAll ds, t.length <= sizeLine) ->
  ∃ bs, ReadAtMost s.heap (PyData.depthAll ds) bs /\ ReprAllK X.prog X.w bs s.heap (PyData.depthAll ds) us (PyData.shownAll ds)
 | _, _, _, .nil, r, _, _ => by cases r; exact ⟨[], (fun _ h => nomatch h), by simp only [PyData.shownAll]; exact .nil⟩
 | _, _, _, .cons (d := d) (ds := ds) r rs, rv, hs, hz => by
  cases rv with
  | cons q qs =>
   have hs' : d.showable = true /\ PyData.showableAll ds = true := by simpa [PyData.showableAll] using hs
   obtain ⟨b1, hb1, k1⟩ := Dt.reprK I r q hs'.1 (hz _ (by simp only [PyData.shownAll]; exact List.mem_cons_self ..))
   obtain ⟨b2, hb2, k2⟩ := Dts.reprK I rs qs hs'.2 (fun t ht => hz t (by simp only [PyData.shownAll]; exact List.mem_cons_of_mem _ ht))
   refine ⟨b1 ++ b2, ?_, ?_⟩
   ·simp only [PyData.depthAll]
    exact (hb1.mono (Nat.le_max_left _ _)).append (hb2.mono (Nat.le_max_right _ _))
   ·simp only [PyData.depthAll, PyData.shownAll]
    exact .cons ((k1.more fun b hb => List.mem_append_left _ hb).level_le (Nat.le_max_left _ _)) (k2.more_le (fun b hb => List.mem_append_right _ hb) (Nat.le_max_right _ _))
end
end
section
variable {X : Cx}
def rReprG : List V -> Hp -> VK -> Prop := fun xs H Q => ∃ p v d, xs = [v] /\ Dt p H v d /\ d.showable = true /\ d.depth <= 50 /\ d.shown.length <= 100000 /\ Q (.str d.shown) H
theorem call_reprG (hu : X.A.units + 64 < cLine) (hg : X.A.guards = some []) : CallR X (.builtin "repr") rReprG := by
 intro pins s σ H xs us Q I r h
 obtain ⟨p, v, d, rfl, rd, hs, hd, hl, q⟩ := h
 obtain ⟨u, rfl, rx⟩ := vals1 r
 have hz : d.shown.length <= sizeLine := by rw [sizeLine_eq]; omega
 have fin : ∀ h' k tk, (∀ b o, s.heap.get? b = some o -> h'.get? b = some o) -> EP X pins σ Q (.str d.shown k) { s with heap := h', toks := tk } := fun h' k tk kp => ⟨.str d.shown, H, I.kept kp, ⟨_, rfl⟩, q⟩
 have fin' : ∀ h' k tk, (∀ b o, s.heap.get? b = some o -> h'.get? b = some o) -> ∃ x t, Value.str d.shown k = .str x t /\ EP X pins σ Q (.str d.shown k) { s with heap := h', toks := tk } := fun h' k tk kp => ⟨_, _, rfl, fin h' k tk kp⟩
 cases rd with
 | non => cases rx; exact P.repr_of_none ⟨.str (PyData.shown .none), H, I.tok _, ⟨_, rfl⟩, q⟩
 | bl b => cases rx; exact P.repr_of_bool ⟨.str (PyData.shown (.bool b)), H, I.tok _, ⟨_, by cases b <;> rfl⟩, q⟩
 | int i => obtain ⟨t, rfl⟩ := rx; exact P.repr_of_int (by simpa [PyData.showable] using hs) ⟨.str (PyData.shown (.int i)), H, I.tok _, ⟨_, rfl⟩, q⟩
 | str x => obtain ⟨t, rfl⟩ := rx; exact P.repr_of_str ⟨.str (PyData.shown (.str x)), H, I.tok _, ⟨_, rfl⟩, q⟩ (by simpa only [PyData.shown] using hz)
 | @lst a xs ds n e rs =>
  cases rx
  obtain ⟨_, its, n', rv, h1⟩ := (show ObjOk X.prog X.w H s.heap a (.lst xs) from I.hok a _ e)
  have hz' : (listText (PyData.shownAll ds)).length <= sizeLine := by simpa only [PyData.shown] using hz
  obtain ⟨bs, hb, hk⟩ := Dts.reprK I rs rv (by simpa [PyData.showable] using hs) (fun t ht => Nat.le_trans (listText_mem_le ht) hz')
  obtain ⟨as, ra⟩ := Dts.reads I rs rv
  have hna : a ∉ bs := not_mem_of_deeper (.list h1 rfl rfl ra : Reads s.heap (.ref a) (.list ds) _) (by simp only [PyData.depth]; omega) hb
  simp only [PyData.depth] at hd
  simp only [PyData.shown] at fin'
  refine call_repr_slot (by omega) ⟨_, h1, rfl⟩ F.slot_list_repr.toG ?_
  cases its with
  | nil =>
   cases ra
   simp only [PyData.shownAll, listText_nil] at fin'
   exact call_list_repr_empty ⟨_, h1, rfl⟩ h1 rfl (fin' s.heap _ _ fun _ _ e => e)
  | cons x l =>
   exact call_list_reprK h1 rfl rfl hna (by simpa using hk.length_eq) (fun i y e => hk.item i y (by simpa using e)) hg (fun b _ => Clear.nil b) (by show X.A.units + 1 + _ < cLine; omega) (fun _ _ z => z) fin' hz'
 | @tup a xs ds n e rs =>
  cases rx
  obtain ⟨_, its, rv, ob, h1, h2, n', h3, _⟩ := (show ObjOk X.prog X.w H s.heap a (.tup xs) from I.hok a _ e)
  have hz' : (tupleText (PyData.shownAll ds)).length <= sizeLine := by simpa only [PyData.shown] using hz
  obtain ⟨bs, hb, hk⟩ := Dts.reprK I rs rv (by simpa [PyData.showable] using hs) (fun t ht => Nat.le_trans (tupleText_mem_le ht) hz')
  obtain ⟨as, ra⟩ := Dts.reads I rs rv
  have hna : a ∉ bs := not_mem_of_deeper (.tuple h1 h2 h3 ra : Reads s.heap (.ref a) (.tuple ds) _) (by simp only [PyData.depth]; omega) hb
  simp only [PyData.depth] at hd
  simp only [PyData.shown] at fin'
  exact call_repr_slot (by omega) ⟨_, h1, h2⟩ F.slot_tuple_repr (call_tuple_reprK h1 h2 h3 hna hk hg (fun b _ => Clear.nil b) (by show X.A.units + 1 + _ < cLine; omega) (fun _ _ z => z) fin' hz')
 | @dct a n e =>
  cases rx
  obtain ⟨_, ns, vs, kv, o, es, ep, g1, g2, g3, _, g4, _⟩ := (show ObjOk X.prog X.w H s.heap a (.dK []) from I.hok a _ e)
  cases kv
  have e0 : es.toList = [] := by cases h : es.toList with
   | nil => rfl
   | cons a b => rw [h] at g4; cases g4
  exact call_repr_slot (by omega) ⟨_, g1, g2.1⟩ F.slot_dict_repr (call_dict_reprK (d := 0) (as := []) (ps := []) g1 g2.1 g3 ns (by simp) (by rw [e0]; exact .nil) hg (fun b _ => Clear.nil b) (by show X.A.units + 1 + _ < cLine; omega) (fun _ _ z => z) fin' hz)
end
end L2
namespace L2
open PySem PySem.Spec PyProof.Rows PySem.W HS
end L2
namespace L2
open PySem PySem.Spec PyProof.Rows
abbrev fnR (oc : Value) (od : Option Addr) (x q : Str) (st : Stmt) (dv kV doc pm : Value) (an : Option Addr) (cd ct : Value) (sl : Array (Option Value)) : Obj := ⟨oc, od, .func (PySem.W.fnOf x q (defArgs st) (defBody st) (defScope st) dv kV doc pm an cd ct), sl⟩
end L2
namespace L2
open PySem
end L2
namespace K31
open PySem L2 PySem.W
def top (i : Nat) : Stmt := PySem.Challenge.pw_parentlines_k31_entries_told_apart.main.body.getD i (.Pass ⟨0, 0, 0, 0⟩)
abbrev sIsWhole : Stmt := top 1
abbrev sIsName : Stmt := top 2
abbrev sIsEntry : Stmt := top 6
abbrev sAreSteps : Stmt := top 7
abbrev sIsStep : Stmt := top 8
abbrev sBegins : Stmt := top 9
abbrev sPot : Stmt := top 11
abbrev sDigit : Stmt := top 12
abbrev sNames : Stmt := top 13
abbrev sNumber : Stmt := top 14
abbrev sStep : Stmt := top 15
abbrev sEntry : Stmt := top 16
abbrev sPaths : Stmt := top 17
abbrev sPart : Stmt := top 18
abbrev sWith : Stmt := top 19
abbrev sOdd : Stmt := top 20
abbrev sTurned : Stmt := top 21
abbrev sSpoilt : Stmt := top 22
abbrev sLName : Stmt := top 23
abbrev sLWhole : Stmt := top 24
abbrev sLStep : Stmt := top 25
abbrev sLEntry : Stmt := top 26
abbrev sLaw : Stmt := top 27
structure Blt (mg : Str -> Option Value) : Prop where
 len : mg "len" = none
 max : mg "max" = none
 min : mg "min" = none
 abs : mg "abs" = none
 range : mg "range" = none
 any : mg "any" = none
 all : mg "all" = none
 list : mg "list" = none
 tuple : mg "tuple" = none
 enu : mg "enumerate" = none
theorem same_new {H : Hp} {q : Addr} {o : HO} (hq : H q = none) : Same H (upd H q o) := fun b u e => by rw [upd_ne (ne_of_none e hq)]; exact e
end K31
namespace K31
open PySem L2 PySem.W
end K31
namespace K31
open PySem L2 PySem.W
end K31
namespace K31
open PySem L2 PySem.W
def forBody (s : Stmt) : List Stmt := match s with | .For _ _ b _ _ => b | _ => []
def bodyAt (l : List Stmt) (i : Nat) : Stmt := l.getD i (.Pass ⟨0, 0, 0, 0⟩)
def asgV (s : Stmt) : Expr := match s with | .Assign _ v _ => v | _ => .Constant .none 0 ⟨0, 0, 0, 0⟩
def retV (s : Stmt) : Expr := match s with | .Return (some v) _ => v | _ => .Constant .none 0 ⟨0, 0, 0, 0⟩
def arg0 (e : Expr) : Expr := match e with | .Call _ (a :: _) _ _ => a | _ => .Constant .none 0 ⟨0, 0, 0, 0⟩
def subV (e : Expr) : Expr := match e with | .Subscript a _ _ => a | _ => .Constant .none 0 ⟨0, 0, 0, 0⟩
def eltOf (e : Expr) : Expr := match e with | .ListComp x _ _ _ => x | _ => .Constant .none 0 ⟨0, 0, 0, 0⟩
def compSc (e : Expr) : Scope := match e with | .ListComp _ _ sc _ => sc | _ => { kind := .function, names := [], isGenerator := false, isCoroutine := false }
theorem boot_tuple : bootBuiltins "tuple" = some (.type "tuple") := by decide +kernel
theorem boot_list : bootBuiltins "list" = some (.type "list") := by decide +kernel
end K31
namespace K31
open PySem L2 PySem.W
end K31
namespace K31
open PySem L2 PySem.W
end K31
namespace K31
open PySem L2
theorem boot_max : bootBuiltins "max" = some (.builtin "max") := by decide +kernel
theorem boot_abs : bootBuiltins "abs" = some (.builtin "abs") := by decide +kernel
section
variable {P : Program} {w : World} {K : PySem.W.Frag} {mg : Str -> Option Value} {base : Heap}
@[irreducible] def spPot (K : PySem.W.Frag) : Sp := fun vs H Q _ => ∃ (a : Addr) (ns : List Int) (k : Int), vs = [.ref a, .int k] /\ SqL K H a (ns.map V.int) /\ 0 <= k /\ k <= 100 /\ ns.length <= 63 /\
 ∀ (p : Addr) (x y : Int), H p = none -> 0 <= x -> 0 <= y -> y < 4294967296 -> Q (.ref p) (upd H p (.lst [.int x, .int y]))
theorem scPot : FnScope ["_law_script", "_law_k", "_law_cell"] ["_law_script", "_law_k"] (defScope sPot) := ⟨rfl, rfl, rfl, by decide +kernel, rfl, by decide +kernel, by decide +kernel⟩
theorem get_int {ns : List Int} {i : Nat} (h : i < ns.length) : ∃ z, (ns.map V.int)[i]? = some (V.int z) := ⟨ns[i], by rw [List.getElem?_map, List.getElem?_eq_getElem h]; rfl⟩
theorem ok_pot {f : Addr} {fd : FuncData} (F : Fun K "_law_pot" "_law_pot" sPot f fd) (B : Blt mg) : FnOk P w K mg base CX0 1 f fd ["_law_script", "_law_k"] (spPot K) := by
 refine F.ok scPot (fun vs H Q E h => ?_) (fun cdv A outer s H vs Q E hr h => ?_)
 ·unfold spPot at h; obtain ⟨a, ns, k, rfl, _⟩ := h; rfl
 ·unfold spPot at h
  obtain ⟨a, ns, k, rfl, hS, k0, k1, hl, q⟩ := h
  refine ⟨_, pss_cons (ps_set (i := 2) scPot.nd rfl (Or.inl rfl) pe_int)
   (pss_cons (ps_if (pt_cmpR op_lt (pv 1) (pe_callB call_len_seq (by rfl) B.len boot_len (pa_cons (pv 0) pa_nil)) (nomark _))
     (pss_one (ps_set (i := 2) scPot.nd rfl (Or.inl rfl) (pe_ix ix_list (pv 0) (pv 1) (fun _ _ => rfl)))) pss_nil)
   (pss_one (ps_ret (pe_lst (pa_cons (pe_callB (call_max2 rfl) (by rfl) B.max boot_max (pa_cons pe_int (pa_cons (pe_op op_sub (pe_callB call_abs (by rfl) B.abs boot_abs (pa_cons (pv 2) pa_nil)) (pe_op op_pow pe_int pe_int)) pa_nil)))
    (pa_cons (pe_op op_add (pe_op op_add (pe_op op_mod (pe_callB call_abs (by rfl) B.abs boot_abs (pa_cons (pv 2) pa_nil)) pe_int) (pe_op op_mul pe_int (pv 1))) pe_int) pa_nil)))))), ?_⟩
  refine ⟨_, rfl, _, rfl, a, _, rfl, .inl hS, _, _, rfl, rfl, _, rfl, ?_⟩
  have abs0 : ∀ c : Int, 0 <= (if c < 0 then -c else c) := fun c => by split <;> omega
  have fin : ∀ c : Int, ∀ p, H p = none -> Q (.ref p) (upd H p (.lst [.int (if (if c < 0 then -c else c) - 10 ^ (18 : Int).toNat > 0 then (if c < 0 then -c else c) - 10 ^ (18 : Int).toNat else 0), .int ((if c < 0 then -c else c) % 2147483587 + 101 * k + 3)])) := fun c p hp => by
   have h1 := Int.emod_nonneg (if c < 0 then -c else c) (show (2147483587 : Int) ≠ 0 by decide)
   have h2 := Int.emod_lt_of_pos (if c < 0 then -c else c) (show (0 : Int) < 2147483587 by decide)
   refine q p _ _ hp ?_ (by omega) (by omega)
   generalize (if c < 0 then -c else c) - 10 ^ (18 : Int).toNat = d
   split <;> omega
  have tail : ∀ c : Int, ∃ (x : V), ([some (.ref a), some (.int k), some (.int c)] : St)[2]? = some (some x) := fun c => ⟨_, rfl⟩
  refine ite2 (fun hk => ?_) (fun hk => ?_)
  ·have hk' : k < ((ns.map V.int).length : Int) := of_decide_eq_true hk
   rw [List.length_map] at hk'
   obtain ⟨z, hz⟩ := get_int (ns := ns) (i := k.toNat) (by omega)
   refine ⟨_, rfl, _, rfl, a, _, _, _, rfl, rfl, hS, (by rw [show k = ((k.toNat : Nat) : Int) by omega]; exact atI_nat hz), ?_⟩
   refine ⟨_, rfl, z, rfl, _, _, rfl, rfl, ⟨by decide, by decide, by decide⟩, _, _, rfl, rfl, _, _, rfl, ?_⟩
   refine ⟨_, rfl, z, rfl, _, _, rfl, rfl, (by show (0 : Int) < 2147483587; decide), _, rfl, _, _, rfl, rfl, .inl ⟨by decide, by decide⟩, _, _, rfl, rfl, _, _, rfl, rfl, (by show 2 <= sizeLine; rw [sizeLine_eq]; decide), fun p hp => fin z p hp⟩
  ·refine ⟨_, rfl, 0, rfl, _, _, rfl, rfl, ⟨by decide, by decide, by decide⟩, _, _, rfl, rfl, _, _, rfl, ?_⟩
   refine ⟨_, rfl, 0, rfl, _, _, rfl, rfl, (by show (0 : Int) < 2147483587; decide), _, rfl, _, _, rfl, rfl, .inl ⟨by decide, by decide⟩, _, _, rfl, rfl, _, _, rfl, rfl, (by show 2 <= sizeLine; rw [sizeLine_eq]; decide), fun p hp => fin 0 p hp⟩
@[irreducible] def spDigit : Sp := fun vs H Q _ => ∃ (p : Addr) (m x y : Int), vs = [.ref p, .int m] /\ H p = some (.lst [.int x, .int y]) /\ 0 <= x /\ 0 <= y /\ y < 4294967296 /\ 0 < m /\ m < 4611686018427387904 /\
 ∀ (d x' y' : Int), 0 <= d -> d < m -> 0 <= x' -> 0 <= y' -> y' < 4294967296 -> Q (.int d) (upd H p (.lst [.int x', .int y']))
theorem scDigit : FnScope ["_law_pot_here", "_law_many", "_law_digit_here"] ["_law_pot_here", "_law_many"] (defScope sDigit) := ⟨rfl, rfl, rfl, by decide +kernel, rfl, by decide +kernel, by decide +kernel⟩
theorem ok_digit {f : Addr} {fd : FuncData} (F : Fun K "_law_digit" "_law_digit" sDigit f fd) : FnOk P w K mg base CX0 1 f fd ["_law_pot_here", "_law_many"] spDigit := by
 refine F.ok scDigit (fun vs H Q E h => ?_) (fun cdv A outer s H vs Q E hr h => ?_)
 ·unfold spDigit at h; obtain ⟨p, m, x, y, rfl, _⟩ := h; rfl
 ·unfold spDigit at h
  obtain ⟨p, m, x, y, rfl, hp, x0, y0, y1, m0, m1, q⟩ := h
  refine ⟨_, pss_cons (ps_if (pt_cmpR op_gt (pe_ix ix_list (pv 0) pe_int (fun _ _ => rfl)) pe_int (nomark _))
    (pss_cons (ps_set (i := 2) scDigit.nd rfl (Or.inl rfl) (pe_op op_mod (pe_ix ix_list (pv 0) pe_int (fun _ _ => rfl)) (pv 1)))
    (pss_cons (ps_asg (pe_op op_fdivW (pe_ix ix_list (pv 0) pe_int (fun _ _ => rfl)) (pv 1)) (pg_sub (pv 0) pe_int set_list))
    (pss_one (ps_ret (pv 2))))) pss_nil)
   (pss_cons (ps_asg (pe_op op_mod (pe_op op_add (pe_op op_mul (pe_ix ix_list (pv 0) pe_int (fun _ _ => rfl)) pe_int) pe_int) pe_int) (pg_sub (pv 0) pe_int set_list))
   (pss_one (ps_ret (pe_op op_mod (pe_op op_fdiv (pe_op op_mod (pe_op op_mul (pe_ix ix_list (pv 0) pe_int (fun _ _ => rfl)) (pe_ix ix_list (pv 0) pe_int (fun _ _ => rfl))) pe_int) pe_int) (pv 1))))), ?_⟩
  have hl : SqL K H p [.int x, .int y] := SqL.of hp
  refine ⟨_, rfl, p, _, 0, _, rfl, rfl, hl, rfl, _, _, rfl, rfl, _, rfl, ?_⟩
  refine ite2 (fun hx => ?_) (fun hx => ?_)
  ·refine ⟨_, rfl, p, _, 0, _, rfl, rfl, hl, rfl, _, rfl, _, _, rfl, rfl, m0, ?_⟩
   refine ⟨_, rfl, p, _, 0, _, rfl, rfl, hl, rfl, _, rfl, _, _, rfl, rfl, ⟨m0, by omega⟩, _, rfl, p, _, 0, 0, rfl, rfl, hp, rfl, ?_⟩
   refine ⟨_, rfl, ?_⟩
   exact q _ _ _ (Int.emod_nonneg _ (by omega)) (Int.emod_lt_of_pos _ m0) (Int.ediv_nonneg x0 (by omega)) y0 y1
  ·refine ⟨_, rfl, p, _, 1, _, rfl, rfl, hl, rfl, _, _, rfl, rfl, .inr ⟨by decide, by decide⟩, _, _, rfl, rfl, _, _, rfl, rfl, (by show (0 : Int) < 2147483647; decide), _, rfl, p, _, 1, 1, rfl, rfl, hp, rfl, ?_⟩
   have h1 := Int.emod_nonneg (y * 39373 + 20011) (show (2147483647 : Int) ≠ 0 by decide)
   have h2 := Int.emod_lt_of_pos (y * 39373 + 20011) (show (0 : Int) < 2147483647 by decide)
   refine ⟨_, rfl, p, _, 1, _, rfl, rfl, SqL.of upd_same, rfl, _, rfl, p, _, 1, _, rfl, rfl, SqL.of upd_same, rfl, _, _, rfl, rfl, .inl ⟨Int.lt_of_lt_of_le (by decide) h1, Int.lt_of_lt_of_le h2 (by decide)⟩, _, _, rfl, rfl, (by show (0 : Int) < 2147483563; decide), _, _, rfl, rfl, ⟨by decide, by decide⟩, _, rfl, _, _, rfl, rfl, m0, ?_⟩
   exact q _ x _ (Int.emod_nonneg _ (by omega)) (Int.emod_lt_of_pos _ m0) x0 h1 (by omega)
end
end K31
namespace K31
open PySem L2
def PotOk (p : Addr) (H : Hp) : Prop := ∃ x y : Int, H p = some (.lst [.int x, .int y]) /\ 0 <= x /\ 0 <= y /\ y < 4294967296
structure PotAt (p : Addr) (H H' : Hp) : Prop where
 ok : PotOk p H'
 kp : ∀ b o, H b = some o -> b ≠ p -> H' b = some o
section
variable {p q : Addr} {H H1 H2 : Hp} {o : HO}
theorem PotAt.refl (h : PotOk p H) : PotAt p H H := ⟨h, fun _ _ e _ => e⟩
theorem PotAt.trans (a : PotAt p H H1) (b : PotAt p H1 H2) : PotAt p H H2 := ⟨b.ok, fun c o e n => b.kp c o (a.kp c o e n) n⟩
theorem PotOk.ne (h : PotOk p H) (hq : H q = none) : p ≠ q := let ⟨_, _, e, _⟩ := h; ne_of_none e hq
theorem PotAt.new (a : PotAt p H H1) (hq : H1 q = none) : PotAt p H (upd H1 q o) := by
 refine ⟨?_, fun b u e n => ?_⟩
 ·obtain ⟨x, y, e, r⟩ := id a.ok
  exact ⟨x, y, by rw [upd_ne (a.ok.ne hq)]; exact e, r⟩
 ·rw [upd_ne (ne_of_none (a.kp b u e n) hq)]; exact a.kp b u e n
theorem PotAt.free (a : PotAt p H H1) (hq : H1 q = none) : H q = none := by
 cases e : H q with
 | none => rfl
 | some u =>
  by_cases h : q = p
  ·subst h; obtain ⟨_, _, z, _⟩ := a.ok; rw [z] at hq; cases hq
  ·rw [a.kp q u e h] at hq; cases hq
theorem PotAt.write (a : PotAt p H H1) (hq : H q = none) (hp : p ≠ q) : PotAt p H (upd H1 q o) := by
 refine ⟨?_, fun b u e n => ?_⟩
 ·obtain ⟨x, y, e, r⟩ := id a.ok
  exact ⟨x, y, by rw [upd_ne hp]; exact e, r⟩
 ·rw [upd_ne (ne_of_none e hq)]; exact a.kp b u e n
theorem digit_sp {m : Int} {Q : VK} {E : XK} (h : PotOk p H) (m0 : 0 < m) (m1 : m < 4611686018427387904) (k : ∀ d H', 0 <= d -> d < m -> PotAt p H H' -> Q (.int d) H') : spDigit [.ref p, .int m] H Q E := by
 obtain ⟨x, y, e, x0, y0, y1⟩ := h
 unfold spDigit
 exact ⟨p, m, x, y, rfl, e, x0, y0, y1, m0, m1, fun d x' y' d0 d1 h1 h2 h3 => k d _ d0 d1 ⟨⟨x', y', upd_same, h1, h2, h3⟩, fun b o z n => by rw [upd_ne n]; exact z⟩⟩
end
theorem sum_signs : ∀ cs : List Nat, ((cs.map sign).map (·.length)).sum = cs.length
 | [] => rfl
 | c :: cs => by
  have e : (sign c).length = 1 := rfl
  simp only [List.map_cons, List.sum_cons, sum_signs cs, List.length_cons, e]; omega
abbrev letters : Str := "abcdefghijklmnopqrstuvwxyz"
theorem letter_at {d : Int} (h0 : 0 <= d) (h1 : d < 26) : ∃ c : Nat, atI letters.cps.toList d = some c /\ 97 <= c /\ c <= 122 /\ c = 97 + d.toNat := by
 have all : ∀ i : Nat, i < 26 -> letters.cps.toList[i]? = some (97 + i) := by decide +kernel
 refine ⟨97 + d.toNat, ?_, by omega, by omega, rfl⟩
 rw [show d = ((d.toNat : Nat) : Int) by omega]
 exact atI_nat (all d.toNat (by omega))
section
variable {P : Program} {w : World} {K : PySem.W.Frag} {mg : Str -> Option Value} {base : Heap}
@[irreducible] def spNames : Sp := fun vs H Q _ => ∃ (p : Addr) (m : Nat), vs = [.ref p, .int m] /\ PotOk p H /\ m <= 20 /\
 ∀ (l : Addr) (ys : List Str) (H' : Hp), H l = none -> ys.length = m -> (∀ y ∈ ys, Nm y) -> ys.Nodup -> PotAt p H H' -> H' l = some (.lst (ys.map V.str)) -> Q (.ref l) H'
abbrev nNames : List Str := ["_law_pot_here", "_law_many", "_law_letters", "_law_found", "_law_k", "_law_size", "_law_name", "_law_some"]
theorem scNames : FnScope nNames ["_law_pot_here", "_law_many"] (defScope sNames) := ⟨rfl, rfl, rfl, by decide +kernel, rfl, by decide +kernel, by decide +kernel⟩
def ifBody (s : Stmt) : List Stmt := match s with | .If _ b _ _ => b | _ => []
abbrev scC1 : Scope := compSc (arg0 (asgV (bodyAt (forBody (bodyAt (defBody sNames) 2)) 1)))
abbrev scC2 : Scope := compSc (asgV (bodyAt (ifBody (bodyAt (forBody (bodyAt (defBody sNames) 2)) 2)) 0))
abbrev scC3 : Scope := compSc (subV (asgV (bodyAt (ifBody (bodyAt (forBody (bodyAt (defBody sNames) 2)) 2)) 1)))
theorem cs1 : CompScope nNames (defScope sNames) ["_law_turn", "_law_letters", "_law_pot_here"] [none, some 2, some 0] scC1 := ⟨rfl, by decide +kernel, by decide +kernel, rfl, fv_of (by decide +kernel), by decide +kernel⟩
theorem cs2 : CompScope nNames (defScope sNames) ["_law_turn", "_law_letters", "_law_name"] [none, some 2, some 6] scC2 := ⟨rfl, by decide +kernel, by decide +kernel, rfl, fv_of (by decide +kernel), by decide +kernel⟩
theorem cs3 : CompScope nNames (defScope sNames) ["_law_one", "_law_found"] [none, some 3] scC3 := ⟨rfl, by decide +kernel, by decide +kernel, rfl, fv_of (by decide +kernel), by decide +kernel⟩
theorem ok_names {f fD : Addr} {fd fdD : FuncData} (F : Fun K "_law_names" "_law_names" sNames f fd) (B : Blt mg) (FD : Fun K "_law_digit" "_law_digit" sDigit fD fdD) (bD : Binds K fdD ["_law_pot_here", "_law_many"] []) (mD : mg "_law_digit" = some (.ref fD)) :
    FnOk P w K mg base CX0 3 f fd ["_law_pot_here", "_law_many"] spNames := by
  have GD : FnOk P w K mg base CX0 1 fD fdD ["_law_pot_here", "_law_many"] spDigit := ok_digit FD
  refine F.ok scNames (fun vs H Q E h => ?_) (fun cdv A outer s H vs Q E hr h => ?_)
  · unfold spNames at h; obtain ⟨p, m, rfl, _⟩ := h; rfl
  · unfold spNames at h
    obtain ⟨p, m, rfl, hp, m1, q⟩ := h
    have hr1 : Room 1 _ := hr.mono (by decide)
    refine ⟨_, pss_cons (ps_set (i := 2) scNames.nd rfl (Or.inr rfl) pe_str)
      (pss_cons (ps_set (i := 3) scNames.nd rfl (Or.inr rfl) (pe_lst pa_nil))
      (pss_cons (ps_for PassesOwn.never rfl (pi_range1 rfl B.range (pa_cons (pv 1) pa_nil)) (pg_name (i := 4) scNames.nd rfl (Or.inl rfl))
        (pss_cons (ps_set (i := 5) scNames.nd rfl (Or.inl rfl) (pe_op op_add pe_int (pe_call GD hr1 rfl mD FD.kp bD .nil pass0 (pa_cons (pv 0) (pa_cons (pe_ix ix_list (pe_lst (pa_cons pe_int (pa_cons pe_int (pa_cons pe_int pa_nil))))
            (pe_call GD hr1 rfl mD FD.kp bD .nil pass0 (pa_cons (pv 0) (pa_cons pe_int pa_nil))) (fun _ _ => rfl)) pa_nil)))))
        (pss_cons (ps_set (i := 6) scNames.nd rfl (Or.inr rfl) (pe_bm PySem.F.plainAttrs_str PySem.F.slot_str_join PySem.F.type_str_join mt_join pe_str
            (pa_cons (pe_comp rfl cs1 (pi_range1 rfl B.range (pa_cons (pv 5) pa_nil)) (fun s H fp => ⟨pg_name (i := 0) cs1.nd rfl (Or.inl rfl), pifs_nil, pe_ix ix_str (pv 1) (pe_call GD hr1 rfl mD FD.kp bD .nil pass0 (pa_cons (pv 2) (pa_cons pe_int pa_nil))) (fun _ _ => rfl)⟩)) pa_nil)))
        (pss_cons (ps_if (pt_cmpR op_in_seq (pv 6) (pv 3) rfl)
            (pss_cons (ps_setComp (i := 7) rfl cs2 scNames.nd rfl rfl (pi_range1 rfl B.range (pa_cons (pe_op op_add (pv 1) pe_int) pa_nil)) (fun s H fp => ⟨pg_name (i := 0) cs2.nd rfl (Or.inl rfl), pifs_nil,
                pe_op op_add_str (pe_op op_add_str (pe_slice sl_str (pv 2) po_none (po_some pe_int)) (pe_ix ix_str (pv 1) (pv 0) (fun _ _ => rfl))) pe_str⟩))
            (pss_one (ps_set (i := 6) scNames.nd rfl (Or.inr rfl) (pe_ix ix_list (pe_comp rfl cs3 (pi_list (pv 7)) (fun s H fp => ⟨pg_name (i := 0) cs3.nd rfl (Or.inl rfl), pifs_one (pt_cmpR (op_notIn_K K rfl) (pv 0) (pv 1) rfl), pv 0⟩)) pe_int (fun _ _ => rfl)))))
            pss_nil)
        (pss_one (ps_expr (pe_bm PySem.F.plainAttrs_list PySem.F.slot_list_append PySem.F.type_list_append mt_append (pv 3) (pa_cons (pv 6) pa_nil))))))))
      (pss_one (ps_ret (pv 3))))), ?_⟩
    refine ⟨Nat.zero_le _, fun l hl => ?_⟩
    have hpl : p ≠ l := hp.ne hl
    have em : ((m : Int)).toNat = m := Int.toNat_natCast m
    refine ⟨_, rfl, (m : Int), rfl, by omega, by omega, for_range (fun i σ H1 => ∃ (ys : List Str) (v4 v5 v6 v7 : Option V), σ = [some (.ref p), some (.int m), some (.str letters), some (.ref l), v4, v5, v6, v7] /\ ys.length = i /\ (∀ y ∈ ys, Nm y) /\ ys.Nodup /\ PotAt p H H1 /\ H1 l = some (.lst (ys.map V.str)))
      ⟨[], none, none, none, none, rfl, rfl, (fun y hy => by simp at hy), List.nodup_nil, (PotAt.refl hp).new hl, upd_same⟩ ?_ ?_⟩
    · rintro i σ H1 hi ⟨ys, v4, v5, v6, v7, rfl, hlen, hnm, hnd, pa, hl1⟩
      rw [em] at hi
      refine ⟨_, rfl, by show 3 <= sizeLine; rw [sizeLine_eq]; decide, fun a hq => ⟨_, rfl, ?_⟩⟩
      have nqp : a ≠ p := Ne.symm (pa.ok.ne hq)
      refine digit_sp (p := p) (m := 3) ((PotAt.refl pa.ok).new hq).ok (by decide) (by decide) fun d H2 d0 d1 pb => ?_
      obtain ⟨mv, hat, mv0, mv1⟩ : ∃ mv : Int, atI [V.int 1, V.int 2, V.int 8] d = some (V.int mv) /\ 0 < mv /\ mv <= 8 := by
        have : d = 0 \/ d = 1 \/ d = 2 := by omega
        rcases this with rfl | rfl | rfl
        · exact ⟨1, rfl, by decide, by decide⟩
        · exact ⟨2, rfl, by decide, by decide⟩
        · exact ⟨8, rfl, by decide, by decide⟩
      refine ⟨a, _, d, _, rfl, rfl, SqL.of (pb.kp a _ upd_same nqp), hat, ?_⟩
      refine digit_sp (p := p) (m := mv) pb.ok mv0 (by omega) fun e H3 e0 e1 pc => ⟨_, _, rfl, rfl, ?_⟩
      have pd : PotAt p H1 H3 := (((PotAt.refl pa.ok).new hq).trans pb).trans pc
      have hl3 : H3 l = some (.lst (ys.map V.str)) := pd.kp l _ hl1 (Ne.symm hpl)
      refine ⟨rfl, _, rfl, 1 + e, rfl, by omega, by omega, fun a1 ha1 => ?_⟩
      have na1 : p ≠ a1 := pc.ok.ne ha1
      refine comp_range (fun i zs τ H4 => ∃ (cs : List Nat) (t0 : Option V), zs = (cs.map sign).map V.str /\ cs.length = i /\ (∀ c ∈ cs, 97 <= c /\ c <= 122) /\ τ = [t0, some (.str letters), some (.ref p)] /\ PotAt p H3 H4 /\ H4 a1 = some (.lst zs))
        ⟨[], none, rfl, rfl, (fun c hc => by simp at hc), rfl, (PotAt.refl pc.ok).new ha1, upd_same⟩ (fun i zs τ H4 ⟨_, _, _, _, _, _, _, z⟩ => z) ?_ ?_
      · rintro j zs τ H4 hj ⟨cs, t0, rfl, hcl, haz, rfl, pe, hz⟩
        refine ⟨_, rfl, _, rfl, digit_sp (p := p) (m := 26) pe.ok (by decide) (by decide) fun d H5 d0 d1 pf => ?_⟩
        obtain ⟨c, hc, c0, c1, _⟩ := letter_at d0 d1
        have hz5 : H5 a1 = _ := pf.kp a1 _ hz (Ne.symm na1)
        refine ⟨letters, d, c, rfl, rfl, (by rw [sizeLine_eq]; decide +kernel), hc, hz5, ?_, cw_next hj ⟨cs ++ [c], _, ?_, ?_, ?_, rfl, ?_, upd_same⟩⟩
        · rw [List.length_map, List.length_map, hcl, sizeLine_eq]; omega
        · rw [List.map_append, List.map_append]; rfl
        · rw [List.length_append, hcl]; rfl
        · intro x hx
          rcases List.mem_append.mp hx with h | h
          · exact haz x h
          · have : x = c := by simpa using h
            rw [this]; exact ⟨c0, c1⟩
        · exact (pe.trans pf).write ((PotAt.refl pc.ok).free ha1) na1
      · rintro zs τ H4 ⟨cs, t0, rfl, hcl, haz, rfl, pe, hz⟩
        have hsl : ((cs.map sign).map (·.length)).sum = cs.length := by
          exact sum_signs cs
        refine ⟨("" : Str), a1, cs.map sign, rfl, rfl, .inl (SqL.of hz), ?_, ?_⟩
        · have : (Str.length ("" : Str)) = 0 := rfl
          rw [hsl, this, hcl]; omega
        rw [join_signs]
        generalize hnme : (⟨cs.toArray⟩ : Str) = nm
        have nmOk : Nm nm := by
          have el : nm.length = cs.length := by rw [<- hnme]; show cs.toArray.size = _; simp
          refine ⟨by omega, by omega, fun c hc => haz c ?_⟩
          rw [<- hnme] at hc; simpa using hc
        have pg : PotAt p H1 H4 := pd.trans pe
        have hl4 : H4 l = some (.lst (ys.map V.str)) := pe.kp l _ hl3 (Ne.symm hpl)
        refine ⟨_, rfl, _, rfl, l, _, rfl, .inl (SqL.of hl4), rfl, flat_strs _, _, rfl, ?_⟩
        rw [if_neg Bool.false_ne_true, inV_strs]
        refine ite2 (fun hin => ?_) (fun hin => ?_)
        · -- some = [..]
          refine ⟨_, rfl, _, _, rfl, rfl, (m : Int) + 1, rfl, by omega, by omega, fun a2 ha2 => ?_⟩
          refine comp_range (fun i zs τ H5 => ∃ t0 : Option V, zs = ((List.range i).map fun j => Txt.slice nm none (some 6) ++ sign (97 + j) ++ ("q" : Str)).map V.str /\ τ = [t0, some (.str letters), some (.str nm)] /\ H5 = upd H4 a2 (.lst zs))
            ⟨none, rfl, rfl, rfl⟩ (fun i zs τ H5 ⟨_, _, _, z⟩ => by rw [z]; exact upd_same) ?_ ?_
          · rintro j zs τ H5 hj ⟨t0, rfl, rfl, rfl⟩
            have hj' : j < m + 1 := by omega
            obtain ⟨c, hc, c0, c1, hce⟩ := letter_at (d := 0 + (j : Int)) (by omega) (by omega)
            have hce' : c = 97 + j := by rw [hce]; omega
            have l1 : (Txt.slice nm none (some 6)).length <= 6 := slice6_len nm
            refine ⟨_, rfl, _, rfl, nm, rfl, by have := nmOk.hi; omega, _, rfl, _, rfl, letters, _, c, rfl, rfl, (by rw [sizeLine_eq]; decide +kernel), hc, _, _, rfl, rfl, ?_, _, _, rfl, rfl, ?_, upd_same, ?_, cw_next hj ⟨_, ?_, rfl, ?_⟩⟩
            · show _ + 1 <= sizeLine; rw [sizeLine_eq]; omega
            · have e1 : (Txt.slice nm none (some 6) ++ (⟨#[c]⟩ : Str)).length = (Txt.slice nm none (some 6)).length + 1 := by
                show (_ ++ #[c] : Array Nat).size = _; rw [Array.size_append]; rfl
              have e2 : (("q" : Str)).length = 1 := by decide +kernel
              show (Txt.slice nm none (some 6) ++ (⟨#[c]⟩ : Str)).length + _ <= sizeLine
              rw [e1, e2, sizeLine_eq]; omega
            · rw [List.length_map, List.length_map, List.length_range, sizeLine_eq]; omega
            · rw [List.range_succ, List.map_append, List.map_append, hce']; rfl
            · rw [upd_upd]
          · rintro zs τ H5 ⟨t0, rfl, rfl, rfl⟩
            have em1 : ((m : Int) + 1).toNat = m + 1 := by omega
            generalize hcd : (List.range ((m : Int) + 1).toNat).map (fun j => Txt.slice nm none (some 6) ++ sign (97 + j) ++ ("q" : Str)) = cands
            have cnd : cands.Nodup := by
              rw [<- hcd]
              refine List.Pairwise.map _ (fun a b hab h => hab ?_) List.nodup_range
              have := cand_inj h
              omega
            have cnm : ∀ y ∈ cands, Nm y := by
              intro y hy
              rw [<- hcd] at hy
              obtain ⟨j, hj, rfl⟩ := List.mem_map.mp hy
              have := List.mem_range.mp hj
              exact cand_nm nmOk.az ⟨by omega, by omega⟩
            have clen : cands.length = m + 1 := by rw [<- hcd, List.length_map, List.length_range, em1]
            have hl5 : upd H4 a2 (.lst (cands.map V.str)) l = some (.lst (ys.map V.str)) := by rw [upd_ne (ne_of_none hl4 ha2)]; exact hl4
            refine ⟨_, rfl, a2, rfl, ⟨_, SqL.of upd_same⟩, fun a3 ha3 => ?_⟩
            refine comp_list (xs := cands.map V.str) (fun i zs τ H6 => ∃ t0 : Option V, zs = ((cands.take i).filter (fun y => !decide (y ∈ ys))).map V.str /\ τ = [t0, some (.ref l)] /\ H6 = upd (upd H4 a2 (.lst (cands.map V.str))) a3 (.lst zs))
              ⟨none, rfl, rfl, rfl⟩ (fun i zs τ H6 ⟨_, _, _, z⟩ => by rw [z]; exact ⟨upd_same, SqL.of (by rw [upd_ne (ne_of_none upd_same ha3)]; exact upd_same)⟩) ?_ ?_
            · rintro j x zs τ H6 hx ⟨t0, rfl, rfl, rfl⟩
              rw [List.getElem?_map] at hx
              obtain ⟨y, hy, rfl⟩ := Option.map_eq_some_iff.mp hx
              have hjl : j < (cands.map V.str).length := by rw [List.length_map]; exact (List.getElem?_eq_some_iff.mp hy).1
              have tk : cands.take (j + 1) = cands.take j ++ [y] := by rw [List.take_succ, hy]; rfl
              have hl6 : (upd (upd H4 a2 (.lst (cands.map V.str))) a3 (.lst (((cands.take j).filter (fun y => !decide (y ∈ ys))).map V.str))) l = some (.lst (ys.map V.str)) := by rw [upd_ne (ne_of_none hl5 ha3)]; exact hl5
              refine ⟨_, rfl, _, rfl, l, _, rfl, .inl (SqL.of hl6), rfl, flat_strs _, _, rfl, ?_⟩
              rw [if_pos rfl, inV_strs]
              refine ite2 (fun hn => ?_) (fun hn => ?_)
              · refine ⟨_, rfl, upd_same, ?_, cw_next hjl ⟨_, ?_, rfl, ?_⟩⟩
                · have h1 := List.length_filter_le (fun y => !decide (y ∈ ys)) (cands.take j)
                  have h2 : (cands.take j).length <= cands.length := by rw [List.length_take]; omega
                  rw [List.length_map, sizeLine_eq]; omega
                · rw [tk, List.filter_append, List.map_append, List.filter_cons, if_pos hn]; rfl
                · rw [upd_upd]
              · refine cw_next hjl ⟨_, ?_, rfl, rfl⟩
                rw [tk, List.filter_append, List.filter_cons, if_neg hn, List.filter_nil, List.append_nil]
            · rintro zs τ H6 ⟨t0, rfl, rfl, rfl⟩
              rw [List.length_map, List.take_length]
              obtain ⟨y0, hy0, hyn⟩ := pigeon (found := ys) cnd (by omega)
              have hmem : y0 ∈ cands.filter (fun y => !decide (y ∈ ys)) := List.mem_filter.mpr ⟨hy0, by simpa using hyn⟩
              cases hf : cands.filter (fun y => !decide (y ∈ ys)) with
              | nil => rw [hf] at hmem; simp at hmem
              | cons z1 zr =>
                have hz1 : z1 ∈ cands.filter (fun y => !decide (y ∈ ys)) := by rw [hf]; exact List.mem_cons_self
                obtain ⟨zc, zn⟩ := List.mem_filter.mp hz1
                have zn' : z1 ∉ ys := by simpa using zn
                have hl6 : (upd (upd H4 a2 (.lst (cands.map V.str))) a3 (.lst ((z1 :: zr).map V.str))) l = some (.lst (ys.map V.str)) := by rw [upd_ne (ne_of_none hl5 ha3)]; exact hl5
                have ph : PotAt p H (upd (upd H4 a2 (.lst (cands.map V.str))) a3 (.lst ((z1 :: zr).map V.str))) := ((pa.trans pg).new ha2).new ha3
                refine ⟨a3, _, 0, V.str z1, rfl, rfl, SqL.of upd_same, (show atI ((z1 :: zr).map V.str) ((0 : Nat) : Int) = some (V.str z1) from atI_nat rfl), ?_⟩
                refine ⟨_, rfl, .inl ⟨rfl, _, SqL.of hl6⟩, _, rfl, l, _, _, rfl, rfl, hl6, ?_, ?_⟩
                · rw [List.length_map, sizeLine_eq]; omega
                · refine ⟨ys ++ [z1], _, _, _, _, rfl, by rw [List.length_append, hlen]; rfl, ?_, ?_, ?_, ?_⟩
                  · intro y hy
                    rcases List.mem_append.mp hy with h | h
                    · exact hnm y h
                    · have : y = z1 := by simpa using h
                      rw [this]; exact cnm z1 zc
                  · rw [List.nodup_append]
                    exact ⟨hnd, by simp, fun a ha b hb => by have : b = z1 := by simpa using hb
                                                             rw [this]; exact fun h => zn' (h ▸ ha)⟩
                  · exact ph.write hl hpl
                  · rw [upd_same, List.map_append]; rfl
        · have hn' : nm ∉ ys := by simpa using hin
          have ph : PotAt p H H4 := pa.trans pg
          refine ⟨_, rfl, .inl ⟨rfl, _, SqL.of hl4⟩, _, rfl, l, _, _, rfl, rfl, hl4, ?_, ?_⟩
          · rw [List.length_map, sizeLine_eq]; omega
          · refine ⟨ys ++ [nm], _, _, _, _, rfl, by rw [List.length_append, hlen]; rfl, ?_, ?_, ?_, ?_⟩
            · intro y hy
              rcases List.mem_append.mp hy with h | h
              · exact hnm y h
              · have : y = nm := by simpa using h
                rw [this]; exact nmOk
            · rw [List.nodup_append]
              exact ⟨hnd, by simp, fun a ha b hb => by have : b = nm := by simpa using hb
                                                       rw [this]; exact fun h => hn' (h ▸ ha)⟩
            · exact ph.write hl hpl
            · rw [upd_same, List.map_append]; rfl
    · rintro σ H1 ⟨ys, v4, v5, v6, v7, rfl, hlen, hnm, hnd, pa, hl1⟩
      rw [em] at hlen
      exact ⟨_, rfl, q l ys H1 hl hlen hnm hnd pa hl1⟩
end
end K31
namespace K31
open PySem L2 PySem.W HT
theorem nm_ok {x : Str} (h : Nm x) : PyData.strOk x = true := by
 unfold PyData.strOk
 rw [<- Array.all_toList, List.all_eq_true]; intro c hc; have := (h.az c hc).2; exact decide_eq_true (by omega)
theorem strs_rep (H : Hp) : ∀ xs : List Str, RepAll H (xs.map V.str) (xs.map PyData.str)
 | [] => .nil
 | x :: xs => .cons (.str x) (strs_rep H xs)
theorem strs_lay : ∀ {xs : List Str}, (∀ x ∈ xs, Nm x) -> PyData.canLayAll0 (xs.map PyData.str) = true
 | [], _ => rfl
 | x :: xs, h => by
  show (PyData.strOk x && PyData.canLayAll0 (xs.map PyData.str)) = true
  rw [nm_ok (h x List.mem_cons_self), strs_lay fun y hy => h y (List.mem_cons_of_mem _ hy)]; rfl
theorem strs_depth : ∀ xs : List Str, PyData.depthAll (xs.map PyData.str) = 0
 | [] => rfl
 | x :: xs => by rw [List.map_cons]; simp only [PyData.depthAll, PyData.depth, strs_depth xs, Nat.max_self]
theorem eq_nil {H : Hp} {a b : Addr} {xs : List Str} {Q : VK} (ha : H a = some (.lst (xs.map V.str))) (hb : H b = some (.lst [])) (hn : ∀ x ∈ xs, Nm x) (q : Q (.bl xs.isEmpty) H) : rEqD (.ref a) (.ref b) H Q := by
 refine ⟨.list (xs.map PyData.str), .list [], .lst ha (strs_rep _ _), .lst hb .nil, strs_lay hn, rfl, by show PyData.depthAll _ + 1 <= 60; rw [strs_depth]; decide, ?_⟩
 cases xs with
 | nil => exact q
 | cons x xs => exact q
theorem cut_from (xs : List V) (k : Nat) : cutV xs (some (k : Int)) none = xs.drop k := by
 unfold cutV; rw [HT.sIx_none, HT.sIx_nat]
 by_cases h : k <= xs.length
 ·rw [Nat.min_eq_left h, List.take_of_length_le (by rw [List.length_drop]; omega)]
 ·rw [Nat.min_eq_right (by omega), List.drop_length, List.drop_of_length_le (by omega)]; simp
end K31
namespace K31
open PySem L2 PySem.W HT
structure Blt2 (mg : Str -> Option Value) : Prop where
 isi : mg "isinstance" = none
 str : mg "str" = none
 dict : mg "dict" = none
 sorted : mg "sorted" = none
theorem boot_isi : bootBuiltins "isinstance" = some (.builtin "isinstance") := by decide +kernel
theorem boot_str : bootBuiltins "str" = some (.type "str") := by decide +kernel
theorem boot_all : bootBuiltins "all" = some (.builtin "all") := by decide +kernel
theorem ite_ff {A B : Prop} {k : Bool} (hk : k = false) (h : B) : if k = true then A else B := by subst hk; exact h
theorem ite_tt {A B : Prop} {k : Bool} (hk : k = true) (h : A) : if k = true then A else B := by subst hk; exact h
section
variable {P : Program} {w : World} {K : Frag} {mg : Str -> Option Value} {base : Heap} {f : Addr} {fd : FuncData}
theorem scName : FnScope ["thing"] ["thing"] (defScope sIsName) := ⟨rfl, rfl, rfl, by decide +kernel, rfl, by decide +kernel, by decide +kernel⟩
abbrev eSig : Expr := arg0 (retV (bodyAt (defBody sIsName) 1))
theorem csSig : CompScope ["thing"] (defScope sIsName) ["sign"] [none] (compSc eSig) := ⟨rfl, by decide +kernel, by decide +kernel, rfl, fv_of (by decide +kernel), by decide +kernel⟩
end
end K31
namespace K31
open PySem L2 PySem.W HT
theorem boot_int : bootBuiltins "int" = some (.type "int") := by decide +kernel
theorem boot_bool : bootBuiltins "bool" = some (.type "bool") := by decide +kernel
structure Blt3 (mg : Str -> Option Value) : Prop where
 int : mg "int" = none
 bool : mg "bool" = none
def wholeD (d : PyData) : Bool := isT "int" d && !isT "bool" d
def nameS (x : Str) : Bool := decide (1 <= x.length) && (decide (x.length <= 8) && x.cps.toList.all fun c => decide (97 <= c) && decide (c <= 122))
def nameD : PyData -> Bool | .str x => nameS x | _ => false
section
variable {P : Program} {w : World} {K : Frag} {mg : Str -> Option Value} {base : Heap} {f : Addr} {fd : FuncData}
@[irreducible] def spWhole : Sp := fun vs H Q _ => ∃ (p : Addr) (v : V) (d : PyData), vs = [v] /\ Dt p H v d /\ Q (.bl (wholeD d)) H
theorem whole_sp {p : Addr} {v : V} {d : PyData} {H : Hp} {Q : VK} {E : XK} (r : Dt p H v d) (q : Q (.bl (wholeD d)) H) : spWhole [v] H Q E := by unfold spWhole; exact ⟨p, v, d, rfl, r, q⟩
theorem scWhole : FnScope ["thing"] ["thing"] (defScope sIsWhole) := ⟨rfl, rfl, rfl, by decide +kernel, rfl, by decide +kernel, by decide +kernel⟩
theorem ok_whole (F : Fun K "is_whole" "is_whole" sIsWhole f fd) (B2 : Blt2 mg) (B3 : Blt3 mg) : FnOk P w K mg base CX0 1 f fd ["thing"] spWhole := by
 refine F.ok scWhole (fun vs H Q E h => ?_) (fun cdv A outer s H vs Q E hr h => ?_)
 ·unfold spWhole at h; obtain ⟨p, v, d, rfl, _⟩ := h; rfl
 ·unfold spWhole at h
  obtain ⟨p, v, d, rfl, r, q⟩ := h
  refine ⟨_, pss_one (ps_ret (pe_and (pe_callB call_isi rfl B2.isi boot_isi (pa_cons (pv 0) (pa_cons (pe_bltn (v := .ty "int") rfl B3.int boot_int rfl) pa_nil))) (pe_one (pe_not (pe_callB call_isi rfl B2.isi boot_isi (pa_cons (pv 0) (pa_cons (pe_bltn (v := .ty "bool") rfl B3.bool boot_bool rfl) pa_nil))))))), ?_⟩
  refine ⟨_, rfl, isi_sp kit_int r ⟨_, rfl, ?_⟩⟩
  cases hb : isT "int" d with
  | false => rw [show wholeD d = false by unfold wholeD; rw [hb]; rfl] at q; exact q
  | true =>
   refine ⟨_, rfl, isi_sp kit_bool r ⟨_, rfl, ?_⟩⟩
   rw [show wholeD d = !isT "bool" d by unfold wholeD; rw [hb]; rfl] at q; exact q
theorem scLWhole : FnScope ["_law_thing"] ["_law_thing"] (defScope sLWhole) := ⟨rfl, rfl, rfl, by decide +kernel, rfl, by decide +kernel, by decide +kernel⟩
theorem ok_lwhole (F : Fun K "_law_is_whole" "_law_is_whole" sLWhole f fd) (B2 : Blt2 mg) (B3 : Blt3 mg) : FnOk P w K mg base CX0 1 f fd ["_law_thing"] spWhole := by
 refine F.ok scLWhole (fun vs H Q E h => ?_) (fun cdv A outer s H vs Q E hr h => ?_)
 ·unfold spWhole at h; obtain ⟨p, v, d, rfl, _⟩ := h; rfl
 ·unfold spWhole at h
  obtain ⟨p, v, d, rfl, r, q⟩ := h
  refine ⟨_, pss_one (ps_ret (pe_and (pe_callB call_isi rfl B2.isi boot_isi (pa_cons (pv 0) (pa_cons (pe_bltn (v := .ty "int") rfl B3.int boot_int rfl) pa_nil))) (pe_one (pe_not (pe_callB call_isi rfl B2.isi boot_isi (pa_cons (pv 0) (pa_cons (pe_bltn (v := .ty "bool") rfl B3.bool boot_bool rfl) pa_nil))))))), ?_⟩
  refine ⟨_, rfl, isi_sp kit_int r ⟨_, rfl, ?_⟩⟩
  cases hb : isT "int" d with
  | false => rw [show wholeD d = false by unfold wholeD; rw [hb]; rfl] at q; exact q
  | true =>
   refine ⟨_, rfl, isi_sp kit_bool r ⟨_, rfl, ?_⟩⟩
   rw [show wholeD d = !isT "bool" d by unfold wholeD; rw [hb]; rfl] at q; exact q
@[irreducible] def spName' : Sp := fun vs H Q _ => ∃ (p : Addr) (v : V) (d : PyData), vs = [v] /\ Dt p H v d /\ (∀ x, d = .str x -> x.length <= 100000) /\ ∀ H', Same H H' -> Q (.bl (nameD d)) H'
theorem name_sp' {p : Addr} {v : V} {d : PyData} {H : Hp} {Q : VK} {E : XK} (r : Dt p H v d) (hl : ∀ x, d = .str x -> x.length <= 100000) (q : ∀ H', Same H H' -> Q (.bl (nameD d)) H') : spName' [v] H Q E := by unfold spName'; exact ⟨p, v, d, rfl, r, hl, q⟩
theorem sgn_lo (c : Nat) : (!decide ((⟨#[c]⟩ : Str).cps.toList < (Str.ofString "a").cps.toList)) = decide (97 <= c) := by
 have hA : (Str.ofString "a").cps.toList = [97] := by decide +kernel
 rw [hA, <- decide_not]
 refine decide_eq_decide.mpr ?_
 simp [List.cons_lt_cons_iff]
theorem sgn_hi (c : Nat) : (!decide ((Str.ofString "z").cps.toList < (⟨#[c]⟩ : Str).cps.toList)) = decide (c <= 122) := by
 have hA : (Str.ofString "z").cps.toList = [122] := by decide +kernel
 rw [hA, <- decide_not]
 refine decide_eq_decide.mpr ?_
 simp [List.cons_lt_cons_iff]
theorem not_str {d : PyData} (h : isT "str" d = false) : nameD d = false := by cases d <;> first | rfl | cases h
theorem ok_name' (F : Fun K "is_name" "is_name" sIsName f fd) (B : Blt mg) (B2 : Blt2 mg) : FnOk P w K mg base CX0 1 f fd ["thing"] spName' := by
 refine F.ok scName (fun vs H Q E h => ?_) (fun cdv A outer s H vs Q E hr h => ?_)
 ·unfold spName' at h; obtain ⟨p, v, d, rfl, _⟩ := h; rfl
 ·unfold spName' at h
  obtain ⟨p0, v, d, rfl, r, hlen, q⟩ := h
  have hu := hr.units
  refine ⟨_, pss_cons (ps_if (PW.pt (pw_or (pt_not (pt_val (pe_callB call_isi rfl B2.isi boot_isi (pa_cons (pv 0) (pa_cons (pe_bltn (v := .ty "str") rfl B2.str boot_str rfl) pa_nil)))))
     (pw_or1 (pt_not (pt_chain op_le op_le pe_int (pe_callB call_len_str rfl B.len boot_len (pa_cons (pv 0) pa_nil)) pe_int))))) (pss_one (ps_ret pe_bl)) pss_nil)
   (pss_one (ps_ret (pe_callB (call_allB rfl) rfl B.all boot_all (pa_cons (pe_comp rfl csSig (pi_str (pv 0)) (fun s H fp => ⟨pg_name (i := 0) csSig.nd rfl (Or.inl rfl), pifs_nil, pe_chain op_le_str op_le_str pe_str (pv 0) pe_str⟩)) pa_nil)))), ?_⟩
  refine ⟨_, rfl, isi_sp kit_str r ⟨_, rfl, ?_⟩⟩
  cases hb : isT "str" d with
  | false => have q' := q _ (Same.refl _); rw [not_str hb] at q'; exact q'
  | true =>
   obtain ⟨x, rfl⟩ : ∃ x, d = .str x := by cases d with
    | str x => exact ⟨x, rfl⟩
    | _ => cases hb
   obtain rfl : v = .str x := by cases r; rfl
   have hlx := hlen x rfl
   refine ⟨_, rfl, x, rfl, by rw [sizeLine_eq]; omega, 1, x.length, rfl, rfl, _, rfl, ?_⟩
   by_cases h1 : 1 <= x.length
   ·refine ite_tt (decide_eq_true (by omega)) ?_
    refine ⟨x.length, 8, rfl, rfl, _, rfl, ?_⟩
    by_cases h8 : x.length <= 8
    ·have e8 : decide ((x.length : Int) <= 8) = true := decide_eq_true (by omega)
     have hlc : x.cps.size <= 8 := h8
     rw [e8]
     refine ⟨_, rfl, x, rfl, fun p hp => ?_⟩
     refine comp_str (fun i ys τ H1 => ∃ t0 : Option V, τ = [t0] /\ ys = ((x.cps.toList.take i).map fun c => decide (97 <= c) && decide (c <= 122)).map V.bl /\ H1 = upd H p (.lst ys)) ⟨none, rfl, rfl, rfl⟩ (fun i ys τ H1 ⟨_, _, _, z⟩ => by rw [z]; exact upd_same) ?_ ?_
     ·rintro i c ys τ H1 hc ⟨t0, rfl, rfl, rfl⟩
      have hil : i < x.cps.size := (Array.getElem?_eq_some_iff.mp hc).1
      have htk : x.cps.toList.take (i + 1) = x.cps.toList.take i ++ [c] := by rw [List.take_succ, Array.getElem?_toList, hc]; rfl
      refine ⟨_, rfl, _, _, rfl, rfl, _, rfl, ?_⟩
      rw [sgn_lo]
      have len : ((((x.cps.toList.take i).map fun c => decide (97 <= c) && decide (c <= 122)).map V.bl).length) < sizeLine := by rw [List.length_map, List.length_map, List.length_take, Array.length_toList, sizeLine_eq]; omega
      cases hlo : decide (97 <= c) with
      | false =>
       refine ite_ff rfl ⟨upd_same, len, cw_next hil ⟨_, rfl, ?_, by rw [upd_upd]⟩⟩
       rw [htk, List.map_append, List.map_append, List.map_cons, hlo]; rfl
      | true =>
       refine ite_tt rfl ⟨_, _, rfl, rfl, upd_same, len, cw_next hil ⟨_, rfl, ?_, by rw [upd_upd]⟩⟩
       rw [sgn_hi, htk, List.map_append, List.map_append, List.map_cons, hlo]; rfl
     ·rintro ys τ H1 ⟨t0, rfl, rfl, rfl⟩
      refine ⟨p, _, rfl, SqL.of upd_same, ?_⟩
      have q' := q _ (same_new (o := .lst (((x.cps.toList.take x.cps.size).map fun c => decide (97 <= c) && decide (c <= 122)).map V.bl)) hp)
      rw [show nameD (.str x) = ((x.cps.toList.take x.cps.size).map fun c => decide (97 <= c) && decide (c <= 122)).all id by
       show nameS x = _
       unfold nameS
       rw [decide_eq_true h1, decide_eq_true h8, List.all_map, List.take_of_length_le (by rw [Array.length_toList]; exact Nat.le_refl _)]; rfl] at q'
      exact q'
    ·have e8 : decide ((x.length : Int) <= 8) = false := decide_eq_false (by omega)
     rw [e8]
     have q' := q _ (Same.refl _)
     rw [show nameD (.str x) = false by show nameS x = _; unfold nameS; rw [decide_eq_false h8]; simp] at q'
     exact q'
   ·refine ite_ff (decide_eq_false (by omega)) ?_
    have q' := q _ (Same.refl _)
    rw [show nameD (.str x) = false by show nameS x = _; unfold nameS; rw [decide_eq_false h1]; simp] at q'
    exact ⟨_, rfl, q'⟩
end
end K31
namespace K31
open PySem L2 PySem.W HT
theorem dt_tup {p : Addr} {H : Hp} {v : V} {ds : List PyData} (r : Dt p H v (.tuple ds)) : ∃ a vs, v = .ref a /\ a ≠ p /\ H a = some (.tup vs) /\ Dts p H vs ds := by
 cases r with
 | tup n e rs => exact ⟨_, _, rfl, n, e, rs⟩
theorem dts_cons {p : Addr} {H : Hp} {vs : List V} {d : PyData} {ds : List PyData} (r : Dts p H vs (d :: ds)) : ∃ v ws, vs = v :: ws /\ Dt p H v d /\ Dts p H ws ds := by
 cases r with
 | cons a b => exact ⟨_, _, rfl, a, b⟩
theorem dts_nil {p : Addr} {H : Hp} {vs : List V} (r : Dts p H vs []) : vs = [] := by cases r; rfl
theorem dt_str {p : Addr} {H : Hp} {v : V} {x : Str} (r : Dt p H v (.str x)) : v = .str x := by cases r; rfl
theorem dt_int {p : Addr} {H : Hp} {v : V} {x : Int} (r : Dt p H v (.int x)) : v = .int x := by cases r; rfl
theorem is_tup {d : PyData} (h : isT "tuple" d = true) : ∃ ds, d = .tuple ds := by
 cases d with
 | tuple ds => exact ⟨ds, rfl⟩
 | _ => cases h
theorem is_str {d : PyData} (h : isT "str" d = true) : ∃ x, d = .str x := by
 cases d with
 | str x => exact ⟨x, rfl⟩
 | _ => cases h
theorem whole_int {d : PyData} (h : wholeD d = true) : ∃ n, d = .int n := by
 cases d with
 | int n => exact ⟨n, rfl⟩
 | _ => cases h
theorem at_0 {x : V} {xs : List V} : atI (x :: xs) 0 = some x := (show atI (x :: xs) ((0 : Nat) : Int) = some x from atI_nat rfl)
theorem at_1 {x y : V} {xs : List V} : atI (x :: y :: xs) 1 = some y := (show atI (x :: y :: xs) ((1 : Nat) : Int) = some y from atI_nat rfl)
theorem at_2 {x y z : V} {xs : List V} : atI (x :: y :: z :: xs) 2 = some z := (show atI (x :: y :: z :: xs) ((2 : Nat) : Int) = some z from atI_nat rfl)
theorem dec_s {a b : Str} : decide (V.str a = V.str b) = (a == b) := by
 rw [show (a == b) = decide (a = b) from rfl]
 exact decide_eq_decide.mpr ⟨fun e => by injection e, fun e => by rw [e]⟩
theorem bulk_mem : ∀ {ds : List PyData} {d : PyData}, d ∈ ds -> d.bulk + 1 <= PyData.bulkAll ds
 | e :: ds, d, h => by
  rcases List.mem_cons.mp h with rfl | h
  ·simp only [PyData.bulkAll]; omega
  ·have := bulk_mem h; simp only [PyData.bulkAll]; omega
def Sm (d : PyData) : Prop := d.bulk <= 100000
theorem Sm.str {d : PyData} (h : Sm d) : ∀ x, d = .str x -> x.length <= 100000 := fun x e => by subst e; exact h
theorem Sm.tup {ds : List PyData} (h : Sm (.tuple ds)) : ∀ d ∈ ds, Sm d := fun d hd => by
 have := bulk_mem hd
 have h' : PyData.bulkAll ds <= 100000 := h
 unfold Sm; omega
theorem bulk_len : ∀ ds : List PyData, ds.length <= PyData.bulkAll ds
 | [] => Nat.le_refl _
 | d :: ds => by have := bulk_len ds; simp only [PyData.bulkAll, List.length_cons]; omega
def begD : PyData -> Bool | .tuple (.str _ :: _) => true | _ => false
def stepD : PyData -> Bool
 | .tuple (.str s :: ds) => if s == "onward" then ds.isEmpty else match ds with
  | [e] => if s == "ask" then nameD e else if s == "times" then (match e with | .int n => decide (-9 <= n) && decide (n <= 9) | _ => false) else s == "add" && wholeD e
  | _ => false
 | _ => false
def stepsD : PyData -> Bool | .tuple ds => decide (ds.length <= 4) && ds.all stepD | _ => false
def entryD : PyData -> Bool
 | .tuple (.str s :: ds) => match ds with
  | [e] => if s == "plain" then wholeD e else if s == "ahead" then false else (s == "behind" || s == "shut") && stepsD e
  | [e, g] => s == "ahead" && (nameD e && wholeD g)
  | _ => false
 | _ => false
section
variable {P : Program} {w : World} {K : Frag} {mg : Str -> Option Value} {base : Heap} {f : Addr} {fd : FuncData}
@[irreducible] def spBeg : Sp := fun vs H Q _ => ∃ (p : Addr) (v : V) (d : PyData), vs = [v] /\ Dt p H v d /\ Q (.bl (begD d)) H
theorem beg_sp {p : Addr} {v : V} {d : PyData} {H : Hp} {Q : VK} {E : XK} (r : Dt p H v d) (q : Q (.bl (begD d)) H) : spBeg [v] H Q E := by unfold spBeg; exact ⟨p, v, d, rfl, r, q⟩
theorem scBeg : FnScope ["thing"] ["thing"] (defScope sBegins) := ⟨rfl, rfl, rfl, by decide +kernel, rfl, by decide +kernel, by decide +kernel⟩
theorem beg_no {d : PyData} (h : isT "tuple" d = false) : begD d = false := by cases d <;> first | rfl | cases h
theorem ok_beg (F : Fun K "begins_with_text" "begins_with_text" sBegins f fd) (B : Blt mg) (B2 : Blt2 mg) : FnOk P w K mg base CX0 1 f fd ["thing"] spBeg := by
 refine F.ok scBeg (fun vs H Q E h => ?_) (fun cdv A outer s H vs Q E hr h => ?_)
 ·unfold spBeg at h; obtain ⟨p, v, d, rfl, _⟩ := h; rfl
 ·unfold spBeg at h
  obtain ⟨p, v, d, rfl, r, q⟩ := h
  refine ⟨_, pss_one (ps_ret (pe_and (pe_callB call_isi rfl B2.isi boot_isi (pa_cons (pv 0) (pa_cons (pe_bltn (v := .ty "tuple") rfl B.tuple boot_tuple rfl) pa_nil)))
   (pe_and (pe_cmpR op_gt (pe_callB call_len_seq rfl B.len boot_len (pa_cons (pv 0) pa_nil)) pe_int (nomark _))
    (pe_one (pe_callB call_isi rfl B2.isi boot_isi (pa_cons (pe_ix ix_tup (pv 0) pe_int (fun _ _ => rfl)) (pa_cons (pe_bltn (v := .ty "str") rfl B2.str boot_str rfl) pa_nil))))))), ?_⟩
  refine ⟨_, rfl, isi_sp kit_tuple r ⟨_, rfl, ?_⟩⟩
  cases hb : isT "tuple" d with
  | false => rw [beg_no hb] at q; exact q
  | true =>
   obtain ⟨ds, rfl⟩ := is_tup hb
   obtain ⟨a, vs, rfl, na, ha, rs⟩ := dt_tup r
   refine ⟨_, rfl, a, _, rfl, .inr (SqT.of ha), _, _, rfl, rfl, _, rfl, ?_⟩
   cases ds with
   | nil =>
    obtain rfl := dts_nil rs
    exact q
   | cons e ds =>
    obtain ⟨u, us, rfl, re, rs⟩ := dts_cons rs
    refine ite_tt (decide_eq_true (by rw [List.length_cons]; omega)) ?_
    refine ⟨_, rfl, a, _, 0, u, rfl, rfl, SqT.of ha, at_0, isi_sp kit_str re ?_⟩
    rw [show begD (.tuple (e :: ds)) = isT "str" e by cases e <;> rfl] at q
    exact q
@[irreducible] def spIStep : Sp := fun vs H Q _ => ∃ (p : Addr) (v : V) (d : PyData), vs = [v] /\ Dt p H v d /\ Sm d /\ ∀ H', Same H H' -> Q (.bl (stepD d)) H'
theorem istep_sp {p : Addr} {v : V} {d : PyData} {H : Hp} {Q : VK} {E : XK} (r : Dt p H v d) (h : Sm d) (q : ∀ H', Same H H' -> Q (.bl (stepD d)) H') : spIStep [v] H Q E := by unfold spIStep; exact ⟨p, v, d, rfl, r, h, q⟩
theorem scIStep : FnScope ["thing"] ["thing"] (defScope sIsStep) := ⟨rfl, rfl, rfl, by decide +kernel, rfl, by decide +kernel, by decide +kernel⟩
theorem beg_form {d : PyData} (h : begD d = true) : ∃ s ds, d = .tuple (.str s :: ds) := by
 match d, h with
 | .tuple (.str s :: ds), _ => exact ⟨s, ds, rfl⟩
theorem step_no {d : PyData} (h : begD d = false) : stepD d = false := by
 match d, h with
 | .tuple (.str s :: ds), h => cases h
 | .tuple [], _ => rfl
 | .tuple (.none :: _), _ => rfl
 | .tuple (.bool _ :: _), _ => rfl
 | .tuple (.int _ :: _), _ => rfl
 | .tuple (.list _ :: _), _ => rfl
 | .tuple (.tuple _ :: _), _ => rfl
 | .tuple (.dict _ :: _), _ => rfl
 | .none, _ => rfl
 | .bool _, _ => rfl
 | .int _, _ => rfl
 | .str _, _ => rfl
 | .list _, _ => rfl
 | .dict _, _ => rfl
theorem entry_no {d : PyData} (h : begD d = false) : entryD d = false := by
 match d, h with
 | .tuple (.str s :: ds), h => cases h
 | .tuple [], _ => rfl
 | .tuple (.none :: _), _ => rfl
 | .tuple (.bool _ :: _), _ => rfl
 | .tuple (.int _ :: _), _ => rfl
 | .tuple (.list _ :: _), _ => rfl
 | .tuple (.tuple _ :: _), _ => rfl
 | .tuple (.dict _ :: _), _ => rfl
 | .none, _ => rfl
 | .bool _, _ => rfl
 | .int _, _ => rfl
 | .str _, _ => rfl
 | .list _, _ => rfl
 | .dict _, _ => rfl
theorem ok_istep {fB fN fW : Addr} {dB dN dW : FuncData} {tk : Tok} (F : Fun K "is_step" "is_step" sIsStep f fd) (B : Blt mg) (mT : mg "MOST_TIMES" = some (.int 9 tk))
  (GB : FnOk P w K mg base CX0 1 fB dB ["thing"] spBeg) (kB : keepIn K (.ref fB) = true) (bB : Binds K dB ["thing"] []) (mB : mg "begins_with_text" = some (.ref fB))
  (GN : FnOk P w K mg base CX0 1 fN dN ["thing"] spName') (kN : keepIn K (.ref fN) = true) (bN : Binds K dN ["thing"] []) (mN : mg "is_name" = some (.ref fN))
  (GW : FnOk P w K mg base CX0 1 fW dW ["thing"] spWhole) (kW : keepIn K (.ref fW) = true) (bW : Binds K dW ["thing"] []) (mW : mg "is_whole" = some (.ref fW)) : FnOk P w K mg base CX0 2 f fd ["thing"] spIStep := by
 refine F.ok scIStep (fun vs H Q E h => ?_) (fun cdv A outer s H vs Q E hr h => ?_)
 ·unfold spIStep at h; obtain ⟨p, v, d, rfl, _⟩ := h; rfl
 ·unfold spIStep at h
  obtain ⟨p, v, d, rfl, r, hsm, q⟩ := h
  have hr1 : Room 1 _ := hr
  refine ⟨_, pss_cons (ps_if (pt_not (pt_val (pe_call GB hr1 rfl mB kB bB .nil pass0 (pa_cons (pv 0) pa_nil)))) (pss_one (ps_ret pe_bl)) pss_nil)
   (pss_cons (ps_if (pt_cmpR op_eq (pe_ix ix_tup (pv 0) pe_int (fun _ _ => rfl)) pe_str (nomark _)) (pss_one (ps_ret (pe_cmpR op_eq (pe_callB call_len_seq rfl B.len boot_len (pa_cons (pv 0) pa_nil)) pe_int (nomark _)))) pss_nil)
   (pss_cons (ps_if (pt_cmpR op_ne (pe_callB call_len_seq rfl B.len boot_len (pa_cons (pv 0) pa_nil)) pe_int (nomark _)) (pss_one (ps_ret pe_bl)) pss_nil)
   (pss_cons (ps_if (pt_cmpR op_eq (pe_ix ix_tup (pv 0) pe_int (fun _ _ => rfl)) pe_str (nomark _)) (pss_one (ps_ret (pe_call GN hr1 rfl mN kN bN .nil pass0 (pa_cons (pe_ix ix_tup (pv 0) pe_int (fun _ _ => rfl)) pa_nil)))) pss_nil)
   (pss_cons (ps_if (pt_cmpR op_eq (pe_ix ix_tup (pv 0) pe_int (fun _ _ => rfl)) pe_str (nomark _)) (pss_one (ps_ret (pe_and (pe_call GW hr1 rfl mW kW bW .nil pass0 (pa_cons (pe_ix ix_tup (pv 0) pe_int (fun _ _ => rfl)) pa_nil))
     (pe_one (pe_chain op_le op_le (pe_un un_neg (pe_glob (v := .int 9) rfl mT ⟨tk, rfl⟩)) (pe_ix ix_tup (pv 0) pe_int (fun _ _ => rfl)) (pe_glob (v := .int 9) rfl mT ⟨tk, rfl⟩)))))) pss_nil)
   (pss_one (ps_ret (pe_and (pe_cmpR op_eq (pe_ix ix_tup (pv 0) pe_int (fun _ _ => rfl)) pe_str (nomark _)) (pe_one (pe_call GW hr1 rfl mW kW bW .nil pass0 (pa_cons (pe_ix ix_tup (pv 0) pe_int (fun _ _ => rfl)) pa_nil)))))))))), ?_⟩
  refine ⟨_, rfl, beg_sp r ⟨_, rfl, ?_⟩⟩
  cases hb : begD d with
  | false => have q' := q _ (Same.refl _); rw [step_no hb] at q'; exact q'
  | true =>
   obtain ⟨x, ds, rfl⟩ := beg_form hb
   obtain ⟨a, vs, rfl, na, ha, rs⟩ := dt_tup r
   obtain ⟨u, us, rfl, re, r2⟩ := dts_cons rs
   obtain rfl := dt_str re
   have el := r2.length
   clear rs
   refine ⟨_, rfl, a, _, 0, _, rfl, rfl, SqT.of ha, at_0, rfl, _, rfl, ?_⟩
   rw [dec_s]
   have q0 := q _ (Same.refl _)
   cases h1 : (x == "onward") with
   | true =>
    refine ⟨_, rfl, a, _, rfl, .inr (SqT.of ha), rfl, ?_⟩
    rw [show stepD (.tuple (.str x :: ds)) = ds.isEmpty by simp only [stepD, h1, if_true]] at q0
    rw [show decide (V.int (((V.str x :: us).length : Nat) : Int) = V.int 1) = ds.isEmpty by
     rw [dec_int, List.length_cons, el]
     cases ds with
     | nil => rfl
     | cons e ds => rw [List.length_cons]; exact beq_eq_false_iff_ne.mpr (by omega)]
    exact q0
   | false =>
    refine ⟨_, rfl, a, _, rfl, .inr (SqT.of ha), rfl, _, rfl, ?_⟩
    rw [dec_int, List.length_cons, el]
    match ds, r2, q, q0, hsm with
    | [], r2, q, q0, hsm =>
     rw [show stepD (.tuple [.str x]) = false by simp only [stepD, h1]; rfl] at q0
     exact q0
    | e :: e2 :: ds, r2, q, q0, hsm =>
     rw [show stepD (.tuple (.str x :: e :: e2 :: ds)) = false by simp only [stepD, h1]; rfl] at q0
     rw [show (!((((e :: e2 :: ds).length + 1 : Nat) : Int) == 2)) = true by
      rw [Bool.not_eq_true']; exact beq_eq_false_iff_ne.mpr (by simp only [List.length_cons]; omega)]
     exact q0
    | [e], r2, q, q0, hsm =>
     obtain ⟨u1, w1, rfl, r1, r3⟩ := dts_cons r2
     obtain rfl := dts_nil r3
     clear r2
     have sm1 : Sm e := hsm.tup e (List.mem_cons_of_mem _ List.mem_cons_self)
     refine ⟨_, rfl, a, _, 0, _, rfl, rfl, SqT.of ha, at_0, rfl, _, rfl, ?_⟩
     rw [dec_s]
     cases h2 : (x == "ask") with
     | true =>
      refine ⟨_, rfl, a, _, 1, _, rfl, rfl, SqT.of ha, at_1, name_sp' r1 sm1.str fun H1 S1 => ?_⟩
      have q1 := q _ S1
      rw [show stepD (.tuple [.str x, e]) = nameD e by simp only [stepD, h1, h2]; rfl] at q1
      exact q1
     | false =>
      refine ⟨_, rfl, a, _, 0, _, rfl, rfl, SqT.of ha, at_0, rfl, _, rfl, ?_⟩
      rw [dec_s]
      cases h3 : (x == "times") with
      | true =>
       refine ⟨_, rfl, a, _, 1, _, rfl, rfl, SqT.of ha, at_1, whole_sp r1 ⟨_, rfl, ?_⟩⟩
       cases hw : wholeD e with
       | false =>
        rw [show stepD (.tuple [.str x, e]) = false by
         simp only [stepD, h1, h2, h3]
         cases e <;> first | rfl | cases hw] at q0
        exact q0
       | true =>
        obtain ⟨n, rfl⟩ := whole_int hw
        obtain rfl := dt_int r1
        rw [show stepD (.tuple [.str x, .int n]) = (decide (-9 <= n) && decide (n <= 9)) by simp only [stepD, h1, h2, h3]; rfl] at q0
        refine ⟨9, rfl, _, rfl, a, _, 1, _, rfl, rfl, SqT.of ha, at_1, _, _, rfl, rfl, _, rfl, ?_⟩
        cases h9 : decide (-9 <= n) with
        | false => rw [h9] at q0; exact ite_ff rfl q0
        | true => rw [h9] at q0; exact ite_tt rfl ⟨_, _, rfl, rfl, q0⟩
      | false =>
       refine ⟨_, rfl, a, _, 0, _, rfl, rfl, SqT.of ha, at_0, rfl, _, rfl, ?_⟩
       rw [dec_s]
       rw [show stepD (.tuple [.str x, e]) = (x == "add" && wholeD e) by simp only [stepD, h1, h2, h3]; rfl] at q0
       cases h4 : (x == "add") with
       | false => rw [h4] at q0; exact q0
       | true => rw [h4] at q0; exact ⟨_, rfl, a, _, 1, _, rfl, rfl, SqT.of ha, at_1, whole_sp r1 q0⟩
@[irreducible] def spAreS : Sp := fun vs H Q _ => ∃ (p : Addr) (v : V) (d : PyData), vs = [v] /\ Dt p H v d /\ Sm d /\ ∀ H', Same H H' -> Q (.bl (stepsD d)) H'
theorem areS_sp {p : Addr} {v : V} {d : PyData} {H : Hp} {Q : VK} {E : XK} (r : Dt p H v d) (h : Sm d) (q : ∀ H', Same H H' -> Q (.bl (stepsD d)) H') : spAreS [v] H Q E := by unfold spAreS; exact ⟨p, v, d, rfl, r, h, q⟩
theorem scAreS : FnScope ["thing"] ["thing"] (defScope sAreSteps) := ⟨rfl, rfl, rfl, by decide +kernel, rfl, by decide +kernel, by decide +kernel⟩
def boolN (e : Expr) (i : Nat) : Expr := match e with | .BoolOp _ es _ => es.getD i (.Constant .none 0 ⟨0, 0, 0, 0⟩) | _ => .Constant .none 0 ⟨0, 0, 0, 0⟩
abbrev eAreS : Expr := arg0 (boolN (retV (bodyAt (defBody sAreSteps) 0)) 2)
theorem csAreS : CompScope ["thing"] (defScope sAreSteps) ["step"] [none] (compSc eAreS) := ⟨rfl, by decide +kernel, by decide +kernel, rfl, fv_of (by decide +kernel), by decide +kernel⟩
theorem steps_no {d : PyData} (h : isT "tuple" d = false) : stepsD d = false := by cases d <;> first | rfl | cases h
theorem Dts.same {p : Addr} {H H' : Hp} {vs : List V} {ds : List PyData} (r : Dts p H vs ds) (S : Same H H') : Dts p H' vs ds := r.keep fun b o e _ => S b o e
theorem Dt.same {p : Addr} {H H' : Hp} {v : V} {d : PyData} (r : Dt p H v d) (S : Same H H') : Dt p H' v d := r.keep fun b o e _ => S b o e
theorem comp_ask {p a c : Addr} {vs : List V} {ds : List PyData} {H : Hp} {g : PyData -> Bool} {te : TE} {Q : VK} (ha : H a = some (.tup vs)) (rs : Dts p H vs ds) (hc : H c = none) (h4 : ds.length <= 100)
  (hte : ∀ (v : V) (d : PyData) (H1 : Hp) (Q1 : VK), d ∈ ds -> Same H H1 -> Dt p H1 v d -> (∀ H2, Same H1 H2 -> Q1 (.bl (g d)) H2) -> te [some v] H1 Q1)
  (q : ∀ H1, Same H H1 -> H1 c = some (.lst ((ds.map g).map V.bl)) -> Q (.ref c) H1) : CompW (Itt K a) (gName 0) tTrue te [none] Q c H := by
 have hl := rs.length
 refine comp_tup (xs := vs) (fun i ys τ H2 => ∃ t0 : Option V, τ = [t0] /\ ys = ((ds.take i).map g).map V.bl /\ Same H H2 /\ H2 c = some (.lst ys)) ⟨none, rfl, rfl, same_new hc, upd_same⟩ (fun i ys τ H2 ⟨_, _, _, z, z2⟩ => ⟨z2, SqT.of (z _ _ ha)⟩) ?_ ?_
 ·rintro i x ys τ H2 hx ⟨t0, rfl, rfl, S2, h2⟩
  have hjl : i < vs.length := (List.getElem?_eq_some_iff.mp hx).1
  have hjd : i < ds.length := by omega
  obtain ⟨v', hv', rd⟩ := rs.get (List.getElem?_eq_getElem hjd)
  rw [hx] at hv'; cases hv'
  refine hte x ds[i] H2 _ (List.getElem_mem hjd) S2 (rd.keep fun b o e _ => S2 b o e) fun H3 S3 => ⟨S3 _ _ h2, by rw [List.length_map, List.length_map, List.length_take, sizeLine_eq]; omega, cw_next hjl ⟨_, rfl, ?_, fun b u e => ?_, upd_same⟩⟩
  ·rw [List.take_succ, List.getElem?_eq_getElem hjd, List.map_append, List.map_append]; rfl
  ·rw [upd_ne (ne_of_none e hc)]; exact S3 _ _ (S2 _ _ e)
 ·rintro ys τ H2 ⟨t0, rfl, rfl, S2, h2⟩
  rw [hl, List.take_length] at h2
  exact q H2 S2 h2
theorem ok_areS {fS : Addr} {dS : FuncData} {tk : Tok} (F : Fun K "are_steps" "are_steps" sAreSteps f fd) (B : Blt mg) (B2 : Blt2 mg) (mM : mg "MOST_STEPS" = some (.int 4 tk))
  (GS : FnOk P w K mg base CX0 2 fS dS ["thing"] spIStep) (kS : keepIn K (.ref fS) = true) (bS : Binds K dS ["thing"] []) (mS : mg "is_step" = some (.ref fS)) : FnOk P w K mg base CX0 3 f fd ["thing"] spAreS := by
 refine F.ok scAreS (fun vs H Q E h => ?_) (fun cdv A outer s H vs Q E hr h => ?_)
 ·unfold spAreS at h; obtain ⟨p, v, d, rfl, _⟩ := h; rfl
 ·unfold spAreS at h
  obtain ⟨p, v, d, rfl, r, hsm, q⟩ := h
  have hr2 : Room 2 _ := hr
  refine ⟨_, pss_one (ps_ret (pe_and (pe_callB call_isi rfl B2.isi boot_isi (pa_cons (pv 0) (pa_cons (pe_bltn (v := .ty "tuple") rfl B.tuple boot_tuple rfl) pa_nil)))
   (pe_and (pe_cmpR op_le (pe_callB call_len_seq rfl B.len boot_len (pa_cons (pv 0) pa_nil)) (pe_glob (v := .int 4) rfl mM ⟨tk, rfl⟩) (nomark _))
    (pe_one (pe_callB (call_allB rfl) rfl B.all boot_all (pa_cons (pe_comp rfl csAreS (pi_tup (pv 0)) (fun s H fp => ⟨pg_name (i := 0) csAreS.nd rfl (Or.inl rfl), pifs_nil, pe_call GS hr2 rfl mS kS bS .nil pass0 (pa_cons (pv 0) pa_nil)⟩)) pa_nil)))))), ?_⟩
  refine ⟨_, rfl, isi_sp kit_tuple r ⟨_, rfl, ?_⟩⟩
  have q0 := q _ (Same.refl _)
  cases hb : isT "tuple" d with
  | false => rw [steps_no hb] at q0; exact q0
  | true =>
   obtain ⟨ds, rfl⟩ := is_tup hb
   obtain ⟨a, vs, rfl, na, ha, rs⟩ := dt_tup r
   have hl := rs.length
   refine ⟨_, rfl, a, _, rfl, .inr (SqT.of ha), _, _, rfl, rfl, _, rfl, ?_⟩
   by_cases h4 : ds.length <= 4
   ·refine ite_tt (decide_eq_true (by omega)) ?_
    refine ⟨_, rfl, a, rfl, ⟨_, SqT.of ha⟩, fun c hc => comp_ask (g := stepD) ha rs hc (by omega) (fun v' d' H1 Q1 hd' S1 rd' k => ⟨_, rfl, istep_sp rd' (hsm.tup d' hd') k⟩) fun H1 S1 h1 => ⟨c, _, rfl, SqL.of h1, ?_⟩⟩
    have q1 := q _ S1
    rw [show stepsD (.tuple ds) = (ds.map stepD).all id by show (decide (ds.length <= 4) && ds.all stepD) = _; rw [decide_eq_true h4, List.all_map]; rfl] at q1
    exact q1
   ·rw [show stepsD (.tuple ds) = false by show (decide (ds.length <= 4) && ds.all stepD) = _; rw [decide_eq_false h4]; rfl] at q0
    exact ite_ff (decide_eq_false (by omega)) q0
@[irreducible] def spIEnt : Sp := fun vs H Q _ => ∃ (p : Addr) (v : V) (d : PyData), vs = [v] /\ Dt p H v d /\ Sm d /\ ∀ H', Same H H' -> Q (.bl (entryD d)) H'
theorem ient_sp {p : Addr} {v : V} {d : PyData} {H : Hp} {Q : VK} {E : XK} (r : Dt p H v d) (h : Sm d) (q : ∀ H', Same H H' -> Q (.bl (entryD d)) H') : spIEnt [v] H Q E := by unfold spIEnt; exact ⟨p, v, d, rfl, r, h, q⟩
theorem scIEnt : FnScope ["thing"] ["thing"] (defScope sIsEntry) := ⟨rfl, rfl, rfl, by decide +kernel, rfl, by decide +kernel, by decide +kernel⟩
theorem s_ne {x a b : Str} (h : (x == a) = true) (n : (a == b) = false) : (x == b) = false := by rw [eq_of_beq h]; exact n
theorem ent_plain {x : Str} {ds : List PyData} (h : (x == "plain") = true) (hl : ds.length ≠ 1) : entryD (.tuple (.str x :: ds)) = false := by
 have n : (x == "ahead") = false := s_ne h (by decide +kernel)
 match ds, hl with
 | [], _ => rfl
 | [e], hl => exact absurd rfl hl
 | [e, g], _ => simp only [entryD, n]; rfl
 | _ :: _ :: _ :: _, _ => rfl
theorem ent_ahead {x : Str} {ds : List PyData} (h1 : (x == "plain") = false) (h : (x == "ahead") = true) (hl : ds.length ≠ 2) : entryD (.tuple (.str x :: ds)) = false := by
 match ds, hl with
 | [], _ => rfl
 | [e], _ => simp only [entryD, h1, h]; rfl
 | [e, g], hl => exact absurd rfl hl
 | _ :: _ :: _ :: _, _ => rfl
theorem ent_else {x : Str} {ds : List PyData} (h : (x == "ahead") = false) (hl : ds.length ≠ 1) : entryD (.tuple (.str x :: ds)) = false := by
 match ds, hl with
 | [], _ => rfl
 | [e], hl => exact absurd rfl hl
 | [e, g], _ => simp only [entryD, h]; rfl
 | _ :: _ :: _ :: _, _ => rfl
theorem in_two {x a b : Str} : inV (V.str x) [V.str a, V.str b] = (x == a || x == b) := by
 show ((a == x) || ((b == x) || false)) = _
 rw [Bool.or_false, show (a == x) = (x == a) from Bool.beq_comm, show (b == x) = (x == b) from Bool.beq_comm]
theorem ok_ient {fB fN fW fS : Addr} {dB dN dW dS : FuncData} (F : Fun K "is_entry" "is_entry" sIsEntry f fd) (B : Blt mg)
  (GB : FnOk P w K mg base CX0 1 fB dB ["thing"] spBeg) (kB : keepIn K (.ref fB) = true) (bB : Binds K dB ["thing"] []) (mB : mg "begins_with_text" = some (.ref fB))
  (GN : FnOk P w K mg base CX0 1 fN dN ["thing"] spName') (kN : keepIn K (.ref fN) = true) (bN : Binds K dN ["thing"] []) (mN : mg "is_name" = some (.ref fN))
  (GW : FnOk P w K mg base CX0 1 fW dW ["thing"] spWhole) (kW : keepIn K (.ref fW) = true) (bW : Binds K dW ["thing"] []) (mW : mg "is_whole" = some (.ref fW))
  (GS : FnOk P w K mg base CX0 3 fS dS ["thing"] spAreS) (kS : keepIn K (.ref fS) = true) (bS : Binds K dS ["thing"] []) (mS : mg "are_steps" = some (.ref fS)) : FnOk P w K mg base CX0 4 f fd ["thing"] spIEnt := by
 refine F.ok scIEnt (fun vs H Q E h => ?_) (fun cdv A outer s H vs Q E hr h => ?_)
 ·unfold spIEnt at h; obtain ⟨p, v, d, rfl, _⟩ := h; rfl
 ·unfold spIEnt at h
  obtain ⟨p, v, d, rfl, r, hsm, q⟩ := h
  have hr3 : Room 3 _ := hr
  have hr1 : Room 1 _ := hr3.mono (by decide)
  refine ⟨_, pss_cons (ps_if (pt_not (pt_val (pe_call GB hr1 rfl mB kB bB .nil pass0 (pa_cons (pv 0) pa_nil)))) (pss_one (ps_ret pe_bl)) pss_nil)
   (pss_cons (ps_if (pt_cmpR op_eq (pe_ix ix_tup (pv 0) pe_int (fun _ _ => rfl)) pe_str (nomark _)) (pss_one (ps_ret (pe_and (pe_cmpR op_eq (pe_callB call_len_seq rfl B.len boot_len (pa_cons (pv 0) pa_nil)) pe_int (nomark _)) (pe_one (pe_call GW hr1 rfl mW kW bW .nil pass0 (pa_cons (pe_ix ix_tup (pv 0) pe_int (fun _ _ => rfl)) pa_nil)))))) pss_nil)
   (pss_cons (ps_if (pt_cmpR op_eq (pe_ix ix_tup (pv 0) pe_int (fun _ _ => rfl)) pe_str (nomark _)) (pss_one (ps_ret (pe_and (pe_cmpR op_eq (pe_callB call_len_seq rfl B.len boot_len (pa_cons (pv 0) pa_nil)) pe_int (nomark _)) (pe_and (pe_call GN hr1 rfl mN kN bN .nil pass0 (pa_cons (pe_ix ix_tup (pv 0) pe_int (fun _ _ => rfl)) pa_nil)) (pe_one (pe_call GW hr1 rfl mW kW bW .nil pass0 (pa_cons (pe_ix ix_tup (pv 0) pe_int (fun _ _ => rfl)) pa_nil))))))) pss_nil)
   (pss_one (ps_ret (pe_and (pe_cmpR (op_in_K K rfl) (pe_ix ix_tup (pv 0) pe_int (fun _ _ => rfl)) (pe_tup (pa_cons pe_str (pa_cons pe_str pa_nil))) rfl) (pe_and (pe_cmpR op_eq (pe_callB call_len_seq rfl B.len boot_len (pa_cons (pv 0) pa_nil)) pe_int (nomark _)) (pe_one (pe_call GS hr3 rfl mS kS bS .nil pass0 (pa_cons (pe_ix ix_tup (pv 0) pe_int (fun _ _ => rfl)) pa_nil))))))))), ?_⟩
  refine ⟨_, rfl, beg_sp r ⟨_, rfl, ?_⟩⟩
  have q0 := q _ (Same.refl _)
  cases hb : begD d with
  | false => rw [entry_no hb] at q0; exact q0
  | true =>
   obtain ⟨x, ds, rfl⟩ := beg_form hb
   obtain ⟨a, vs, rfl, na, ha, rs⟩ := dt_tup r
   obtain ⟨u, us, rfl, re, r2⟩ := dts_cons rs
   obtain rfl := dt_str re
   have el := r2.length
   clear rs
   refine ⟨_, rfl, a, _, 0, _, rfl, rfl, SqT.of ha, at_0, rfl, _, rfl, ?_⟩
   rw [dec_s]
   have lenQ : ∀ k : Int, decide (V.int (((V.str x :: us).length : Nat) : Int) = V.int k) = decide ((ds.length : Int) + 1 = k) := fun k => by
    rw [List.length_cons, el]
    exact decide_eq_decide.mpr ⟨fun e => by injection e with e, fun e => by rw [<- e]; exact congrArg V.int (Int.natCast_add _ _)⟩
   cases h1 : (x == "plain") with
   | true =>
    refine ⟨_, rfl, a, _, rfl, .inr (SqT.of ha), rfl, _, rfl, ?_⟩
    rw [lenQ]
    by_cases hl : ds.length = 1
    ·obtain ⟨e, rfl⟩ := List.length_eq_one_iff.mp hl
     obtain ⟨u1, w1, rfl, r1, r3⟩ := dts_cons r2
     refine ite_tt (decide_eq_true (by omega)) ?_
     rw [show entryD (.tuple [.str x, e]) = wholeD e by simp only [entryD, h1]; rfl] at q0
     exact ⟨_, rfl, a, _, 1, _, rfl, rfl, SqT.of ha, at_1, whole_sp r1 q0⟩
    ·rw [ent_plain h1 hl] at q0
     refine ite_ff (decide_eq_false (by omega)) ?_
     exact q0
   | false =>
    refine ⟨_, rfl, a, _, 0, _, rfl, rfl, SqT.of ha, at_0, rfl, _, rfl, ?_⟩
    rw [dec_s]
    cases h2 : (x == "ahead") with
    | true =>
     refine ⟨_, rfl, a, _, rfl, .inr (SqT.of ha), rfl, _, rfl, ?_⟩
     rw [lenQ]
     by_cases hl : ds.length = 2
     ·obtain ⟨e, g, rfl⟩ : ∃ e g, ds = [e, g] := by match ds, hl with | [e, g], _ => exact ⟨e, g, rfl⟩
      obtain ⟨u1, w1, rfl, r1, r3⟩ := dts_cons r2
      obtain ⟨u2, w2, rfl, r4, r5⟩ := dts_cons r3
      refine ite_tt (decide_eq_true (by omega)) ?_
      refine ⟨_, rfl, a, _, 1, _, rfl, rfl, SqT.of ha, at_1, name_sp' r1 (hsm.tup e (List.mem_cons_of_mem _ List.mem_cons_self)).str fun H1 S1 => ⟨_, rfl, ?_⟩⟩
      have q1 := q _ S1
      rw [show entryD (.tuple [.str x, e, g]) = (nameD e && wholeD g) by simp only [entryD, h2, Bool.true_and]] at q1
      cases hn : nameD e with
      | false => rw [hn] at q1; exact q1
      | true => rw [hn] at q1; exact ⟨_, rfl, a, _, 2, _, rfl, rfl, SqT.of (S1 _ _ ha), at_2, whole_sp (Dt.same r4 S1) q1⟩
     ·rw [ent_ahead h1 h2 hl] at q0
      refine ite_ff (decide_eq_false (by omega)) ?_
      exact q0
    | false =>
     refine ⟨_, rfl, a, _, 0, _, rfl, rfl, SqT.of ha, at_0, by show 2 <= sizeLine; rw [sizeLine_eq]; decide, fun c hc => ?_⟩
     have S1 := same_new (o := .tup [V.str "behind", V.str "shut"]) hc
     refine ⟨c, _, rfl, .inr (SqT.of upd_same), rfl, flat_strs ["behind", "shut"], _, rfl, ?_⟩
     rw [if_neg Bool.false_ne_true, show inV (V.str x) [V.str "behind", V.str "shut"] = (x == "behind" || x == "shut") from in_two]
     have q1 := q _ S1
     cases h3 : (x == "behind" || x == "shut") with
     | false =>
      rw [show entryD (.tuple (.str x :: ds)) = false by
       match ds with
       | [] => rfl
       | [e] => simp only [entryD, h1, h2, h3]; rfl
       | [e, g] => simp only [entryD, h2]; rfl
       | _ :: _ :: _ :: _ => rfl] at q1
      exact q1
     | true =>
      refine ⟨_, rfl, a, _, rfl, .inr (SqT.of (S1 _ _ ha)), rfl, _, rfl, ?_⟩
      rw [lenQ]
      by_cases hl : ds.length = 1
      ·obtain ⟨e, rfl⟩ := List.length_eq_one_iff.mp hl
       obtain ⟨u1, w1, rfl, r1, r3⟩ := dts_cons r2
       refine ite_tt (decide_eq_true (by omega)) ?_
       refine ⟨_, rfl, a, _, 1, _, rfl, rfl, SqT.of (S1 _ _ ha), at_1, areS_sp (Dt.same r1 S1) (hsm.tup e (List.mem_cons_of_mem _ List.mem_cons_self)) fun H2 S2 => ?_⟩
       have q2 := q _ (S1.trans S2)
       rw [show entryD (.tuple [.str x, e]) = stepsD e by simp only [entryD, h1, h2, h3]; rfl] at q2
       exact q2
      ·rw [ent_else h2 hl] at q1
       refine ite_ff (decide_eq_false (by omega)) ?_
       exact q1
end
end K31
namespace K31
open PySem L2 PySem.W HT
theorem abc_in (c : Nat) : (!(Builtin.Str.occurrences (Str.ofString "abcdefghijklmnopqrstuvwxyz") ⟨#[c]⟩ 0 (Str.ofString "abcdefghijklmnopqrstuvwxyz").length 1).isEmpty) = (decide (97 <= c) && decide (c <= 122)) := by
 rw [StrLaws.found_one, show (Str.ofString "abcdefghijklmnopqrstuvwxyz").cps.toList = List.range' 97 26 from by decide +kernel, <- Bool.decide_and]
 refine decide_eq_decide.mpr ?_
 rw [List.mem_range'_1]
 omega
section
variable {P : Program} {w : World} {K : Frag} {mg : Str -> Option Value} {base : Heap} {f : Addr} {fd : FuncData}
theorem scLName : FnScope ["_law_thing"] ["_law_thing"] (defScope sLName) := ⟨rfl, rfl, rfl, by decide +kernel, rfl, by decide +kernel, by decide +kernel⟩
abbrev eSigL : Expr := arg0 (retV (bodyAt (defBody sLName) 1))
theorem csSigL : CompScope ["_law_thing"] (defScope sLName) ["_law_sign"] [none] (compSc eSigL) := ⟨rfl, by decide +kernel, by decide +kernel, rfl, fv_of (by decide +kernel), by decide +kernel⟩
theorem ok_lname (F : Fun K "_law_is_name" "_law_is_name" sLName f fd) (B : Blt mg) (B2 : Blt2 mg) : FnOk P w K mg base CX0 1 f fd ["_law_thing"] spName' := by
 refine F.ok scLName (fun vs H Q E h => ?_) (fun cdv A outer s H vs Q E hr h => ?_)
 ·unfold spName' at h; obtain ⟨p, v, d, rfl, _⟩ := h; rfl
 ·unfold spName' at h
  obtain ⟨p0, v, d, rfl, r, hlen, q⟩ := h
  have hu := hr.units
  refine ⟨_, pss_cons (ps_if (PW.pt (pw_or (pt_not (pt_val (pe_callB call_isi rfl B2.isi boot_isi (pa_cons (pv 0) (pa_cons (pe_bltn (v := .ty "str") rfl B2.str boot_str rfl) pa_nil)))))
     (pw_or1 (pt_not (pt_chain op_le op_le pe_int (pe_callB call_len_str rfl B.len boot_len (pa_cons (pv 0) pa_nil)) pe_int))))) (pss_one (ps_ret pe_bl)) pss_nil)
   (pss_one (ps_ret (pe_callB (call_allB rfl) rfl B.all boot_all (pa_cons (pe_comp rfl csSigL (pi_str (pv 0)) (fun s H fp => ⟨pg_name (i := 0) csSigL.nd rfl (Or.inl rfl), pifs_nil, pe_cmpR op_in_str (pv 0) pe_str rfl⟩)) pa_nil)))), ?_⟩
  refine ⟨_, rfl, isi_sp kit_str r ⟨_, rfl, ?_⟩⟩
  cases hb : isT "str" d with
  | false => have q' := q _ (Same.refl _); rw [not_str hb] at q'; exact q'
  | true =>
   obtain ⟨x, rfl⟩ := is_str hb
   obtain rfl := dt_str r
   have hlx := hlen x rfl
   refine ⟨_, rfl, x, rfl, by rw [sizeLine_eq]; omega, 1, x.length, rfl, rfl, _, rfl, ?_⟩
   by_cases h1 : 1 <= x.length
   ·refine ite_tt (decide_eq_true (by omega)) ?_
    refine ⟨x.length, 8, rfl, rfl, _, rfl, ?_⟩
    by_cases h8 : x.length <= 8
    ·have e8 : decide ((x.length : Int) <= 8) = true := decide_eq_true (by omega)
     have hlc : x.cps.size <= 8 := h8
     rw [e8]
     refine ⟨_, rfl, x, rfl, fun p hp => ?_⟩
     refine comp_str (fun i ys τ H1 => ∃ t0 : Option V, τ = [t0] /\ ys = ((x.cps.toList.take i).map fun c => decide (97 <= c) && decide (c <= 122)).map V.bl /\ H1 = upd H p (.lst ys)) ⟨none, rfl, rfl, rfl⟩ (fun i ys τ H1 ⟨_, _, _, z⟩ => by rw [z]; exact upd_same) ?_ ?_
     ·rintro i c ys τ H1 hc ⟨t0, rfl, rfl, rfl⟩
      have hil : i < x.cps.size := (Array.getElem?_eq_some_iff.mp hc).1
      have htk : x.cps.toList.take (i + 1) = x.cps.toList.take i ++ [c] := by rw [List.take_succ, Array.getElem?_toList, hc]; rfl
      refine ⟨_, rfl, _, _, rfl, rfl, upd_same, by rw [List.length_map, List.length_map, List.length_take, Array.length_toList, sizeLine_eq]; omega, cw_next hil ⟨_, rfl, ?_, by rw [upd_upd]⟩⟩
      rw [abc_in, htk, List.map_append, List.map_append]; rfl
     ·rintro ys τ H1 ⟨t0, rfl, rfl, rfl⟩
      refine ⟨p, _, rfl, SqL.of upd_same, ?_⟩
      have q' := q _ (same_new (o := .lst (((x.cps.toList.take x.cps.size).map fun c => decide (97 <= c) && decide (c <= 122)).map V.bl)) hp)
      rw [show nameD (.str x) = ((x.cps.toList.take x.cps.size).map fun c => decide (97 <= c) && decide (c <= 122)).all id by
       show nameS x = _
       unfold nameS
       rw [decide_eq_true h1, decide_eq_true h8, List.all_map, List.take_of_length_le (by rw [Array.length_toList]; exact Nat.le_refl _)]; rfl] at q'
      exact q'
    ·have e8 : decide ((x.length : Int) <= 8) = false := decide_eq_false (by omega)
     rw [e8]
     have q' := q _ (Same.refl _)
     rw [show nameD (.str x) = false by show nameS x = _; unfold nameS; rw [decide_eq_false h8]; simp] at q'
     exact q'
   ·refine ite_ff (decide_eq_false (by omega)) ?_
    have q' := q _ (Same.refl _)
    rw [show nameD (.str x) = false by show nameS x = _; unfold nameS; rw [decide_eq_false h1]; simp] at q'
    exact ⟨_, rfl, q'⟩
def stepL (e : PyData) (ds : List PyData) : Bool := if isS "onward" e then ds.isEmpty else match ds with
  | [g] => if isS "ask" e then nameD g else if isS "times" e then (match g with | .int n => decide (-9 <= n) && decide (n <= 9) | _ => false) else isS "add" e && wholeD g
  | _ => false
theorem step_eq (e : PyData) (ds : List PyData) : stepD (.tuple (e :: ds)) = stepL e ds := by
 cases e with
 | str s => rfl
 | _ =>
  match ds with
  | [] => rfl
  | [g] => rfl
  | _ :: _ :: _ => rfl
theorem step_notup {d : PyData} (h : isT "tuple" d = false) : stepD d = false := by cases d <;> first | rfl | cases h
theorem scLStep : FnScope ["_law_thing"] ["_law_thing"] (defScope sLStep) := ⟨rfl, rfl, rfl, by decide +kernel, rfl, by decide +kernel, by decide +kernel⟩
theorem ok_lstep {fN fW : Addr} {dN dW : FuncData} (F : Fun K "_law_is_step" "_law_is_step" sLStep f fd) (B : Blt mg) (B2 : Blt2 mg)
  (GN : FnOk P w K mg base CX0 1 fN dN ["_law_thing"] spName') (kN : keepIn K (.ref fN) = true) (bN : Binds K dN ["_law_thing"] []) (mN : mg "_law_is_name" = some (.ref fN))
  (GW : FnOk P w K mg base CX0 1 fW dW ["_law_thing"] spWhole) (kW : keepIn K (.ref fW) = true) (bW : Binds K dW ["_law_thing"] []) (mW : mg "_law_is_whole" = some (.ref fW)) : FnOk P w K mg base CX0 2 f fd ["_law_thing"] spIStep := by
 refine F.ok scLStep (fun vs H Q E h => ?_) (fun cdv A outer s H vs Q E hr h => ?_)
 ·unfold spIStep at h; obtain ⟨p, v, d, rfl, _⟩ := h; rfl
 ·unfold spIStep at h
  obtain ⟨p, v, d, rfl, r, hsm, q⟩ := h
  have hr1 : Room 1 _ := hr
  have hu := hr.units
  refine ⟨_, pss_cons (ps_if (PW.pt (pw_or (pt_not (pt_val (pe_callB call_isi rfl B2.isi boot_isi (pa_cons (pv 0) (pa_cons (pe_bltn (v := .ty "tuple") rfl B.tuple boot_tuple rfl) pa_nil))))) (pw_or1 (pt_cmpR (op_eqT0 hu) (pv 0) (pe_tup pa_nil) (nomark _))))) (pss_one (ps_ret pe_bl)) pss_nil)
   (pss_cons (ps_if (pt_cmpR (op_eqS hu) (pe_ix ix_tup (pv 0) pe_int (fun _ _ => rfl)) pe_str (nomark _)) (pss_one (ps_ret (pe_cmpR op_eq (pe_callB call_len_seq rfl B.len boot_len (pa_cons (pv 0) pa_nil)) pe_int (nomark _)))) pss_nil)
   (pss_cons (ps_if (pt_cmpR op_ne (pe_callB call_len_seq rfl B.len boot_len (pa_cons (pv 0) pa_nil)) pe_int (nomark _)) (pss_one (ps_ret pe_bl)) pss_nil)
   (pss_cons (ps_if (pt_cmpR (op_eqS hu) (pe_ix ix_tup (pv 0) pe_int (fun _ _ => rfl)) pe_str (nomark _)) (pss_one (ps_ret (pe_call GN hr1 rfl mN kN bN .nil pass0 (pa_cons (pe_ix ix_tup (pv 0) pe_int (fun _ _ => rfl)) pa_nil)))) pss_nil)
   (pss_cons (ps_if (pt_cmpR (op_eqS hu) (pe_ix ix_tup (pv 0) pe_int (fun _ _ => rfl)) pe_str (nomark _)) (pss_one (ps_ret (pe_and (pe_call GW hr1 rfl mW kW bW .nil pass0 (pa_cons (pe_ix ix_tup (pv 0) pe_int (fun _ _ => rfl)) pa_nil))
     (pe_one (pe_chain op_le op_le (pe_un un_neg pe_int) (pe_ix ix_tup (pv 0) pe_int (fun _ _ => rfl)) pe_int))))) pss_nil)
   (pss_one (ps_ret (pe_and (pe_cmpR (op_eqS hu) (pe_ix ix_tup (pv 0) pe_int (fun _ _ => rfl)) pe_str (nomark _)) (pe_one (pe_call GW hr1 rfl mW kW bW .nil pass0 (pa_cons (pe_ix ix_tup (pv 0) pe_int (fun _ _ => rfl)) pa_nil)))))))))), ?_⟩
  refine ⟨_, rfl, isi_sp kit_tuple r ⟨_, rfl, ?_⟩⟩
  cases hb : isT "tuple" d with
  | false => have q' := q _ (Same.refl _); rw [step_notup hb] at q'; exact q'
  | true =>
   obtain ⟨ds, rfl⟩ := is_tup hb
   obtain ⟨a, vs, rfl, na, ha, rs⟩ := dt_tup r
   refine ⟨_, rfl, Nat.zero_le _, fun e0 he0 => ?_⟩
   have S0 := same_new (o := .tup []) he0
   have ha := S0 _ _ ha
   have rs := Dts.same rs S0
   have he : upd H e0 (.tup []) e0 = some (.tup []) := upd_same
   generalize upd H e0 (.tup []) = H0 at S0 ha rs he ⊢
   refine ⟨a, e0, _, rfl, rfl, ha, he, _, rfl, ?_⟩
   have q0 := q _ S0
   cases ds with
   | nil => obtain rfl := dts_nil rs; exact q0
   | cons e ds =>
    obtain ⟨u, us, rfl, re, r2⟩ := dts_cons rs
    have el := r2.length
    clear rs
    have qs : ∀ H', Same H0 H' -> Q (.bl (stepL e ds)) H' := fun H' S => by rw [<- step_eq]; exact q _ (S0.trans S)
    have q0 := qs _ (Same.refl _)
    refine ⟨_, rfl, a, _, 0, _, rfl, rfl, SqT.of ha, at_0, p, e, _, re, rfl, _, rfl, ?_⟩
    cases h1 : isS "onward" e with
    | true =>
     refine ⟨_, rfl, a, _, rfl, .inr (SqT.of ha), rfl, ?_⟩
     rw [show stepL e ds = ds.isEmpty by simp only [stepL, h1, if_true]] at q0
     rw [show decide (V.int (((u :: us).length : Nat) : Int) = V.int 1) = ds.isEmpty by
      rw [dec_int, List.length_cons, el]
      cases ds with
      | nil => rfl
      | cons e ds => rw [List.length_cons]; exact beq_eq_false_iff_ne.mpr (by omega)]
     exact q0
    | false =>
     refine ⟨_, rfl, a, _, rfl, .inr (SqT.of ha), rfl, _, rfl, ?_⟩
     rw [dec_int, List.length_cons, el]
     match ds, r2, qs, q0, hsm with
     | [], r2, qs, q0, hsm =>
      rw [show stepL e [] = false by simp only [stepL, h1]; rfl] at q0
      exact q0
     | e1 :: e2 :: ds, r2, qs, q0, hsm =>
      rw [show stepL e (e1 :: e2 :: ds) = false by simp only [stepL, h1]; rfl] at q0
      rw [show (!((((e1 :: e2 :: ds).length + 1 : Nat) : Int) == 2)) = true by
       rw [Bool.not_eq_true']; exact beq_eq_false_iff_ne.mpr (by simp only [List.length_cons]; omega)]
      exact q0
     | [g], r2, qs, q0, hsm =>
      obtain ⟨u1, w1, rfl, r1, r3⟩ := dts_cons r2
      obtain rfl := dts_nil r3
      clear r2
      have sm1 : Sm g := hsm.tup g (List.mem_cons_of_mem _ List.mem_cons_self)
      refine ⟨_, rfl, a, _, 0, _, rfl, rfl, SqT.of ha, at_0, p, e, _, re, rfl, _, rfl, ?_⟩
      cases h2 : isS "ask" e with
      | true =>
       refine ⟨_, rfl, a, _, 1, _, rfl, rfl, SqT.of ha, at_1, name_sp' r1 sm1.str fun H1 S1 => ?_⟩
       have q1 := qs _ S1
       rw [show stepL e [g] = nameD g by simp only [stepL, h1, h2]; rfl] at q1
       exact q1
      | false =>
       refine ⟨_, rfl, a, _, 0, _, rfl, rfl, SqT.of ha, at_0, p, e, _, re, rfl, _, rfl, ?_⟩
       cases h3 : isS "times" e with
       | true =>
        refine ⟨_, rfl, a, _, 1, _, rfl, rfl, SqT.of ha, at_1, whole_sp r1 ⟨_, rfl, ?_⟩⟩
        cases hw : wholeD g with
        | false =>
         rw [show stepL e [g] = false by
          simp only [stepL, h1, h2, h3]
          cases g <;> first | rfl | cases hw] at q0
         exact q0
        | true =>
         obtain ⟨n, rfl⟩ := whole_int hw
         obtain rfl := dt_int r1
         rw [show stepL e [.int n] = (decide (-9 <= n) && decide (n <= 9)) by simp only [stepL, h1, h2, h3]; rfl] at q0
         refine ⟨9, rfl, _, rfl, a, _, 1, _, rfl, rfl, SqT.of ha, at_1, _, _, rfl, rfl, _, rfl, ?_⟩
         cases h9 : decide (-9 <= n) with
         | false => rw [h9] at q0; exact ite_ff rfl q0
         | true => rw [h9] at q0; exact ite_tt rfl ⟨_, _, rfl, rfl, q0⟩
       | false =>
        refine ⟨_, rfl, a, _, 0, _, rfl, rfl, SqT.of ha, at_0, p, e, _, re, rfl, _, rfl, ?_⟩
        rw [show stepL e [g] = (isS "add" e && wholeD g) by simp only [stepL, h1, h2, h3]; rfl] at q0
        cases h4 : isS "add" e with
        | false => rw [h4] at q0; exact q0
        | true => rw [h4] at q0; exact ⟨_, rfl, a, _, 1, _, rfl, rfl, SqT.of ha, at_1, whole_sp r1 q0⟩
end
end K31
namespace K31
open PySem L2 PySem.W HT
def entL (e : PyData) : List PyData -> Bool
 | [g] => if isS "plain" e then wholeD g else (isS "behind" e || isS "shut" e) && stepsD g
 | [g, h] => isS "ahead" e && (nameD g && wholeD h)
 | _ => false
theorem ent_eq (e : PyData) (ds : List PyData) : entryD (.tuple (e :: ds)) = entL e ds := by
 cases e with
 | str s =>
  match ds with
  | [] => rfl
  | [g] =>
   show (if (s == "plain") = true then wholeD g else if (s == "ahead") = true then false else (s == "behind" || s == "shut") && stepsD g) = if (s == "plain") = true then wholeD g else (s == "behind" || s == "shut") && stepsD g
   cases h : (s == "ahead") with
   | false => rfl
   | true => rw [s_ne h (show (("ahead" : Str) == "plain") = false by decide +kernel), s_ne h (show (("ahead" : Str) == "behind") = false by decide +kernel), s_ne h (show (("ahead" : Str) == "shut") = false by decide +kernel)]; rfl
  | [g, h] => rfl
  | _ :: _ :: _ :: _ => rfl
 | _ =>
  match ds with
  | [] => rfl
  | [g] => rfl
  | [g, h] => rfl
  | _ :: _ :: _ :: _ => rfl
theorem ent_notup {d : PyData} (h : isT "tuple" d = false) : entryD d = false := by cases d <;> first | rfl | cases h
section
variable {P : Program} {w : World} {K : Frag} {mg : Str -> Option Value} {base : Heap} {f : Addr} {fd : FuncData}
theorem scLEnt : FnScope ["_law_thing"] ["_law_thing"] (defScope sLEntry) := ⟨rfl, rfl, rfl, by decide +kernel, rfl, by decide +kernel, by decide +kernel⟩
abbrev eLEnt : Expr := arg0 (retV (bodyAt (defBody sLEntry) 4))
theorem csLEnt : CompScope ["_law_thing"] (defScope sLEntry) ["_law_step_here"] [none] (compSc eLEnt) := ⟨rfl, by decide +kernel, by decide +kernel, rfl, fv_of (by decide +kernel), by decide +kernel⟩
theorem in_23 (n : Nat) : inV (V.int (n : Int)) [V.int 2, V.int 3] = (decide (n = 2) || decide (n = 3)) := by
 show (((2 : Int) == (n : Int)) || (((3 : Int) == (n : Int)) || false)) = _
 rw [Bool.or_false]
 congr 1
 ·exact decide_eq_decide.mpr ⟨fun e => by omega, fun e => by omega⟩
 ·exact decide_eq_decide.mpr ⟨fun e => by omega, fun e => by omega⟩
theorem ok_lent {fN fW fS : Addr} {dN dW dS : FuncData} (F : Fun K "_law_is_entry" "_law_is_entry" sLEntry f fd) (B : Blt mg) (B2 : Blt2 mg)
  (GN : FnOk P w K mg base CX0 1 fN dN ["_law_thing"] spName') (kN : keepIn K (.ref fN) = true) (bN : Binds K dN ["_law_thing"] []) (mN : mg "_law_is_name" = some (.ref fN))
  (GW : FnOk P w K mg base CX0 1 fW dW ["_law_thing"] spWhole) (kW : keepIn K (.ref fW) = true) (bW : Binds K dW ["_law_thing"] []) (mW : mg "_law_is_whole" = some (.ref fW))
  (GS : FnOk P w K mg base CX0 2 fS dS ["_law_thing"] spIStep) (kS : keepIn K (.ref fS) = true) (bS : Binds K dS ["_law_thing"] []) (mS : mg "_law_is_step" = some (.ref fS)) : FnOk P w K mg base CX0 3 f fd ["_law_thing"] spIEnt := by
 refine F.ok scLEnt (fun vs H Q E h => ?_) (fun cdv A outer s H vs Q E hr h => ?_)
 ·unfold spIEnt at h; obtain ⟨p, v, d, rfl, _⟩ := h; rfl
 ·unfold spIEnt at h
  obtain ⟨p, v, d, rfl, r, hsm, q⟩ := h
  have hr2 : Room 2 _ := hr
  have hr1 : Room 1 _ := hr2.mono (by decide)
  have hu := hr.units
  refine ⟨_, pss_cons (ps_if (PW.pt (pw_or (pt_not (pt_val (pe_callB call_isi rfl B2.isi boot_isi (pa_cons (pv 0) (pa_cons (pe_bltn (v := .ty "tuple") rfl B.tuple boot_tuple rfl) pa_nil))))) (pw_or1 (pt_cmpR op_notIn_seq (pe_callB call_len_seq rfl B.len boot_len (pa_cons (pv 0) pa_nil)) (pe_lst (pa_cons pe_int (pa_cons pe_int pa_nil))) rfl)))) (pss_one (ps_ret pe_bl)) pss_nil)
   (pss_cons (ps_if (pt_cmpR op_eq (pe_callB call_len_seq rfl B.len boot_len (pa_cons (pv 0) pa_nil)) pe_int (nomark _)) (pss_one (ps_ret (pe_and (pe_cmpR (op_eqS hu) (pe_ix ix_tup (pv 0) pe_int (fun _ _ => rfl)) pe_str (nomark _)) (pe_and (pe_call GN hr1 rfl mN kN bN .nil pass0 (pa_cons (pe_ix ix_tup (pv 0) pe_int (fun _ _ => rfl)) pa_nil)) (pe_one (pe_call GW hr1 rfl mW kW bW .nil pass0 (pa_cons (pe_ix ix_tup (pv 0) pe_int (fun _ _ => rfl)) pa_nil))))))) pss_nil)
   (pss_cons (ps_if (pt_cmpR (op_eqS hu) (pe_ix ix_tup (pv 0) pe_int (fun _ _ => rfl)) pe_str (nomark _)) (pss_one (ps_ret (pe_call GW hr1 rfl mW kW bW .nil pass0 (pa_cons (pe_ix ix_tup (pv 0) pe_int (fun _ _ => rfl)) pa_nil)))) pss_nil)
   (pss_cons (ps_if (PW.pt (pw_or (pt_cmpR (op_notInS hu) (pe_ix ix_tup (pv 0) pe_int (fun _ _ => rfl)) (pe_lst (pa_cons pe_str (pa_cons pe_str pa_nil))) rfl) (pw_or (pt_not (pt_val (pe_callB call_isi rfl B2.isi boot_isi (pa_cons (pe_ix ix_tup (pv 0) pe_int (fun _ _ => rfl)) (pa_cons (pe_bltn (v := .ty "tuple") rfl B.tuple boot_tuple rfl) pa_nil))))) (pw_or1 (pt_cmpR op_gt (pe_callB call_len_seq rfl B.len boot_len (pa_cons (pe_ix ix_tup (pv 0) pe_int (fun _ _ => rfl)) pa_nil)) pe_int (nomark _)))))) (pss_one (ps_ret pe_bl)) pss_nil)
   (pss_one (ps_ret (pe_callB (call_allB rfl) rfl B.all boot_all (pa_cons (pe_comp rfl csLEnt (pi_tup (pe_ix ix_tup (pv 0) pe_int (fun _ _ => rfl))) (fun s H fp => ⟨pg_name (i := 0) csLEnt.nd rfl (Or.inl rfl), pifs_nil, pe_call GS hr2 rfl mS kS bS .nil pass0 (pa_cons (pv 0) pa_nil)⟩)) pa_nil))))))), ?_⟩
  refine ⟨_, rfl, isi_sp kit_tuple r ⟨_, rfl, ?_⟩⟩
  cases hb : isT "tuple" d with
  | false => have q' := q _ (Same.refl _); rw [ent_notup hb] at q'; exact q'
  | true =>
   obtain ⟨ds, rfl⟩ := is_tup hb
   obtain ⟨a, vs, rfl, na, ha, rs⟩ := dt_tup r
   refine ⟨_, rfl, a, _, rfl, .inr (SqT.of ha), by show 2 <= sizeLine; rw [sizeLine_eq]; decide, fun e0 he0 => ?_⟩
   have S0 := same_new (o := .lst [V.int 2, V.int 3]) he0
   have ha := S0 _ _ ha
   have rs := Dts.same rs S0
   have he : upd H e0 (.lst [V.int 2, V.int 3]) e0 = some (.lst [V.int 2, V.int 3]) := upd_same
   generalize upd H e0 (.lst [V.int 2, V.int 3]) = H0 at S0 ha rs he ⊢
   refine ⟨e0, _, rfl, .inl (SqL.of he), rfl, rfl, _, rfl, ?_⟩
   rw [if_pos rfl, in_23]
   have q0 := q _ S0
   have el := rs.length
   match ds, rs, q, q0, hsm, el with
   | [], rs, q, q0, hsm, el => rw [show vs.length = 0 from el]; exact q0
   | [e], rs, q, q0, hsm, el => rw [show vs.length = 1 from el]; rw [ent_eq] at q0; exact q0
   | e :: g :: h :: k :: ds, rs, q, q0, hsm, el =>
    have e4 : vs.length = ds.length + 4 := el
    rw [ent_eq] at q0
    rw [decide_eq_false (show ¬ vs.length = 2 by omega), decide_eq_false (show ¬ vs.length = 3 by omega)]
    exact q0
   | [e, g, h], rs, q, q0, hsm, el =>
    rw [show vs.length = 3 from el]
    obtain ⟨u, us, rfl, re, r2⟩ := dts_cons rs
    obtain ⟨u1, us, rfl, r1, r3⟩ := dts_cons r2
    obtain ⟨u2, us, rfl, r4, r5⟩ := dts_cons r3
    obtain rfl := dts_nil r5
    have qs : ∀ H', Same H0 H' -> Q (.bl (isS "ahead" e && (nameD g && wholeD h))) H' := fun H' S => by
     have := q _ (S0.trans S)
     rw [ent_eq] at this; exact this
    have q0 := qs _ (Same.refl _)
    refine ⟨_, rfl, a, _, rfl, .inr (SqT.of ha), rfl, _, rfl, ?_⟩
    refine ⟨_, rfl, a, _, 0, _, rfl, rfl, SqT.of ha, at_0, p, e, _, re, rfl, _, rfl, ?_⟩
    cases h1 : isS "ahead" e with
    | false => rw [h1] at q0; exact q0
    | true =>
     refine ⟨_, rfl, a, _, 1, _, rfl, rfl, SqT.of ha, at_1, name_sp' r1 (hsm.tup g (List.mem_cons_of_mem _ List.mem_cons_self)).str fun H1 S1 => ⟨_, rfl, ?_⟩⟩
     have q1 := qs _ S1
     rw [h1, Bool.true_and] at q1
     cases hn : nameD g with
     | false => rw [hn] at q1; exact q1
     | true => rw [hn] at q1; exact ⟨_, rfl, a, _, 2, _, rfl, rfl, SqT.of (S1 _ _ ha), at_2, whole_sp (Dt.same r4 S1) q1⟩
   | [e, g], rs, q, q0, hsm, el =>
    rw [show vs.length = 2 from el]
    obtain ⟨u, us, rfl, re, r2⟩ := dts_cons rs
    obtain ⟨u1, us, rfl, r1, r3⟩ := dts_cons r2
    obtain rfl := dts_nil r3
    have qs : ∀ H', Same H0 H' -> Q (.bl (if isS "plain" e then wholeD g else (isS "behind" e || isS "shut" e) && stepsD g)) H' := fun H' S => by
     have := q _ (S0.trans S)
     rw [ent_eq] at this; exact this
    have q0 := qs _ (Same.refl _)
    refine ⟨_, rfl, a, _, rfl, .inr (SqT.of ha), rfl, _, rfl, ?_⟩
    refine ⟨_, rfl, a, _, 0, _, rfl, rfl, SqT.of ha, at_0, p, e, _, re, rfl, _, rfl, ?_⟩
    cases h1 : isS "plain" e with
    | true =>
     rw [h1] at q0
     exact ⟨_, rfl, a, _, 1, _, rfl, rfl, SqT.of ha, at_1, whole_sp r1 q0⟩
    | false =>
     refine ⟨_, rfl, a, _, 0, _, rfl, rfl, SqT.of ha, at_0, by show 2 <= sizeLine; rw [sizeLine_eq]; decide, fun c hc => ?_⟩
     have S1 := same_new (o := .lst [V.str "behind", V.str "shut"]) hc
     have hc1 : upd H0 c (.lst [V.str "behind", V.str "shut"]) c = some (.lst ((["behind", "shut"] : List Str).map V.str)) := upd_same
     have q1 := qs _ S1
     have ha := S1 _ _ ha
     have re := Dt.same re S1
     have r1 := Dt.same r1 S1
     have qs : ∀ H', Same (upd H0 c (.lst [V.str "behind", V.str "shut"])) H' -> _ := fun H' S => qs H' (S1.trans S)
     generalize upd H0 c (.lst [V.str "behind", V.str "shut"]) = H1 at S1 hc1 q1 ha re r1 qs ⊢
     rw [h1] at q1
     refine ⟨p, e, c, (["behind", "shut"] : List Str), re, rfl, hc1, _, rfl, ?_⟩
     rw [show ((["behind", "shut"] : List Str).any fun c => isS c e) = (isS "behind" e || isS "shut" e) by simp only [List.any_cons, List.any_nil, Bool.or_false]]
     cases h2 : (isS "behind" e || isS "shut" e) with
     | false => rw [h2] at q1; exact q1
     | true =>
      rw [h2] at q1
      refine ⟨_, rfl, a, _, 1, _, rfl, rfl, SqT.of ha, at_1, isi_sp kit_tuple r1 ⟨_, rfl, ?_⟩⟩
      cases h3 : isT "tuple" g with
      | false => rw [steps_no h3] at q1; exact q1
      | true =>
       obtain ⟨gs, rfl⟩ := is_tup h3
       obtain ⟨b, ws, rfl, nb, hb', rg⟩ := dt_tup r1
       have eg := rg.length
       refine ⟨_, rfl, a, _, 1, _, rfl, rfl, SqT.of ha, at_1, b, _, rfl, .inr (SqT.of hb'), _, _, rfl, rfl, _, rfl, ?_⟩
       by_cases h4 : gs.length <= 4
       ·rw [decide_eq_false (show ¬ ((4 : Int) < (ws.length : Int)) by omega)]
        refine ⟨_, rfl, a, _, 1, _, rfl, rfl, SqT.of ha, at_1, b, rfl, ⟨_, SqT.of hb'⟩, fun c2 hc2 => comp_ask (g := stepD) hb' rg hc2 (by omega) (fun v' d' H2 Q2 hd' S2 rd' k => ⟨_, rfl, istep_sp rd' ((hsm.tup _ (List.mem_cons_of_mem _ List.mem_cons_self)).tup d' hd') k⟩) fun H2 S2 h2' => ⟨c2, _, rfl, SqL.of h2', ?_⟩⟩
        have q2 := qs _ S2
        rw [h1, h2, show stepsD (.tuple gs) = (gs.map stepD).all id by show (decide (gs.length <= 4) && gs.all stepD) = _; rw [decide_eq_true h4, List.all_map]; rfl] at q2
        exact q2
       ·rw [decide_eq_true (show ((4 : Int) < (ws.length : Int)) by omega)]
        rw [show stepsD (.tuple gs) = false by show (decide (gs.length <= 4) && gs.all stepD) = _; rw [decide_eq_false h4]; rfl] at q1
        exact q1
end
end K31
namespace L2
open PySem PySem.W
theorem Rep.tupI {H : Hp} {v : V} {ds : List PyData} (r : Rep H v (.tuple ds)) : ∃ a vs, v = .ref a /\ H a = some (.tup vs) /\ RepAll H vs ds := by
 cases r with
 | tup e rs => exact ⟨_, _, rfl, e, rs⟩
theorem Rep.strI {H : Hp} {v : V} {x : Str} (r : Rep H v (.str x)) : v = .str x := by cases r; rfl
theorem Rep.intI {H : Hp} {v : V} {x : Int} (r : Rep H v (.int x)) : v = .int x := by cases r; rfl
theorem RepAll.consI {H : Hp} {vs : List V} {d : PyData} {ds : List PyData} (r : RepAll H vs (d :: ds)) : ∃ v ws, vs = v :: ws /\ Rep H v d /\ RepAll H ws ds := by
 cases r with
 | cons a b => exact ⟨_, _, rfl, a, b⟩
theorem RepAll.nilI {H : Hp} {vs : List V} (r : RepAll H vs []) : vs = [] := by cases r; rfl
theorem RepAll.length {H : Hp} : ∀ {vs : List V} {ds : List PyData}, RepAll H vs ds -> vs.length = ds.length
 | _, _, .nil => rfl
 | _, _, .cons _ rs => by rw [List.length_cons, List.length_cons, RepAll.length rs]
end L2
namespace K31
open PySem L2 PySem.W HT
inductive Stp : PyData -> Prop where
 | add (n : Int) (h : n.natAbs <= 10 ^ 18) : Stp (.tuple [.str "add", .int n])
 | times (n : Int) (lo : -9 <= n) (hi : n <= 9) : Stp (.tuple [.str "times", .int n])
 | onward : Stp (.tuple [.str "onward"])
 | ask (x : Str) (h : Nm x) : Stp (.tuple [.str "ask", .str x])
inductive Ent : PyData -> Prop where
 | plain (n : Int) (h : n.natAbs <= 10 ^ 18) : Ent (.tuple [.str "plain", .int n])
 | ahead (x : Str) (n : Int) (h : Nm x) (hn : n.natAbs <= 10 ^ 18) : Ent (.tuple [.str "ahead", .str x, .int n])
 | behind (ds : List PyData) (h4 : ds.length <= 4) (hs : ∀ d ∈ ds, Stp d) : Ent (.tuple [.str "behind", .tuple ds])
 | shut (ds : List PyData) (h4 : ds.length <= 4) (hs : ∀ d ∈ ds, Stp d) : Ent (.tuple [.str "shut", .tuple ds])
theorem two1 {H : Hp} {v : V} {s : Str} {d : PyData} (r : Rep H v (.tuple [.str s, d])) : ∃ a u, v = .ref a /\ H a = some (.tup [.str s, u]) /\ Rep H u d := by
 obtain ⟨a, vs, rfl, ha, rs⟩ := r.tupI
 obtain ⟨v0, w0, rfl, r0, rs⟩ := rs.consI
 obtain ⟨v1, w1, rfl, r1, rs⟩ := rs.consI
 obtain rfl := rs.nilI
 obtain rfl := r0.strI
 exact ⟨a, v1, rfl, ha, r1⟩
theorem strs_pot {p a : Addr} {H : Hp} {xs : List Str} (h : PotOk p H) (e : H a = some (.lst (xs.map V.str))) : a ≠ p := by
 rintro rfl
 obtain ⟨x, y, e2, _⟩ := h
 rw [e] at e2
 have e3 : xs.map V.str = [.int x, .int y] := HO.lst.inj (Option.some.inj e2)
 cases xs with
 | nil => cases e3
 | cons z t => cases e3
theorem Stp.keep {H H' : Hp} {v : V} {d : PyData} (s : Stp d) (r : Rep H v d) (k : ∀ b xs, H b = some (.tup xs) -> H' b = some (.tup xs)) : Rep H' v d := by
 cases s with
 | add n =>
  obtain ⟨a, u, rfl, ha, r1⟩ := two1 r
  obtain rfl := r1.intI
  exact .tup (k _ _ ha) (.cons (.str _) (.cons (.int _) .nil))
 | times n =>
  obtain ⟨a, u, rfl, ha, r1⟩ := two1 r
  obtain rfl := r1.intI
  exact .tup (k _ _ ha) (.cons (.str _) (.cons (.int _) .nil))
 | ask x =>
  obtain ⟨a, u, rfl, ha, r1⟩ := two1 r
  obtain rfl := r1.strI
  exact .tup (k _ _ ha) (.cons (.str _) (.cons (.str _) .nil))
 | onward =>
  obtain ⟨a, vs, rfl, ha, rs⟩ := r.tupI
  obtain ⟨v0, w0, rfl, r0, rs⟩ := rs.consI
  obtain rfl := rs.nilI
  obtain rfl := r0.strI
  exact .tup (k _ _ ha) (.cons (.str _) .nil)
theorem stps_keep {H H' : Hp} (k : ∀ b xs, H b = some (.tup xs) -> H' b = some (.tup xs)) : ∀ {vs : List V} {ds : List PyData}, RepAll H vs ds -> (∀ d ∈ ds, Stp d) -> RepAll H' vs ds
 | _, _, .nil, _ => .nil
 | _, _, .cons r rs, h => .cons ((h _ List.mem_cons_self).keep r k) (stps_keep k rs fun d hd => h d (List.mem_cons_of_mem _ hd))
theorem pot_tup {p : Addr} {H H' : Hp} (pk : PotOk p H) (pa : PotAt p H H') : ∀ b xs, H b = some (.tup xs) -> H' b = some (.tup xs) := fun b xs e => by
 obtain ⟨x, y, e0, _⟩ := pk
 exact pa.kp b _ e (ne_of e e0 (by intro z; cases z))
theorem repAll_append {H : Hp} : ∀ {vs : List V} {ds : List PyData} {v : V} {d : PyData}, RepAll H vs ds -> Rep H v d -> RepAll H (vs ++ [v]) (ds ++ [d])
 | _, _, _, _, .nil, r => .cons r .nil
 | _, _, _, _, .cons a as, r => .cons a (repAll_append as r)
section
variable {P : Program} {w : World} {K : Frag} {mg : Str -> Option Value} {base : Heap} {f : Addr} {fd : FuncData}
@[irreducible] def spNum : Sp := fun vs H Q _ => ∃ p : Addr, vs = [.ref p] /\ PotOk p H /\ ∀ (n : Int) (H' : Hp), n.natAbs <= 10 ^ 18 -> PotAt p H H' -> Q (.int n) H'
theorem num_sp {p : Addr} {H : Hp} {Q : VK} {E : XK} (h : PotOk p H) (q : ∀ (n : Int) (H' : Hp), n.natAbs <= 10 ^ 18 -> PotAt p H H' -> Q (.int n) H') : spNum [.ref p] H Q E := by unfold spNum; exact ⟨p, rfl, h, q⟩
abbrev nNum : List Str := ["_law_pot_here", "_law_near", "_law_far"]
theorem scNum : FnScope nNum ["_law_pot_here"] (defScope sNumber) := ⟨rfl, rfl, rfl, by decide +kernel, rfl, by decide +kernel, by decide +kernel⟩
theorem ok_num {fD : Addr} {dD : FuncData} (F : Fun K "_law_number" "_law_number" sNumber f fd)
  (GD : FnOk P w K mg base CX0 1 fD dD ["_law_pot_here", "_law_many"] spDigit) (kD : keepIn K (.ref fD) = true) (bD : Binds K dD ["_law_pot_here", "_law_many"] []) (mD : mg "_law_digit" = some (.ref fD)) : FnOk P w K mg base CX0 2 f fd ["_law_pot_here"] spNum := by
 refine F.ok scNum (fun vs H Q E h => ?_) (fun cdv A outer s H vs Q E hr h => ?_)
 ·unfold spNum at h; obtain ⟨p, rfl, _⟩ := h; rfl
 ·unfold spNum at h
  obtain ⟨p, rfl, pk, q⟩ := h
  have hr1 : Room 1 _ := hr
  refine ⟨_, pss_cons (ps_set (i := 1) scNum.nd rfl (Or.inl rfl) (pe_op op_sub (pe_call GD hr1 rfl mD kD bD .nil pass0 (pa_cons (pv 0) (pa_cons pe_int pa_nil))) pe_int))
   (pss_cons (ps_set (i := 2) scNum.nd rfl (Or.inl rfl) (pe_op op_add (pe_op op_sub (pe_call GD hr1 rfl mD kD bD .nil pass0 (pa_cons (pv 0) (pa_cons (pe_op op_sub (pe_op op_mul pe_int (pe_op op_pow pe_int pe_int)) pe_int) pa_nil))) (pe_op op_pow pe_int pe_int)) pe_int))
   (pss_one (ps_ret (pe_ix ix_list (pe_lst (pa_cons (pv 1) (pa_cons (pv 1) (pa_cons pe_int (pa_cons (pv 2) pa_nil))))) (pe_call GD hr1 rfl mD kD bD .nil pass0 (pa_cons (pv 0) (pa_cons pe_int pa_nil))) (fun _ _ => rfl))))), ?_⟩
  refine ⟨_, rfl, digit_sp (p := p) (m := 41) pk (by decide) (by decide) fun d1 H1 a0 a1 p1 => ⟨_, _, rfl, rfl, ?_⟩⟩
  refine ⟨_, rfl, _, _, rfl, rfl, ⟨by decide, by decide, by decide⟩, _, _, rfl, rfl, .inl ⟨by decide, by decide⟩, _, _, rfl, rfl, ?_⟩
  refine digit_sp (p := p) (m := 2 * 10 ^ (18 : Int).toNat - 1) p1.ok (by decide) (by decide) fun d2 H2 b0 b1 p2 => ⟨_, _, rfl, rfl, ⟨by decide, by decide, by decide⟩, _, _, rfl, rfl, _, _, rfl, rfl, ?_⟩
  refine ⟨_, rfl, _, rfl, _, rfl, by show 4 <= sizeLine; rw [sizeLine_eq]; decide, fun c hc => ?_⟩
  have p3 := (p1.trans p2).new (o := .lst [.int (d1 - 20), .int (d1 - 20), .int 0, .int (d2 - 10 ^ (18 : Int).toNat + 1)]) hc
  refine ⟨_, rfl, digit_sp (p := p) (m := 4) p3.ok (by decide) (by decide) fun d3 H3 c0 c1 p4 => ?_⟩
  have hcp : c ≠ p := Ne.symm ((p1.trans p2).ok.ne hc)
  have h3 := p4.kp _ _ upd_same hcp
  obtain ⟨j, rfl⟩ := Int.eq_ofNat_of_zero_le c0
  have e18 : (10 : Int) ^ (18 : Int).toNat = 1000000000000000000 := rfl
  have fin : ∀ n : Int, n.natAbs <= 10 ^ 18 -> Q (.int n) H3 := fun n hn => q n H3 hn (p3.trans p4)
  have hj : j = 0 \/ j = 1 \/ j = 2 \/ j = 3 := by omega
  rcases hj with rfl | rfl | rfl | rfl
  ·exact ⟨c, _, ((0 : Nat) : Int), _, rfl, rfl, SqL.of h3, atI_nat rfl, fin _ (by first | omega | (rw [e18] at b1 ⊢; omega))⟩
  ·exact ⟨c, _, ((1 : Nat) : Int), _, rfl, rfl, SqL.of h3, atI_nat rfl, fin _ (by first | omega | (rw [e18] at b1 ⊢; omega))⟩
  ·exact ⟨c, _, ((2 : Nat) : Int), _, rfl, rfl, SqL.of h3, atI_nat rfl, fin _ (by first | omega | (rw [e18] at b1 ⊢; omega))⟩
  ·exact ⟨c, _, ((3 : Nat) : Int), _, rfl, rfl, SqL.of h3, atI_nat rfl, fin _ (by first | omega | (rw [e18] at b1 ⊢; omega))⟩
@[irreducible] def spStp : Sp := fun vs H Q _ => ∃ (p l : Addr) (ys : List Str) (k : Nat), vs = [.ref p, .ref l, .int k] /\ PotOk p H /\ H l = some (.lst (ys.map V.str)) /\ ys ≠ [] /\ ys.length <= 20 /\ (∀ y ∈ ys, Nm y) /\ ∀ (v : V) (d : PyData) (H' : Hp), PotAt p H H' -> Rep H' v d -> Stp d -> Q v H'
theorem stp_sp {p l : Addr} {ys : List Str} {k : Nat} {H : Hp} {Q : VK} {E : XK} (h : PotOk p H) (hl : H l = some (.lst (ys.map V.str))) (ne : ys ≠ []) (h20 : ys.length <= 20) (nm : ∀ y ∈ ys, Nm y) (q : ∀ (v : V) (d : PyData) (H' : Hp), PotAt p H H' -> Rep H' v d -> Stp d -> Q v H') : spStp [.ref p, .ref l, .int k] H Q E := by unfold spStp; exact ⟨p, l, ys, k, rfl, h, hl, ne, h20, nm, q⟩
abbrev nStp : List Str := ["_law_pot_here", "_law_names_here", "_law_at", "_law_way", "_law_later"]
theorem scStp : FnScope nStp ["_law_pot_here", "_law_names_here", "_law_at"] (defScope sStep) := ⟨rfl, rfl, rfl, by decide +kernel, rfl, by decide +kernel, by decide +kernel⟩
theorem ok_stp {fD fN : Addr} {dD dN : FuncData} (F : Fun K "_law_step" "_law_step" sStep f fd) (B : Blt mg)
  (GD : FnOk P w K mg base CX0 1 fD dD ["_law_pot_here", "_law_many"] spDigit) (kD : keepIn K (.ref fD) = true) (bD : Binds K dD ["_law_pot_here", "_law_many"] []) (mD : mg "_law_digit" = some (.ref fD))
  (GN : FnOk P w K mg base CX0 2 fN dN ["_law_pot_here"] spNum) (kN : keepIn K (.ref fN) = true) (bN : Binds K dN ["_law_pot_here"] []) (mN : mg "_law_number" = some (.ref fN)) : FnOk P w K mg base CX0 3 f fd ["_law_pot_here", "_law_names_here", "_law_at"] spStp := by
 refine F.ok scStp (fun vs H Q E h => ?_) (fun cdv A outer s H vs Q E hr h => ?_)
 ·unfold spStp at h; obtain ⟨p, l, ys, k, rfl, _⟩ := h; rfl
 ·unfold spStp at h
  obtain ⟨p, l, ys, k, rfl, pk, hl, ne, h20, nm, q⟩ := h
  have hu := hr.units
  have hr2 : Room 2 _ := hr
  have hr1 : Room 1 _ := hr2.mono (by decide)
  refine ⟨_, pss_cons (ps_set (i := 3) scStp.nd rfl (Or.inl rfl) (pe_call GD hr1 rfl mD kD bD .nil pass0 (pa_cons (pv 0) (pa_cons pe_int pa_nil))))
   (pss_cons (ps_if (pt_cmpR op_eq (pv 3) pe_int (nomark _)) (pss_one (ps_ret (pe_tup (pa_cons pe_str (pa_cons (pe_call GN hr2 rfl mN kN bN .nil pass0 (pa_cons (pv 0) pa_nil)) pa_nil))))) pss_nil)
   (pss_cons (ps_if (pt_cmpR op_eq (pv 3) pe_int (nomark _)) (pss_one (ps_ret (pe_tup (pa_cons pe_str (pa_cons (pe_op op_sub (pe_call GD hr1 rfl mD kD bD .nil pass0 (pa_cons (pv 0) (pa_cons pe_int pa_nil))) pe_int) pa_nil))))) pss_nil)
   (pss_cons (ps_if (pt_cmpR op_lt (pv 3) pe_int (nomark _)) (pss_one (ps_ret (pe_tup (pa_cons pe_str pa_nil)))) pss_nil)
   (pss_cons (ps_set (i := 4) scStp.nd rfl (Or.inl rfl) (pe_slice sl_list (pv 1) (po_some (pe_op op_add (pv 2) pe_int)) po_none))
   (pss_cons (ps_if (PW.pt (pw_or (pt_cmpR (op_eqD hu) (pv 4) (pe_lst pa_nil) (nomark _)) (pw_or1 (pt_cmpR op_eq (pe_call GD hr1 rfl mD kD bD .nil pass0 (pa_cons (pv 0) (pa_cons pe_int pa_nil))) pe_int (nomark _))))) (pss_one (ps_set (i := 4) scStp.nd rfl (Or.inl rfl) (pv 1))) pss_nil)
   (pss_one (ps_ret (pe_tup (pa_cons pe_str (pa_cons (pe_ix ix_list (pv 4) (pe_call GD hr1 rfl mD kD bD .nil pass0 (pa_cons (pv 0) (pa_cons (pe_callB call_len_seq rfl B.len boot_len (pa_cons (pv 4) pa_nil)) pa_nil))) (fun _ _ => rfl)) pa_nil)))))))))), ?_⟩
  refine ⟨_, rfl, digit_sp (p := p) (m := 6) pk (by decide) (by decide) fun wy H1 a0 a1 p1 => ?_⟩
  refine ⟨_, rfl, rfl, _, rfl, ?_⟩
  refine ite2 (fun h0 => ?_) (fun h0 => ?_)
  ·refine ⟨_, rfl, num_sp p1.ok fun n H2 hn p2 => ⟨by show 2 <= sizeLine; rw [sizeLine_eq]; decide, fun t ht => ?_⟩⟩
   exact q _ _ _ ((p1.trans p2).new ht) (.tup upd_same (.cons (.str _) (.cons (.int _) .nil))) (.add n hn)
  refine ⟨_, rfl, rfl, _, rfl, ?_⟩
  refine ite2 (fun h1 => ?_) (fun h1 => ?_)
  ·refine ⟨_, rfl, digit_sp (p := p) (m := 19) p1.ok (by decide) (by decide) fun n H2 b0 b1 p2 => ⟨_, _, rfl, rfl, by show 2 <= sizeLine; rw [sizeLine_eq]; decide, fun t ht => ?_⟩⟩
   exact q _ _ _ ((p1.trans p2).new ht) (.tup upd_same (.cons (.str _) (.cons (.int _) .nil))) (.times (n - 9) (by omega) (by omega))
  refine ⟨_, rfl, _, _, rfl, rfl, _, rfl, ?_⟩
  refine ite2 (fun h2 => ?_) (fun h2 => ?_)
  ·refine ⟨by show 1 <= sizeLine; rw [sizeLine_eq]; decide, fun t ht => ?_⟩
   exact q _ _ _ (p1.new ht) (.tup upd_same (.cons (.str _) .nil)) .onward
  have nlp : l ≠ p := strs_pot pk hl
  refine ⟨_, rfl, _, rfl, _, _, rfl, rfl, _, rfl, l, _, rfl, SqL.of (p1.kp _ _ hl nlp), fun c hc => ?_⟩
  have ecut : cutV (ys.map V.str) (some ((k : Int) + 1)) none = (ys.drop (k + 1)).map V.str := by
   rw [List.map_drop]
   exact cut_from (ys.map V.str) (k + 1)
  rw [ecut]
  have p2 := p1.new (o := .lst ((ys.drop (k + 1)).map V.str)) hc
  have hc2 : upd H1 c (.lst ((ys.drop (k + 1)).map V.str)) c = some (.lst ((ys.drop (k + 1)).map V.str)) := upd_same
  generalize upd H1 c (.lst ((ys.drop (k + 1)).map V.str)) = H2 at p2 hc2 ⊢
  have dnm : ∀ y ∈ ys.drop (k + 1), Nm y := fun y hy => nm y (List.mem_of_mem_drop hy)
  have dl : (ys.drop (k + 1)).length <= ys.length := by rw [List.length_drop]; omega
  generalize ys.drop (k + 1) = zs at hc2 dnm dl
  refine ⟨_, rfl, Nat.zero_le _, fun e0 he0 => ?_⟩
  have p3 := p2.new (o := .lst []) he0
  have hc3 : upd H2 e0 (.lst []) c = some (.lst (zs.map V.str)) := by rw [upd_ne (ne_of_none hc2 he0)]; exact hc2
  have he3 : upd H2 e0 (.lst []) e0 = some (.lst []) := upd_same
  generalize upd H2 e0 (.lst []) = H3 at p3 hc3 he3 ⊢
  refine eq_nil hc3 he3 dnm ⟨_, rfl, ?_⟩
  have hl3 := p3.kp _ _ hl nlp
  refine ite2 (fun hE => ?_) (fun hE => ?_)
  ·refine ⟨_, rfl, ?_⟩
   refine ⟨_, rfl, _, rfl, _, rfl, l, _, rfl, .inl (SqL.of hl3), ?_⟩
   rw [List.length_map]
   have hpos : 0 < ys.length := List.length_pos_iff.mpr ne
   have hle : ys.length <= 20 := h20
   refine digit_sp (p := p) (m := (ys.length : Int)) p3.ok (by omega) (by omega) fun dz H5 c0 c1 p5 => ?_
   obtain ⟨j, rfl⟩ := Int.eq_ofNat_of_zero_le c0
   have hj : j < ys.length := by omega
   have h5 := p5.kp _ _ hl3 (strs_pot p3.ok hl3)
   refine ⟨l, _, (j : Int), .str ys[j], rfl, rfl, SqL.of h5, atI_nat (by rw [List.getElem?_map, List.getElem?_eq_getElem hj]; rfl), by show 2 <= sizeLine; rw [sizeLine_eq]; decide, fun t ht => ?_⟩
   exact q _ _ _ ((p3.trans p5).new ht) (.tup upd_same (.cons (.str _) (.cons (.str _) .nil))) (.ask _ (nm _ (List.getElem_mem hj)))
  have zne : zs ≠ [] := fun z => hE (by simp [z])
  refine ⟨_, rfl, digit_sp (p := p) (m := 4) p3.ok (by decide) (by decide) fun wz H4 b0 b1 p4 => ⟨rfl, _, rfl, ?_⟩⟩
  have P4 := p3.trans p4
  have hl4 := P4.kp _ _ hl nlp
  have hc4 := p4.kp _ _ hc3 (strs_pot p3.ok hc3)
  refine ite2 (fun hE2 => ?_) (fun hE2 => ?_)
  ·refine ⟨_, rfl, ?_⟩
   refine ⟨_, rfl, _, rfl, _, rfl, l, _, rfl, .inl (SqL.of hl4), ?_⟩
   rw [List.length_map]
   have hpos : 0 < ys.length := List.length_pos_iff.mpr ne
   have hle : ys.length <= 20 := h20
   refine digit_sp (p := p) (m := (ys.length : Int)) P4.ok (by omega) (by omega) fun dz H5 c0 c1 p5 => ?_
   obtain ⟨j, rfl⟩ := Int.eq_ofNat_of_zero_le c0
   have hj : j < ys.length := by omega
   have h5 := p5.kp _ _ hl4 (strs_pot P4.ok hl4)
   refine ⟨l, _, (j : Int), .str ys[j], rfl, rfl, SqL.of h5, atI_nat (by rw [List.getElem?_map, List.getElem?_eq_getElem hj]; rfl), by show 2 <= sizeLine; rw [sizeLine_eq]; decide, fun t ht => ?_⟩
   exact q _ _ _ ((P4.trans p5).new ht) (.tup upd_same (.cons (.str _) (.cons (.str _) .nil))) (.ask _ (nm _ (List.getElem_mem hj)))
  ·refine ⟨_, rfl, _, rfl, _, rfl, c, _, rfl, .inl (SqL.of hc4), ?_⟩
   rw [List.length_map]
   have hpos : 0 < zs.length := List.length_pos_iff.mpr zne
   have hle : zs.length <= 20 := (by omega)
   refine digit_sp (p := p) (m := (zs.length : Int)) P4.ok (by omega) (by omega) fun dz H5 c0 c1 p5 => ?_
   obtain ⟨j, rfl⟩ := Int.eq_ofNat_of_zero_le c0
   have hj : j < zs.length := by omega
   have h5 := p5.kp _ _ hc4 (strs_pot P4.ok hc4)
   refine ⟨c, _, (j : Int), .str zs[j], rfl, rfl, SqL.of h5, atI_nat (by rw [List.getElem?_map, List.getElem?_eq_getElem hj]; rfl), by show 2 <= sizeLine; rw [sizeLine_eq]; decide, fun t ht => ?_⟩
   exact q _ _ _ ((P4.trans p5).new ht) (.tup upd_same (.cons (.str _) (.cons (.str _) .nil))) (.ask _ (dnm _ (List.getElem_mem hj)))
end
section
variable {P : Program} {w : World} {K : Frag} {mg : Str -> Option Value} {base : Heap} {f : Addr} {fd : FuncData}
@[irreducible] def spEnt : Sp := fun vs H Q _ => ∃ (p l : Addr) (ys : List Str) (k : Nat), vs = [.ref p, .ref l, .int k] /\ PotOk p H /\ H l = some (.lst (ys.map V.str)) /\ ys ≠ [] /\ ys.length <= 20 /\ (∀ y ∈ ys, Nm y) /\ ∀ (v : V) (d : PyData) (H' : Hp), PotAt p H H' -> Rep H' v d -> Ent d -> Q v H'
theorem ent_sp {p l : Addr} {ys : List Str} {k : Nat} {H : Hp} {Q : VK} {E : XK} (h : PotOk p H) (hl : H l = some (.lst (ys.map V.str))) (ne : ys ≠ []) (h20 : ys.length <= 20) (nm : ∀ y ∈ ys, Nm y) (q : ∀ (v : V) (d : PyData) (H' : Hp), PotAt p H H' -> Rep H' v d -> Ent d -> Q v H') : spEnt [.ref p, .ref l, .int k] H Q E := by unfold spEnt; exact ⟨p, l, ys, k, rfl, h, hl, ne, h20, nm, q⟩
abbrev nEnt : List Str := ["_law_pot_here", "_law_names_here", "_law_at", "_law_way", "_law_steps"]
theorem scEnt : FnScope nEnt ["_law_pot_here", "_law_names_here", "_law_at"] (defScope sEntry) := ⟨rfl, rfl, rfl, by decide +kernel, rfl, by decide +kernel, by decide +kernel⟩
abbrev eEnt : Expr := arg0 (asgV (bodyAt (defBody sEntry) 3))
theorem csEnt : CompScope nEnt (defScope sEntry) ["_law_turn", "_law_pot_here", "_law_names_here", "_law_at"] [none, some 0, some 1, some 2] (compSc eEnt) := ⟨rfl, by decide +kernel, by decide +kernel, rfl, fv_of (by decide +kernel), by decide +kernel⟩
theorem ok_ent {fD fN fS : Addr} {dD dN dS : FuncData} (F : Fun K "_law_entry" "_law_entry" sEntry f fd) (B : Blt mg)
  (GD : FnOk P w K mg base CX0 1 fD dD ["_law_pot_here", "_law_many"] spDigit) (kD : keepIn K (.ref fD) = true) (bD : Binds K dD ["_law_pot_here", "_law_many"] []) (mD : mg "_law_digit" = some (.ref fD))
  (GN : FnOk P w K mg base CX0 2 fN dN ["_law_pot_here"] spNum) (kN : keepIn K (.ref fN) = true) (bN : Binds K dN ["_law_pot_here"] []) (mN : mg "_law_number" = some (.ref fN))
  (GS : FnOk P w K mg base CX0 3 fS dS ["_law_pot_here", "_law_names_here", "_law_at"] spStp) (kS : keepIn K (.ref fS) = true) (bS : Binds K dS ["_law_pot_here", "_law_names_here", "_law_at"] []) (mS : mg "_law_step" = some (.ref fS)) : FnOk P w K mg base CX0 4 f fd ["_law_pot_here", "_law_names_here", "_law_at"] spEnt := by
 refine F.ok scEnt (fun vs H Q E h => ?_) (fun cdv A outer s H vs Q E hr h => ?_)
 ·unfold spEnt at h; obtain ⟨p, l, ys, k, rfl, _⟩ := h; rfl
 ·unfold spEnt at h
  obtain ⟨p, l, ys, k, rfl, pk, hl, ne, h20, nm, q⟩ := h
  have hr3 : Room 3 _ := hr
  have hr2 : Room 2 _ := hr3.mono (by decide)
  have hr1 : Room 1 _ := hr2.mono (by decide)
  refine ⟨_, pss_cons (ps_set (i := 3) scEnt.nd rfl (Or.inl rfl) (pe_call GD hr1 rfl mD kD bD .nil pass0 (pa_cons (pv 0) (pa_cons pe_int pa_nil))))
   (pss_cons (ps_if (pt_cmpR op_eq (pv 3) pe_int (nomark _)) (pss_one (ps_ret (pe_tup (pa_cons pe_str (pa_cons (pe_call GN hr2 rfl mN kN bN .nil pass0 (pa_cons (pv 0) pa_nil)) pa_nil))))) pss_nil)
   (pss_cons (ps_if (pt_cmpR op_eq (pv 3) pe_int (nomark _)) (pss_one (ps_ret (pe_tup (pa_cons pe_str (pa_cons (pe_ix ix_list (pv 1) (pe_op op_mod (pe_op op_add (pe_op op_add (pv 2) pe_int) (pe_call GD hr1 rfl mD kD bD .nil pass0 (pa_cons (pv 0) (pa_cons (pe_callB call_len_seq rfl B.len boot_len (pa_cons (pv 1) pa_nil)) pa_nil)))) (pe_callB call_len_seq rfl B.len boot_len (pa_cons (pv 1) pa_nil))) (fun _ _ => rfl)) (pa_cons (pe_call GN hr2 rfl mN kN bN .nil pass0 (pa_cons (pv 0) pa_nil)) pa_nil)))))) pss_nil)
   (pss_cons (ps_set (i := 4) scEnt.nd rfl (Or.inl rfl) (pe_callTy call_tuple_of rfl B.tuple boot_tuple (pa_cons (pe_comp rfl csEnt (pi_range1 rfl B.range (pa_cons (pe_call GD hr1 rfl mD kD bD .nil pass0 (pa_cons (pv 0) (pa_cons pe_int pa_nil))) pa_nil)) (fun s H fp => ⟨pg_name (i := 0) csEnt.nd rfl (Or.inl rfl), pifs_nil, pe_call GS hr3 rfl mS kS bS .nil pass0 (pa_cons (pv 1) (pa_cons (pv 2) (pa_cons (pv 3) pa_nil)))⟩)) pa_nil)))
   (pss_one (ps_ret (pe_tup (pa_cons (pe_ix ix_list (pe_lst (pa_cons pe_str (pa_cons pe_str (pa_cons pe_str pa_nil)))) (pe_op op_sub (pv 3) pe_int) (fun _ _ => rfl)) (pa_cons (pv 4) pa_nil)))))))), ?_⟩
  have nlp : l ≠ p := strs_pot pk hl
  have hpos : 0 < ys.length := List.length_pos_iff.mpr ne
  refine ⟨_, rfl, digit_sp (p := p) (m := 5) pk (by decide) (by decide) fun wy H1 a0 a1 p1 => ?_⟩
  refine ⟨_, rfl, rfl, _, rfl, ?_⟩
  refine ite2 (fun h0 => ?_) (fun h0 => ?_)
  ·refine ⟨_, rfl, num_sp p1.ok fun n H2 hn p2 => ⟨by show 2 <= sizeLine; rw [sizeLine_eq]; decide, fun t ht => ?_⟩⟩
   exact q _ _ _ ((p1.trans p2).new ht) (.tup upd_same (.cons (.str _) (.cons (.int _) .nil))) (.plain n hn)
  have hl1 := p1.kp _ _ hl nlp
  refine ⟨_, rfl, rfl, _, rfl, ?_⟩
  refine ite2 (fun h1 => ?_) (fun h1 => ?_)
  ·refine ⟨_, rfl, _, rfl, _, _, rfl, rfl, _, rfl, _, rfl, l, _, rfl, .inl (SqL.of hl1), ?_⟩
   rw [List.length_map]
   refine digit_sp (p := p) (m := (ys.length : Int)) p1.ok (by omega) (by omega) fun dz H2 b0 b1 p2 => ?_
   have hl2 := p2.kp _ _ hl1 nlp
   refine ⟨_, _, rfl, rfl, _, rfl, l, _, rfl, .inl (SqL.of hl2), _, _, rfl, rfl, by rw [List.length_map]; omega, ?_⟩
   rw [List.length_map]
   obtain ⟨j, ej⟩ := Int.eq_ofNat_of_zero_le (Int.emod_nonneg ((k : Int) + 1 + dz) (show (ys.length : Int) ≠ 0 by omega))
   have hj : j < ys.length := by
    have := Int.emod_lt_of_pos ((k : Int) + 1 + dz) (show (0 : Int) < (ys.length : Int) by omega)
    rw [ej] at this; omega
   refine ⟨l, _, (j : Int), .str ys[j], rfl, (congrArg V.int ej : V.int (((k : Int) + 1 + dz) % (ys.length : Int)) = V.int (j : Int)), SqL.of hl2, atI_nat (by rw [List.getElem?_map, List.getElem?_eq_getElem hj]; rfl), _, rfl, num_sp p2.ok fun n H3 hn p3 => ⟨by show 3 <= sizeLine; rw [sizeLine_eq]; decide, fun t ht => ?_⟩⟩
   exact q _ _ _ (((p1.trans p2).trans p3).new ht) (.tup upd_same (.cons (.str _) (.cons (.str _) (.cons (.int _) .nil)))) (.ahead _ n (nm _ (List.getElem_mem hj)) hn)
  have hw : wy = 2 \/ wy = 3 \/ wy = 4 := by
   have e0 : wy ≠ 0 := fun z => h0 (by rw [z]; rfl)
   have e1 : wy ≠ 1 := fun z => h1 (by rw [z]; rfl)
   omega
  refine ⟨_, rfl, digit_sp (p := p) (m := 5) p1.ok (by decide) (by decide) fun dn H2 b0 b1 p2 => ⟨dn, rfl, by omega, by omega, fun c hc => ?_⟩⟩
  have P2 := p1.trans p2
  have npc : p ≠ c := P2.ok.ne hc
  have hl2 := P2.kp _ _ hl nlp
  refine comp_range (fun i zs τ H4 => ∃ (ds : List PyData) (t0 : Option V), τ = [t0, some (.ref p), some (.ref l), some (.int (k : Int))] /\ RepAll H4 zs ds /\ ds.length = i /\ (∀ d ∈ ds, Stp d) /\ PotAt p H2 H4 /\ H4 c = some (.lst zs))
   ⟨[], none, rfl, .nil, rfl, (fun d hd => by cases hd), (PotAt.refl P2.ok).new hc, upd_same⟩ (fun i zs τ H4 ⟨_, _, _, _, _, _, _, z⟩ => z) ?_ ?_
  ·rintro j zs τ H4 hj ⟨ds, t0, rfl, rs, dl, ds4, pe, hz⟩
   refine ⟨_, rfl, _, rfl, _, rfl, stp_sp pe.ok (pe.kp _ _ hl2 nlp) ne h20 nm fun v d H5 pf rd sd => ?_⟩
   have hz5 := pf.kp _ _ hz (Ne.symm npc)
   have up : ∀ b xs, H5 b = some (.tup xs) -> upd H5 c (.lst (zs ++ [v])) b = some (.tup xs) := fun b xs e => by rw [upd_ne (ne_of e hz5 (by intro z; cases z))]; exact e
   refine ⟨hz5, by rw [rs.length, dl, sizeLine_eq]; omega, cw_next hj ⟨ds ++ [d], _, rfl, repAll_append (stps_keep (fun b xs e => up b xs (pot_tup pe.ok pf b xs e)) rs ds4) (sd.keep rd up), by rw [List.length_append, dl]; rfl, fun x hx => ?_, (pe.trans pf).write hc npc, upd_same⟩⟩
   rcases List.mem_append.mp hx with z | z
   ·exact ds4 x z
   ·rw [List.mem_singleton.mp z]; exact sd
  rintro zs τ H4 ⟨ds, t0, rfl, rs, dl, ds4, pe, hz⟩
  refine ⟨c, _, rfl, .inl ⟨SqL.of hz, fun b hb => ?_⟩⟩
  have P4 := P2.trans pe
  have p5 := P4.new (o := .tup zs) hb
  have Sb := same_new (o := .tup zs) hb
  have hb5 : upd H4 b (.tup zs) b = some (.tup zs) := upd_same
  have rs5 := RepAll.same rs Sb
  generalize upd H4 b (.tup zs) = H5 at p5 hb5 rs5 ⊢
  refine ⟨by show 3 <= sizeLine; rw [sizeLine_eq]; decide, fun c5 hc5 => ?_⟩
  have p6 := p5.new (o := .lst [V.str "behind", V.str "behind", V.str "shut"]) hc5
  have S6 := same_new (o := .lst [V.str "behind", V.str "behind", V.str "shut"]) hc5
  have h65 : upd H5 c5 (.lst [V.str "behind", V.str "behind", V.str "shut"]) c5 = some (.lst [V.str "behind", V.str "behind", V.str "shut"]) := upd_same
  have hb6 := S6 _ _ hb5
  have rs6 := RepAll.same rs5 S6
  generalize upd H5 c5 (.lst [V.str "behind", V.str "behind", V.str "shut"]) = H6 at p6 h65 hb6 rs6 ⊢
  have d4 : ds.length <= 4 := by omega
  refine ⟨_, rfl, _, _, rfl, rfl, ?_⟩
  rcases hw with rfl | rfl | rfl
  ·refine ⟨c5, _, ((0 : Nat) : Int), .str "behind", rfl, rfl, SqL.of h65, atI_nat rfl, _, rfl, by show 2 <= sizeLine; rw [sizeLine_eq]; decide, fun t ht => ?_⟩
   exact q _ _ _ (p6.new ht) (.tup upd_same (.cons (.str _) (.cons (.tup ((same_new ht) _ _ hb6) (RepAll.same rs6 (same_new ht))) .nil))) (.behind ds d4 ds4)
  ·refine ⟨c5, _, ((1 : Nat) : Int), .str "behind", rfl, rfl, SqL.of h65, atI_nat rfl, _, rfl, by show 2 <= sizeLine; rw [sizeLine_eq]; decide, fun t ht => ?_⟩
   exact q _ _ _ (p6.new ht) (.tup upd_same (.cons (.str _) (.cons (.tup ((same_new ht) _ _ hb6) (RepAll.same rs6 (same_new ht))) .nil))) (.behind ds d4 ds4)
  ·refine ⟨c5, _, ((2 : Nat) : Int), .str "shut", rfl, rfl, SqL.of h65, atI_nat rfl, _, rfl, by show 2 <= sizeLine; rw [sizeLine_eq]; decide, fun t ht => ?_⟩
   exact q _ _ _ (p6.new ht) (.tup upd_same (.cons (.str _) (.cons (.tup ((same_new ht) _ _ hb6) (RepAll.same rs6 (same_new ht))) .nil))) (.shut ds d4 ds4)
end
end K31
namespace K31
open PySem L2 PySem.W HT
mutual
def lf : PyData -> Bool
 | .int i => decide (i.natAbs <= 10 ^ 18)
 | .str x => x.cps.toList.all fun c => decide (c < 16 ^ 8)
 | .list xs | .tuple xs => lfs xs
 | .dict kvs => kvs.isEmpty
 | .none | .bool _ => true
def lfs : List PyData -> Bool
 | [] => true
 | x :: xs => lf x && lfs xs
end
structure Gd (n m : Nat) (d : PyData) : Prop where
 leaf : lf d = true
 bulk : d.bulk <= n
 dep : d.depth <= m
theorem lfs_mem : ∀ {ds : List PyData} {d : PyData}, lfs ds = true -> d ∈ ds -> lf d = true
 | e :: ds, d, h, hd => by
  simp only [lfs, Bool.and_eq_true] at h
  rcases List.mem_cons.mp hd with rfl | hd
  ·exact h.1
  ·exact lfs_mem h.2 hd
theorem lfs_of : ∀ {ds : List PyData}, (∀ d ∈ ds, lf d = true) -> lfs ds = true
 | [], _ => rfl
 | e :: ds, h => by simp only [lfs, Bool.and_eq_true]; exact ⟨h e List.mem_cons_self, lfs_of fun d hd => h d (List.mem_cons_of_mem _ hd)⟩
mutual
theorem lf_show : ∀ d : PyData, lf d = true -> d.showable = true /\ d.leavesShort 70 = true
 | .none, _ => ⟨rfl, rfl⟩
 | .bool _, _ => ⟨rfl, rfl⟩
 | .int i, h => by
  simp only [lf, decide_eq_true_eq] at h
  have l : i.natAbs.log2 < 64 := by
   by_cases z : i.natAbs = 0
   ·rw [z]; decide
   ·exact (Nat.log2_lt z).mpr (by omega)
  have l2 := int_text_length_le (k := 64) (by decide) l
  refine ⟨by simp only [PyData.showable, decide_eq_true_eq]; omega, ?_⟩
  have l3 : (PyData.shown (.int i)).length <= 70 := by
   show (Str.ofString (toString i)).length <= 70
   rw [ofString_length]; omega
  exact decide_eq_true l3
 | .str x, h => by
  refine ⟨rfl, ?_⟩
  simp only [lf] at h
  simp only [PyData.leavesShort]; exact h
 | .list xs, h => lfs_show xs h
 | .tuple xs, h => lfs_show xs h
 | .dict kvs, h => by
  simp only [lf, List.isEmpty_iff] at h
  subst h; exact ⟨rfl, rfl⟩
theorem lfs_show : ∀ ds : List PyData, lfs ds = true -> PyData.showableAll ds = true /\ PyData.leavesShortAll 70 ds = true
 | [], _ => ⟨rfl, rfl⟩
 | d :: ds, h => by
  simp only [lfs, Bool.and_eq_true] at h
  obtain ⟨a, b⟩ := lf_show d h.1
  obtain ⟨c, e⟩ := lfs_show ds h.2
  exact ⟨by simp only [PyData.showableAll, a, c, Bool.and_self], by simp only [PyData.leavesShortAll, b, e, Bool.and_self]⟩
end
theorem Gd.shown {n m : Nat} {d : PyData} (g : Gd n m d) (hn : n <= 1000) : d.showable = true /\ d.shown.length <= 100000 := by
 obtain ⟨a, b⟩ := lf_show d g.leaf
 have := PyData.shown_le_bulk 70 (by decide) d b
 have := g.bulk
 exact ⟨a, by omega⟩
def kids : PyData -> List PyData
 | .list ds | .tuple ds => ds
 | _ => []
def isSeq : PyData -> Bool
 | .list _ | .tuple _ => true
 | _ => false
def ofKids (d : PyData) (ds : List PyData) : PyData := match d with | .tuple _ => .tuple ds | _ => .list ds
def partAt : List Nat -> PyData -> Option PyData
 | [], d => some d
 | i :: r, d => (kids d)[i]?.bind (partAt r)
def putAt : List Nat -> PyData -> PyData -> PyData
 | [], _, e => e
 | i :: r, d, e => ofKids d ((kids d).set i (putAt r ((kids d).getD i .none) e))
theorem kid_bulk {d e : PyData} (h : e ∈ kids d) : e.bulk + 1 <= d.bulk := by
 cases d with
 | list ds => exact bulk_mem h
 | tuple ds => exact bulk_mem h
 | _ => cases h
theorem dep_mem : ∀ {ds : List PyData} {d : PyData}, d ∈ ds -> d.depth <= PyData.depthAll ds
 | e :: ds, d, h => by
  simp only [PyData.depthAll]
  rcases List.mem_cons.mp h with rfl | h
  ·exact Nat.le_max_left _ _
  ·exact Nat.le_trans (dep_mem h) (Nat.le_max_right _ _)
theorem kid_dep {d e : PyData} (h : e ∈ kids d) : e.depth + 1 <= d.depth := by
 cases d with
 | list ds => have := dep_mem (ds := ds) h; simp only [PyData.depth]; omega
 | tuple ds => have := dep_mem (ds := ds) h; simp only [PyData.depth]; omega
 | _ => cases h
theorem kid_lf {d e : PyData} (hd : lf d = true) (h : e ∈ kids d) : lf e = true := by
 cases d with
 | list ds => exact lfs_mem hd h
 | tuple ds => exact lfs_mem hd h
 | _ => cases h
theorem Gd.kid {n m : Nat} {d e : PyData} (g : Gd n m d) (h : e ∈ kids d) : Gd (n - 1) (m - 1) e := ⟨kid_lf g.leaf h, by have := kid_bulk h; have := g.bulk; omega, by have := kid_dep h; have := g.dep; omega⟩
theorem Gd.mono {n m n' m' : Nat} {d : PyData} (g : Gd n m d) (h1 : n <= n') (h2 : m <= m') : Gd n' m' d := ⟨g.leaf, Nat.le_trans g.bulk h1, Nat.le_trans g.dep h2⟩
theorem part_gd : ∀ {r : List Nat} {n m : Nat} {d e : PyData}, Gd n m d -> partAt r d = some e -> Gd n m e
 | [], _, _, _, _, g, h => by cases h; exact g
 | i :: r, n, m, d, e, g, h => by
  obtain ⟨k, hk, h⟩ := Option.bind_eq_some_iff.mp h
  exact (part_gd (g.kid (List.mem_of_getElem? hk)) h).mono (Nat.sub_le _ _) (Nat.sub_le _ _)
theorem part_len : ∀ {r : List Nat} {d e : PyData}, partAt r d = some e -> r.length <= d.depth
 | [], _, _, _ => Nat.zero_le _
 | i :: r, d, e, h => by
  obtain ⟨k, hk, h⟩ := Option.bind_eq_some_iff.mp h
  have h1 := part_len h
  have h2 := kid_dep (List.mem_of_getElem? hk)
  rw [List.length_cons]; omega
theorem bulk_set : ∀ (ds : List PyData) (i : Nat) (e k : PyData), ds[i]? = some k -> PyData.bulkAll (ds.set i e) + k.bulk = PyData.bulkAll ds + e.bulk
 | [], i, e, k, h => by cases h
 | d :: ds, 0, e, k, h => by cases h; simp only [List.set_cons_zero, PyData.bulkAll]; omega
 | d :: ds, i + 1, e, k, h => by
  have := bulk_set ds i e k (by simpa using h)
  simp only [List.set_cons_succ, PyData.bulkAll]; omega
theorem dep_set : ∀ (ds : List PyData) (i : Nat) (e : PyData) (m : Nat), PyData.depthAll ds <= m -> e.depth <= m -> PyData.depthAll (ds.set i e) <= m
 | [], i, e, m, h, _ => h
 | d :: ds, 0, e, m, h, he => by
  simp only [List.set_cons_zero, PyData.depthAll] at h ⊢
  omega
 | d :: ds, i + 1, e, m, h, he => by
  simp only [List.set_cons_succ, PyData.depthAll] at h ⊢
  have := dep_set ds i e m (by omega) he
  omega
theorem lfs_set : ∀ (ds : List PyData) (i : Nat) (e : PyData), lfs ds = true -> lf e = true -> lfs (ds.set i e) = true
 | [], i, e, h, _ => h
 | d :: ds, 0, e, h, he => by simp only [List.set_cons_zero, lfs, Bool.and_eq_true] at h ⊢; exact ⟨he, h.2⟩
 | d :: ds, i + 1, e, h, he => by simp only [List.set_cons_succ, lfs, Bool.and_eq_true] at h ⊢; exact ⟨h.1, lfs_set ds i e h.2 he⟩
theorem kids_bulk {d : PyData} (h : isSeq d = true) (ds : List PyData) : (ofKids d ds).bulk = PyData.bulkAll ds /\ d.bulk = PyData.bulkAll (kids d) /\ (ofKids d ds).depth = PyData.depthAll ds + 1 /\ d.depth = PyData.depthAll (kids d) + 1 /\ lf (ofKids d ds) = lfs ds /\ lf d = lfs (kids d) := by
 cases d with
 | list xs => exact ⟨rfl, rfl, rfl, rfl, rfl, rfl⟩
 | tuple xs => exact ⟨rfl, rfl, rfl, rfl, rfl, rfl⟩
 | _ => cases h
theorem seq_of_kid {d e : PyData} {i : Nat} (h : (kids d)[i]? = some e) : isSeq d = true := by
 cases d with
 | list xs => rfl
 | tuple xs => rfl
 | _ => cases h
theorem put_gd : ∀ {r : List Nat} {n m a b : Nat} {d k e : PyData}, Gd n m d -> partAt r d = some k -> Gd a b e -> Gd (n + a) (m + b) (putAt r d e)
 | [], _, _, _, _, _, _, _, g, h, ge => ge.mono (Nat.le_add_left _ _) (Nat.le_add_left _ _)
 | i :: r, n, m, a, b, d, k, e, g, h, ge => by
  obtain ⟨c, hc, h⟩ := Option.bind_eq_some_iff.mp h
  have sq := seq_of_kid hc
  have gc := g.kid (List.mem_of_getElem? hc)
  have ih := put_gd gc h ge
  have ec : (kids d).getD i .none = c := by rw [List.getD_eq_getElem?_getD, hc]; rfl
  obtain ⟨e1, e2, e3, e4, e5, e6⟩ := kids_bulk sq ((kids d).set i (putAt r c e))
  have hb := bulk_set (kids d) i (putAt r c e) c hc
  have hk := kid_bulk (List.mem_of_getElem? hc)
  have hkd := kid_dep (List.mem_of_getElem? hc)
  have gb := g.bulk
  have gd := g.dep
  have ib := ih.bulk
  have id := ih.dep
  show Gd (n + a) (m + b) (ofKids d ((kids d).set i (putAt r ((kids d).getD i .none) e)))
  rw [ec]
  refine ⟨?_, ?_, ?_⟩
  ·rw [e5]; exact lfs_set _ _ _ (by rw [<- e6]; exact g.leaf) ih.leaf
  ·rw [e1]
   have : (putAt r c e).bulk <= c.bulk + a := (put_gd (n := c.bulk) (m := c.depth) ⟨kid_lf g.leaf (List.mem_of_getElem? hc), Nat.le_refl _, Nat.le_refl _⟩ h ge).bulk
   omega
  ·rw [e3]
   have := dep_set (kids d) i (putAt r c e) (m - 1 + b) (by omega) (by omega)
   omega
end K31
namespace K31
open PySem L2 PySem.W HT
abbrev iV (i : Nat) : V := .int (i : Int)
theorem dt_seq {p : Addr} {H : Hp} {v : V} {d : PyData} (r : Dt p H v d) (h : isSeq d = true) : ∃ a vs, v = .ref a /\ a ≠ p /\ Dts p H vs (kids d) /\ ((H a = some (.lst vs) /\ d = .list (kids d)) \/ (H a = some (.tup vs) /\ d = .tuple (kids d))) := by
 cases r with
 | lst n e rs => exact ⟨_, _, rfl, n, rs, .inl ⟨e, rfl⟩⟩
 | tup n e rs => exact ⟨_, _, rfl, n, rs, .inr ⟨e, rfl⟩⟩
 | _ => cases h
theorem seq_sq {K : Frag} {H : Hp} {a : Addr} {vs : List V} {d : PyData} (h : (H a = some (.lst vs) /\ d = .list (kids d)) \/ (H a = some (.tup vs) /\ d = .tuple (kids d))) : SqL K H a vs \/ SqT K H a vs := h.elim (fun z => .inl (SqL.of z.1)) fun z => .inr (SqT.of z.1)
theorem ix_any {K : Frag} {H : Hp} {a : Addr} {vs : List V} {k : Nat} {v : V} {Q : VK} (h : SqL K H a vs \/ SqT K H a vs) (hv : vs[k]? = some v) (q : Q v H) : rIx K (.ref a) (.int (k : Int)) H Q := by
 rcases h with h | h
 ·exact .inl ⟨a, vs, _, v, rfl, rfl, h, atI_nat hv, q⟩
 ·exact .inr (.inl ⟨a, vs, _, v, rfl, rfl, h, atI_nat hv, q⟩)
section
variable {P : Program} {w : World} {K : Frag} {mg : Str -> Option Value} {base : Heap} {f : Addr} {fd : FuncData}
@[irreducible] def spPart : Sp := fun vs H Q _ => ∃ (p : Addr) (v : V) (d : PyData) (t : Addr) (r : List Nat) (e : PyData), vs = [v, .ref t] /\ Dt p H v d /\ H t = some (.tup (r.map iV)) /\ partAt r d = some e /\ ∀ u, Dt p H u e -> Q u H
theorem part_sp {p : Addr} {v : V} {d : PyData} {t : Addr} {r : List Nat} {e : PyData} {H : Hp} {Q : VK} {E : XK} (rd : Dt p H v d) (ht : H t = some (.tup (r.map iV))) (h : partAt r d = some e) (q : ∀ u, Dt p H u e -> Q u H) : spPart [v, .ref t] H Q E := by unfold spPart; exact ⟨p, v, d, t, r, e, rfl, rd, ht, h, q⟩
abbrev nPart : List Str := ["_law_thing", "_law_path", "_law_k"]
theorem scPart : FnScope nPart ["_law_thing", "_law_path"] (defScope sPart) := ⟨rfl, rfl, rfl, by decide +kernel, rfl, by decide +kernel, by decide +kernel⟩
theorem ok_part (F : Fun K "_law_part" "_law_part" sPart f fd) : FnOk P w K mg base CX0 1 f fd ["_law_thing", "_law_path"] spPart := by
 refine F.ok scPart (fun vs H Q E h => ?_) (fun cdv A outer s H vs Q E hr h => ?_)
 ·unfold spPart at h; obtain ⟨p, v, d, t, r, e, rfl, _⟩ := h; rfl
 ·unfold spPart at h
  obtain ⟨p, v, d, t, r, e, rfl, rd, ht, he, q⟩ := h
  refine ⟨_, pss_cons (ps_for PassesOwn.never rfl (pi_tup (pv 1)) (pg_name (i := 2) scPart.nd rfl (Or.inl rfl)) (pss_one (ps_set (i := 0) scPart.nd rfl (Or.inl rfl) (pe_ix ix_seq (pv 0) (pv 2) (fun _ _ => rfl))))) (pss_one (ps_ret (pv 0))), ?_⟩
  refine ⟨_, rfl, t, rfl, ⟨_, SqT.of ht⟩, ?_⟩
  refine for_tup (xs := r.map iV) (fun i σ H1 => H1 = H /\ ∃ (u : V) (e' : PyData) (v2 : Option V), σ = [some u, some (.ref t), v2] /\ Dt p H u e' /\ partAt (r.drop i) e' = some e) ⟨rfl, v, d, none, rfl, rd, he⟩ (fun i σ H1 _ ⟨z, _⟩ => by rw [z]; exact SqT.of ht) ?_ ?_
  ·rintro i x σ H1 hx ⟨rfl, u, e', v2, rfl, ru, hp⟩
   have hi : i < r.length := by have := (List.getElem?_eq_some_iff.mp hx).1; simpa using this
   obtain rfl : iV r[i] = x := by simpa [hi] using hx
   rw [List.drop_eq_getElem_cons hi] at hp
   obtain ⟨c, hc, hp⟩ := Option.bind_eq_some_iff.mp hp
   obtain ⟨a, vs, rfl, na, rs, hq⟩ := dt_seq ru (seq_of_kid hc)
   obtain ⟨y, hy, ry⟩ := rs.get hc
   exact ⟨_, rfl, _, rfl, ix_any (seq_sq hq) hy ⟨rfl, y, c, _, rfl, ry, hp⟩⟩
  ·rintro σ H1 ⟨rfl, u, e', v2, rfl, ru, hp⟩
   rw [List.length_map, List.drop_length] at hp
   cases hp
   exact ⟨_, rfl, q u ru⟩
def PathsV (H : Hp) (ws : List V) (ps : List (List Nat)) : Prop := Paired (fun y r => ∃ a, y = V.ref a /\ H a = some (.tup (r.map iV))) ws ps
theorem PathsV.keep {H H' : Hp} {ws : List V} {ps : List (List Nat)} (h : PathsV H ws ps) (s : ∀ b xs, H b = some (.tup xs) -> H' b = some (.tup xs)) : PathsV H' ws ps := Paired.imp' (fun _ _ ⟨a, e, q⟩ => ⟨a, e, s _ _ q⟩) h
theorem PathsV.app {H : Hp} : ∀ {ws us : List V} {ps qs : List (List Nat)}, PathsV H ws ps -> PathsV H us qs -> PathsV H (ws ++ us) (ps ++ qs)
 | _, _, _, _, .nil, q => q
 | _, _, _, _, .cons a b, q => .cons a (PathsV.app b q)
theorem PathsV.get {H : Hp} : ∀ {ws : List V} {ps : List (List Nat)}, PathsV H ws ps -> ∀ {i : Nat} {r : List Nat}, ps[i]? = some r -> ∃ a, ws[i]? = some (.ref a) /\ H a = some (.tup (r.map iV))
 | _, _, .nil, i, r, h => by cases h
 | _, _, .cons ⟨a, e, q⟩ b, 0, r, h => by cases h; subst e; exact ⟨a, rfl, q⟩
 | _, _, .cons _ b, i + 1, r, h => PathsV.get b (by simpa using h)
abbrev PathsQ (d : PyData) (H : Hp) (Q : VK) : Prop := ∀ (l : Addr) (ps : List (List Nat)) (ws : List V) (H' : Hp), H l = none -> Same H H' -> H' l = some (.lst ws) -> PathsV H' ws ps -> ps ≠ [] -> ps.length <= d.bulk + 1 -> (∀ r ∈ ps, ∃ e, partAt r d = some e) -> Q (.ref l) H'
@[irreducible] def spPaths (n : Nat) : Sp := fun vs H Q _ => ∃ (p : Addr) (v : V) (d : PyData), vs = [v] /\ Dt p H v d /\ d.depth <= n /\ d.bulk <= 1000 /\ PathsQ d H Q
theorem paths_sp {n : Nat} {p : Addr} {v : V} {d : PyData} {H : Hp} {Q : VK} {E : XK} (rd : Dt p H v d) (hd : d.depth <= n) (hb : d.bulk <= 1000) (q : PathsQ d H Q) : spPaths n [v] H Q E := by unfold spPaths; exact ⟨p, v, d, rfl, rd, hd, hb, q⟩
abbrev nPaths : List Str := ["_law_thing", "_law_found", "_law_k"]
theorem scPaths : FnScope nPaths ["_law_thing"] (defScope sPaths) := ⟨rfl, rfl, rfl, by decide +kernel, rfl, by decide +kernel, by decide +kernel⟩
def exprV (s : Stmt) : Expr := match s with | .Expr e _ => e | _ => .Constant .none 0 ⟨0, 0, 0, 0⟩
def thenAt (s : Stmt) (i : Nat) : Stmt := match s with | .If _ b _ _ => b.getD i (.Pass ⟨0, 0, 0, 0⟩) | _ => .Pass ⟨0, 0, 0, 0⟩
abbrev ePaths : Expr := arg0 (exprV (bodyAt (forBody (thenAt (bodyAt (defBody sPaths) 1) 0)) 0))
theorem csPaths : CompScope nPaths (defScope sPaths) ["_law_path", "_law_k"] [none, some 2] (compSc ePaths) := ⟨rfl, by decide +kernel, by decide +kernel, rfl, fv_of (by decide +kernel), by decide +kernel⟩
def spPrev : Nat -> Sp
 | 0 => fun _ _ _ _ => False
 | n + 1 => spPaths n
theorem isq_eq (d : PyData) : (isT "tuple" d || isT "list" d) = isSeq d := by cases d <;> rfl
theorem bulk_get : ∀ (ds : List PyData) (i : Nat) (k : PyData), ds[i]? = some k -> PyData.bulkAll (ds.take (i + 1)) = PyData.bulkAll (ds.take i) + k.bulk + 1
 | [], i, k, h => by cases h
 | d :: ds, 0, k, h => by cases h; simp only [List.take_succ_cons, List.take_zero, PyData.bulkAll]; omega
 | d :: ds, i + 1, k, h => by
  have := bulk_get ds i k (by simpa using h)
  simp only [List.take_succ_cons, PyData.bulkAll] at this ⊢; omega
mutual
theorem dep_bulk : ∀ d : PyData, d.depth <= d.bulk + 1
 | .none => Nat.zero_le _
 | .bool _ => Nat.zero_le _
 | .int _ => Nat.zero_le _
 | .str _ => Nat.zero_le _
 | .list ds => by have := dep_bulks ds; simp only [PyData.depth, PyData.bulk]; omega
 | .tuple ds => by have := dep_bulks ds; simp only [PyData.depth, PyData.bulk]; omega
 | .dict kvs => by have := dep_bulkKv kvs; simp only [PyData.depth, PyData.bulk]; omega
theorem dep_bulks : ∀ ds : List PyData, PyData.depthAll ds <= PyData.bulkAll ds
 | [] => Nat.zero_le _
 | d :: ds => by have := dep_bulk d; have := dep_bulks ds; simp only [PyData.depthAll, PyData.bulkAll]; omega
theorem dep_bulkKv : ∀ ds : List (PyData × PyData), PyData.depthKv ds <= PyData.bulkKv ds
 | [] => Nat.zero_le _
 | (a, b) :: ds => by have := dep_bulk a; have := dep_bulk b; have := dep_bulkKv ds; simp only [PyData.depthKv, PyData.bulkKv]; omega
end
theorem bulk_take : ∀ (ds : List PyData) (i : Nat), PyData.bulkAll (ds.take i) <= PyData.bulkAll ds
 | [], i => by rw [List.take_nil]; exact Nat.le_refl _
 | d :: ds, 0 => Nat.zero_le _
 | d :: ds, i + 1 => by have := bulk_take ds i; simp only [List.take_succ_cons, PyData.bulkAll]; omega
theorem paths_core (n : Nat) (F : Fun K "_law_paths" "_law_paths" sPaths f fd) (B : Blt mg) (B2 : Blt2 mg) (kP : keepIn K (.ref f) = true) (bP : Binds K fd ["_law_thing"] []) (mP : mg "_law_paths" = some (.ref f)) (GP : FnOk P w K mg base CX0 n f fd ["_law_thing"] (spPrev n)) : FnOk P w K mg base CX0 (n + 1) f fd ["_law_thing"] (spPaths n) := by
 refine F.ok scPaths (fun vs H Q E h => ?_) (fun cdv A outer s H vs Q E hr h => ?_)
 ·unfold spPaths at h; obtain ⟨p, v, d, rfl, _⟩ := h; rfl
 ·unfold spPaths at h
  obtain ⟨p, v, d, rfl, rd, hd, hb, q⟩ := h
  refine ⟨_, pss_cons (ps_set (i := 1) scPaths.nd rfl (Or.inl rfl) (pe_lst (pa_cons (pe_tup pa_nil) pa_nil)))
   (pss_cons (ps_if (pt_val (pe_callB call_isi2 rfl B2.isi boot_isi (pa_cons (pv 0) (pa_cons (pe_tup (pa_cons (pe_bltn (v := .ty "tuple") rfl B.tuple boot_tuple rfl) (pa_cons (pe_bltn (v := .ty "list") rfl B.list boot_list rfl) pa_nil))) pa_nil))))
    (pss_one (ps_for PassesOwn.never rfl (pi_range1 rfl B.range (pa_cons (pe_callB call_len_seq rfl B.len boot_len (pa_cons (pv 0) pa_nil)) pa_nil)) (pg_name (i := 2) scPaths.nd rfl (Or.inr rfl))
     (pss_one (ps_expr (pe_bm PySem.F.plainAttrs_list PySem.F.slot_list_extend PySem.F.type_list_extend mt_extend (pv 1) (pa_cons (pe_comp rfl csPaths (pi_list (pe_call GP hr rfl mP kP bP .nil pass0 (pa_cons (pe_ix ix_seq (pv 0) (pv 2) (fun _ _ => rfl)) pa_nil))) (fun s H fp => ⟨pg_name (i := 0) csPaths.nd rfl (Or.inl rfl), pifs_nil, pe_op op_catA (pe_tup (pa_cons (pv 1) pa_nil)) (pv 0)⟩)) pa_nil)))))) pss_nil)
   (pss_one (ps_ret (pv 1)))), ?_⟩
  refine ⟨Nat.zero_le _, fun t0 ht0 => ⟨by show 1 <= sizeLine; rw [sizeLine_eq]; decide, fun l hl => ?_⟩⟩
  have S0 := same_new (o := .tup []) ht0
  have S1 := S0.trans (same_new (o := .lst [V.ref t0]) hl)
  have hl0 : H l = none := S0.free hl
  have hl1 : upd (upd H t0 (.tup [])) l (.lst [V.ref t0]) l = some (.lst [V.ref t0]) := upd_same
  have ht1 : upd (upd H t0 (.tup [])) l (.lst [V.ref t0]) t0 = some (.tup []) := by rw [upd_ne (ne_of_none upd_same hl)]; exact upd_same
  generalize upd (upd H t0 (.tup [])) l (.lst [V.ref t0]) = H1 at S1 hl1 ht1 ⊢
  refine ⟨_, rfl, by show 2 <= sizeLine; rw [sizeLine_eq]; decide, fun t1 ht1' => ?_⟩
  have S2' := same_new (o := .tup [V.ty "tuple", V.ty "list"]) ht1'
  have S2 := S1.trans S2'
  have hl2 := S2' _ _ hl1
  have ht2 := S2' _ _ ht1
  have htt : upd H1 t1 (.tup [V.ty "tuple", V.ty "list"]) t1 = some (.tup [V.ty "tuple", V.ty "list"]) := upd_same
  generalize upd H1 t1 (.tup [V.ty "tuple", V.ty "list"]) = H2 at S2 hl2 ht2 htt ⊢
  refine ⟨p, v, d, t1, _, _, rfl, Dt.same rd S2, htt, fun K => kit_tuple K d, fun K => kit_list K d, _, rfl, ?_⟩
  rw [isq_eq]
  cases hsq : isSeq d with
  | false =>
   exact ⟨_, rfl, q l [[]] [.ref t0] H2 hl0 S2 hl2 (.cons ⟨t0, rfl, ht2⟩ .nil) (by simp) (by simp) (fun r hr => by rw [List.mem_singleton.mp hr]; exact ⟨d, rfl⟩)⟩
  | true =>
   obtain ⟨a, vs, rfl, na, rs, hq⟩ := dt_seq rd hsq
   have el := rs.length
   have bk : d.bulk = PyData.bulkAll (kids d) := (kids_bulk hsq []).2.1
   have hkl := bulk_len (kids d)
   obtain ⟨m, rfl⟩ : ∃ m, n = m + 1 := ⟨n - 1, by have := (kids_bulk hsq []).2.2.2.1; omega⟩
   have nla : ∀ b o, H b = some o -> b ≠ l := fun b o e z => by rw [z, hl0] at e; cases e
   have keepSq : ∀ H3 : Hp, (∀ b o, H b = some o -> H3 b = some o) -> SqL K H3 a vs \/ SqT K H3 a vs := fun H3 S => hq.elim (fun z => .inl (SqL.of (S _ _ z.1))) fun z => .inr (SqT.of (S _ _ z.1))
   refine ⟨_, rfl, a, _, rfl, keepSq H2 S2, _, rfl, by omega, by omega, ?_⟩
   refine for_range (fun i σ H3 => ∃ (ps : List (List Nat)) (ws : List V) (v2 : Option V), σ = [some (.ref a), some (.ref l), v2] /\ (∀ b o, H b = some o -> H3 b = some o) /\ H3 l = some (.lst ws) /\ PathsV H3 ws ps /\ ps ≠ [] /\ ps.length <= PyData.bulkAll ((kids d).take i) + 1 /\ ∀ r ∈ ps, ∃ e, partAt r d = some e)
    ⟨[[]], [.ref t0], none, rfl, S2, hl2, .cons ⟨t0, rfl, ht2⟩ .nil, by simp, by simp, fun r hr => by rw [List.mem_singleton.mp hr]; exact ⟨d, rfl⟩⟩ ?_ ?_
   ·rintro i σ H3 hi ⟨ps, ws, v2, rfl, k3, hl3, pv3, ne3, len3, ok3⟩
    have hiv : i < vs.length := by simpa using hi
    have hi' : i < (kids d).length := by omega
    have hc : (kids d)[i]? = some (kids d)[i] := List.getElem?_eq_getElem hi'
    generalize (kids d)[i] = k at hc
    obtain ⟨y, hy, ry⟩ := rs.get hc
    have hkb := kid_bulk (List.mem_of_getElem? hc)
    have hkd := kid_dep (List.mem_of_getElem? hc)
    have hbt := bulk_get (kids d) i k hc
    have hbl : PyData.bulkAll ((kids d).take (i + 1)) <= PyData.bulkAll (kids d) := bulk_take _ _
    rw [Int.zero_add]
    refine ⟨_, rfl, .inl ⟨rfl, _, SqL.of hl3⟩, _, rfl, _, rfl, ix_any (keepSq H3 k3) hy ?_⟩
    refine paths_sp (n := m) (Dt.keep (fun b o e _ => k3 b o e) ry) (by omega) (by omega) fun l2 ps2 ws2 H4 hl2n S4 hl4 pv4 ne4 len4 ok4 => ?_
    have hl4' := S4 _ _ hl3
    have nll : l2 ≠ l := fun z => by rw [z, hl3] at hl2n; cases hl2n
    refine ⟨l2, rfl, ⟨_, SqL.of hl4⟩, fun c hcn => ?_⟩
    have nlc : l ≠ c := fun z => by rw [<- z, hl4'] at hcn; cases hcn
    have ep2 : ws2.length = ps2.length := Paired.length pv4
    refine comp_list (xs := ws2) (fun j zs τ H5 => ∃ t0 : Option V, τ = [t0, some (.int (i : Int))] /\ H5 c = some (.lst zs) /\ (∀ b o, H4 b = some o -> H5 b = some o) /\ PathsV H5 zs ((ps2.take j).map (i :: ·)))
     ⟨none, rfl, upd_same, same_new hcn, .nil⟩ (fun j zs τ H5 ⟨_, _, z1, z2, _⟩ => ⟨z1, SqL.of (z2 _ _ hl4)⟩) ?_ ?_
    ·rintro j x zs τ H5 hx ⟨tq0, rfl, hz, k5, pz⟩
     have hj : j < ws2.length := (List.getElem?_eq_some_iff.mp hx).1
     have hjp : j < ps2.length := by omega
     have hr : ps2[j]? = some ps2[j] := List.getElem?_eq_getElem hjp
     generalize ps2[j] = r2 at hr
     obtain ⟨a2, ha2, hta2⟩ := PathsV.get pv4 hr
     rw [hx] at ha2; cases ha2
     have hrl := part_len (ok4 r2 (List.mem_of_getElem? hr)).choose_spec
     have hdb := dep_bulk k
     have zl : zs.length = j := by have := Paired.length pz; rw [List.length_map, List.length_take] at this; omega
     refine ⟨_, rfl, by show 1 <= sizeLine; rw [sizeLine_eq]; decide, fun tq htq => ⟨_, rfl, tq, a2, _, r2.map iV, rfl, rfl, upd_same, same_new htq _ _ (k5 _ _ hta2), ?_, fun pp H6 S6 h6 => ⟨?_, ?_, cw_next hj ⟨_, rfl, upd_same, fun b o e => ?_, ?_⟩⟩⟩⟩
     ·rw [List.length_map, sizeLine_eq]; show 1 + _ <= _; omega
     ·exact S6 _ _ (same_new htq _ _ hz)
     ·rw [zl, sizeLine_eq]; omega
     ·rw [upd_ne (fun z => by rw [z, hcn] at e; cases e)]; exact S6 _ _ (same_new htq _ _ (k5 _ _ e))
     ·rw [List.take_succ, hr, List.map_append]
      have kp : ∀ b xs, H5 b = some (.tup xs) -> upd H6 c (.lst (zs ++ [.ref pp])) b = some (.tup xs) := fun b xs e => by
       rw [upd_ne (ne_of e hz (by intro z; cases z))]; exact S6 _ _ (same_new htq _ _ e)
      refine (pz.keep kp).app (.cons ⟨pp, rfl, ?_⟩ .nil)
      have npc : pp ≠ c := fun z => by
       have := S6 _ _ (same_new htq _ _ hz)
       rw [<- z, h6] at this; cases this
      rw [upd_ne npc]; exact h6
    ·rintro zs τ H5 ⟨tq0, rfl, hz, k5, pz⟩
     rw [ep2, List.take_length] at pz
     have zl : zs.length = ps2.length := by have := Paired.length pz; rw [List.length_map] at this; exact this
     have wl : ws.length = ps.length := Paired.length pv3
     refine ⟨l, c, ws, zs, rfl, rfl, k5 _ _ hl4', hz, by rw [sizeLine_eq]; omega, ?_⟩
     have kp : ∀ b xs, H5 b = some (.tup xs) -> upd H5 l (.lst (ws ++ zs)) b = some (.tup xs) := fun b xs e => by rw [upd_ne (ne_of e (k5 _ _ hl4') (by intro z; cases z))]; exact e
     refine ⟨ps ++ ps2.map (i :: ·), ws ++ zs, _, rfl, fun b o e => ?_, upd_same, ((pv3.keep fun b xs e => k5 _ _ (S4 _ _ e)).keep kp).app (pz.keep kp), by simp [ne3], ?_, fun r hr => ?_⟩
     ·rw [upd_ne (nla b o e)]; exact k5 _ _ (S4 _ _ (k3 _ _ e))
     ·rw [List.length_append, List.length_map, hbt]; omega
     ·rcases List.mem_append.mp hr with z | z
      ·exact ok3 r z
      ·obtain ⟨r2, hr2, rfl⟩ := List.mem_map.mp z
       obtain ⟨e, he⟩ := ok4 r2 hr2
       exact ⟨e, by show (kids d)[i]?.bind (partAt r2) = some e; rw [hc]; exact he⟩
   ·rintro σ H3 ⟨ps, ws, v2, rfl, k3, hl3, pv3, ne3, len3, ok3⟩
    have ee : ((vs.length : Int)).toNat = (kids d).length := by rw [Int.toNat_natCast, el]
    exact ⟨_, rfl, q l ps ws H3 hl0 k3 hl3 pv3 ne3 (by rw [ee, List.take_length] at len3; omega) ok3⟩
theorem ok_paths (F : Fun K "_law_paths" "_law_paths" sPaths f fd) (B : Blt mg) (B2 : Blt2 mg) (kP : keepIn K (.ref f) = true) (bP : Binds K fd ["_law_thing"] []) (mP : mg "_law_paths" = some (.ref f)) : ∀ n, FnOk P w K mg base CX0 (n + 1) f fd ["_law_thing"] (spPaths n)
 | 0 => paths_core 0 F B B2 kP bP mP ⟨fun _ _ _ _ z => False.elim z, fun _ _ _ _ _ _ _ _ _ _ _ _ _ z => False.elim z⟩
 | n + 1 => paths_core (n + 1) F B B2 kP bP mP (ok_paths F B B2 kP bP mP n)
end
end K31
namespace K31
open PySem L2 PySem.W HT
mutual
theorem dt_two {p q : Addr} {H H' : Hp} : ∀ {v : V} {d : PyData}, Dt p H v d -> Dt q H v d -> (∀ b o, H b = some o -> b ≠ q -> H' b = some o) -> Dt p H' v d
 | _, _, .non, _, _ => .non
 | _, _, .bl b, _, _ => .bl b
 | _, _, .int i, _, _ => .int i
 | _, _, .str x, _, _ => .str x
 | _, _, .lst n e rs, z, k => by
  cases z with
  | lst n' e' rs' => rw [e] at e'; cases e'; exact .lst n (k _ _ e n') (dts_two rs rs' k)
 | _, _, .tup n e rs, z, k => by
  cases z with
  | tup n' e' rs' => rw [e] at e'; cases e'; exact .tup n (k _ _ e n') (dts_two rs rs' k)
 | _, _, .dct n e, z, k => by
  cases z with
  | dct n' e' => exact .dct n (k _ _ e n')
theorem dts_two {p q : Addr} {H H' : Hp} : ∀ {vs : List V} {ds : List PyData}, Dts p H vs ds -> Dts q H vs ds -> (∀ b o, H b = some o -> b ≠ q -> H' b = some o) -> Dts p H' vs ds
 | _, _, .nil, _, _ => .nil
 | _, _, .cons r rs, z, k => by
  cases z with
  | cons z1 z2 => exact .cons (dt_two r z1 k) (dts_two rs z2 k)
end
theorem dts_set {p : Addr} {H : Hp} {v : V} {d : PyData} (r : Dt p H v d) : ∀ {vs : List V} {ds : List PyData} (i : Nat), Dts p H vs ds -> Dts p H (vs.set i v) (ds.set i d)
 | _, _, _, .nil => .nil
 | _, _, 0, .cons _ b => .cons r b
 | _, _, i + 1, .cons a b => .cons a (dts_set r i b)
mutual
theorem Dt.avoid {p q : Addr} {H : Hp} (hq : H q = none) : ∀ {v : V} {d : PyData}, Dt p H v d -> Dt q H v d
 | _, _, .non => .non
 | _, _, .bl b => .bl b
 | _, _, .int i => .int i
 | _, _, .str x => .str x
 | _, _, .lst n e rs => .lst (ne_of_none e hq) e (Dts.avoid hq rs)
 | _, _, .tup n e rs => .tup (ne_of_none e hq) e (Dts.avoid hq rs)
 | _, _, .dct n e => .dct (ne_of_none e hq) e
theorem Dts.avoid {p q : Addr} {H : Hp} (hq : H q = none) : ∀ {vs : List V} {ds : List PyData}, Dts p H vs ds -> Dts q H vs ds
 | _, _, .nil => .nil
 | _, _, .cons r rs => .cons (Dt.avoid hq r) (Dts.avoid hq rs)
end
section
variable {P : Program} {w : World} {K : Frag} {mg : Str -> Option Value} {base : Heap} {f : Addr} {fd : FuncData}
abbrev WithQ (v x : V) (d e : PyData) (r : List Nat) (H : Hp) (Q : VK) : Prop := ∀ (u : V) (H' : Hp), Same H H' -> (∀ p, H p ≠ none -> Dt p H v d -> Dt p H x e -> Dt p H' u (putAt r d e)) -> Q u H'
@[irreducible] def spWith (n : Nat) : Sp := fun vs H Q _ => ∃ (p : Addr) (v : V) (d : PyData) (t : Addr) (r : List Nat) (x : V) (e k : PyData), vs = [v, .ref t, x] /\ Dt p H v d /\ H t = some (.tup (r.map iV)) /\ Dt p H x e /\ partAt r d = some k /\ r.length <= n /\ d.bulk <= 1000 /\ WithQ v x d e r H Q
theorem with_sp {n : Nat} {p : Addr} {v : V} {d : PyData} {t : Addr} {r : List Nat} {x : V} {e k : PyData} {H : Hp} {Q : VK} {E : XK} (rd : Dt p H v d) (ht : H t = some (.tup (r.map iV))) (rx : Dt p H x e) (h : partAt r d = some k) (hn : r.length <= n) (hb : d.bulk <= 1000) (q : WithQ v x d e r H Q) : spWith n [v, .ref t, x] H Q E := by unfold spWith; exact ⟨p, v, d, t, r, x, e, k, rfl, rd, ht, rx, h, hn, hb, q⟩
abbrev nWith : List Str := ["_law_thing", "_law_path", "_law_part_here", "_law_turned_here"]
theorem scWith : FnScope nWith ["_law_thing", "_law_path", "_law_part_here"] (defScope sWith) := ⟨rfl, rfl, rfl, by decide +kernel, rfl, by decide +kernel, by decide +kernel⟩
def spPrevW : Nat -> Sp
 | 0 => fun _ _ _ _ => False
 | n + 1 => spWith n
theorem pot_same {p : Addr} {H H' : Hp} (h : PotOk p H) (S : Same H H') : PotOk p H' := by
 obtain ⟨x, y, e, r⟩ := h
 exact ⟨x, y, S _ _ e, r⟩
theorem with_core (n : Nat) (F : Fun K "_law_with" "_law_with" sWith f fd) (B : Blt mg) (B2 : Blt2 mg) (kP : keepIn K (.ref f) = true) (bP : Binds K fd ["_law_thing", "_law_path", "_law_part_here"] []) (mP : mg "_law_with" = some (.ref f)) (GP : FnOk P w K mg base CX0 n f fd ["_law_thing", "_law_path", "_law_part_here"] (spPrevW n)) :
  FnOk P w K mg base CX0 (n + 1) f fd ["_law_thing", "_law_path", "_law_part_here"] (spWith n) := by
 refine F.ok scWith (fun vs H Q E h => ?_) (fun cdv A outer s H vs Q E hr h => ?_)
 ·unfold spWith at h; obtain ⟨p, v, d, t, r, x, e, k, rfl, _⟩ := h; rfl
 ·unfold spWith at h
  obtain ⟨p, v, d, t, r, x, e, k, rfl, rd, ht, rx, hp, hn, hb, q⟩ := h
  have hu := hr.units
  refine ⟨_, pss_cons (ps_if (pt_cmpR (op_eqT0 hu) (pv 1) (pe_tup pa_nil) (nomark _)) (pss_one (ps_ret (pv 2))) pss_nil)
   (pss_cons (ps_set (i := 3) scWith.nd rfl (Or.inl rfl) (pe_callTy call_list_of rfl B.list boot_list (pa_cons (pv 0) pa_nil)))
   (pss_cons (ps_asg (pe_call GP hr rfl mP kP bP .nil pass0 (pa_cons (pe_ix ix_seq (pv 0) (pe_ix ix_tup (pv 1) pe_int (fun _ _ => rfl)) (fun _ _ => rfl)) (pa_cons (pe_slice sl_tupA (pv 1) (po_some pe_int) po_none) (pa_cons (pv 2) pa_nil)))) (pg_sub (pv 3) (pe_ix ix_tup (pv 1) pe_int (fun _ _ => rfl)) set_list))
   (pss_cons (ps_if (pt_val (pe_callB call_isi rfl B2.isi boot_isi (pa_cons (pv 0) (pa_cons (pe_bltn (v := .ty "tuple") rfl B.tuple boot_tuple rfl) pa_nil)))) (pss_one (ps_ret (pe_callTy call_tuple_of rfl B.tuple boot_tuple (pa_cons (pv 3) pa_nil)))) pss_nil)
   (pss_one (ps_ret (pv 3)))))), ?_⟩
  refine ⟨_, rfl, Nat.zero_le _, fun e0 he0 => ?_⟩
  have S0 := same_new (o := .tup []) he0
  have he : upd H e0 (.tup []) e0 = some (.tup []) := upd_same
  generalize upd H e0 (.tup []) = H0 at S0 he ⊢
  refine ⟨t, e0, _, rfl, rfl, S0 _ _ ht, he, _, rfl, ?_⟩
  cases r with
  | nil => exact ⟨_, rfl, q x H0 S0 fun _ _ _ z => Dt.same z S0⟩
  | cons i r =>
   obtain ⟨c, hc, hp⟩ := Option.bind_eq_some_iff.mp hp
   obtain ⟨m, rfl⟩ : ∃ m, n = m + 1 := ⟨n - 1, by rw [List.length_cons] at hn; omega⟩
   have hsq := seq_of_kid hc
   obtain ⟨a, vs, rfl, na, rs, hq⟩ := dt_seq rd hsq
   have el := rs.length
   have bk : d.bulk = PyData.bulkAll (kids d) := (kids_bulk hsq []).2.1
   have hkl := bulk_len (kids d)
   have hkb := kid_bulk (List.mem_of_getElem? hc)
   have keepSq : ∀ H3 : Hp, Same H H3 -> SqL K H3 a vs \/ SqT K H3 a vs := fun H3 S => hq.elim (fun z => .inl (SqL.of (S _ _ z.1))) fun z => .inr (SqT.of (S _ _ z.1))
   have hil : i < vs.length := by have := (List.getElem?_eq_some_iff.mp hc).1; omega
   refine ⟨_, rfl, a, vs, rfl, keepSq H0 S0, fun tl htl => ?_⟩
   have S1 := S0.trans (same_new (o := .lst vs) htl)
   have htl0 : H tl = none := S0.free htl
   have htl1 : upd H0 tl (.lst vs) tl = some (.lst vs) := upd_same
   generalize upd H0 tl (.lst vs) = H1 at S1 htl1 ⊢
   obtain ⟨y, hy, ry⟩ := rs.get hc
   refine ⟨_, rfl, _, rfl, t, _, 0, _, rfl, rfl, SqT.of (S1 _ _ ht), at_0, ix_any (keepSq H1 S1) hy ?_⟩
   refine ⟨_, rfl, _, rfl, t, _, rfl, S1 _ _ ht, fun t2 H2 S2 ht2 => ⟨_, rfl, ?_⟩⟩
   have S3 := S1.trans S2
   have ht2' : H2 t2 = some (.tup (r.map iV)) := by rw [ht2]; rw [show cutV ((i :: r).map iV) (some 1) none = _ from cut_from ((i :: r).map iV) 1]; rfl
   refine with_sp (n := m) (Dt.same ry S3) ht2' (Dt.same rx S3) hp (by rw [List.length_cons] at hn; omega) (by omega) fun u H4 S4 ru => ?_
   have S5 := S3.trans S4
   have htl4 := S4 _ _ (S2 _ _ htl1)
   refine ⟨_, rfl, _, rfl, t, _, 0, _, rfl, rfl, SqT.of (S5 _ _ ht), at_0, tl, vs, _, i, rfl, rfl, htl4, ?_, ?_⟩
   ·unfold ixN; rw [if_pos (by omega), if_pos (by omega)]; rfl
   have nlt : ∀ b o, H b = some o -> b ≠ tl := fun b o e z => by rw [z, htl0] at e; cases e
   have S6 : Same H (upd H4 tl (.lst (vs.set i u))) := fun b o e => by rw [upd_ne (nlt b o e)]; exact S5 _ _ e
   have htl6 : upd H4 tl (.lst (vs.set i u)) tl = some (.lst (vs.set i u)) := upd_same
   have rs6 : ∀ p', H p' ≠ none -> Dt p' H (.ref a) d -> Dt p' H x e -> Dts p' (upd H4 tl (.lst (vs.set i u))) (vs.set i u) ((kids d).set i (putAt r c e)) := fun p' hp' z1 z2 => by
    obtain ⟨a', vs', ea, _, rs', hq'⟩ := dt_seq z1 hsq
    cases ea
    have ev : vs' = vs := by
     rcases hq with ⟨g1, g2⟩ | ⟨g1, g2⟩ <;> rcases hq' with ⟨g3, _⟩ | ⟨g3, _⟩ <;> rw [g1] at g3 <;> cases g3 <;> rfl
    subst ev
    obtain ⟨y', hy', ry'⟩ := rs'.get hc
    rw [hy] at hy'; cases hy'
    have hp3 : H2 p' ≠ none := by
     cases hh : H p' with
     | none => exact absurd hh hp'
     | some o => rw [S3 _ _ hh]; simp
    have d1 : Dt p' H4 u (putAt r c e) := ru p' hp3 (Dt.same ry' S3) (Dt.same z2 S3)
    have d2 : Dt tl H4 u (putAt r c e) := ru tl (by rw [S2 _ _ htl1]; simp) (Dt.same (Dt.avoid htl0 ry) S3) (Dt.same (Dt.avoid htl0 rx) S3)
    exact dts_set (dt_two d1 d2 fun b o e n => by rw [upd_ne n]; exact e) i (Dts.same rs' S6)
   generalize upd H4 tl (.lst (vs.set i u)) = H6 at S6 htl6 rs6 ⊢
   have ep : putAt (i :: r) d e = ofKids d ((kids d).set i (putAt r c e)) := by
    show ofKids d ((kids d).set i (putAt r ((kids d).getD i .none) e)) = _
    rw [show (kids d).getD i .none = c by rw [List.getD_eq_getElem?_getD, hc]; rfl]
   have qq : ∀ u' H', Same H H' -> (∀ p, H p ≠ none -> Dt p H (.ref a) d -> Dt p H x e -> Dt p H' u' (ofKids d ((kids d).set i (putAt r c e)))) -> Q u' H' := fun u' H' S z => q u' H' S (by rw [ep]; exact z)
   refine ⟨_, rfl, isi_sp kit_tuple (Dt.same rd S6) ⟨_, rfl, ?_⟩⟩
   rcases hq with ⟨_, ed⟩ | ⟨_, ed⟩
   ·rw [show isT "tuple" d = false by rw [ed]; rfl]
    rw [show ofKids d ((kids d).set i (putAt r c e)) = .list ((kids d).set i (putAt r c e)) by rw [ed]; rfl] at qq
    exact ⟨_, rfl, qq (.ref tl) H6 S6 fun p' hp' z1 z2 => .lst (fun z => hp' (by rw [<- z]; exact htl0)) htl6 (rs6 p' hp' z1 z2)⟩
   ·rw [show isT "tuple" d = true by rw [ed]; rfl]
    rw [show ofKids d ((kids d).set i (putAt r c e)) = .tuple ((kids d).set i (putAt r c e)) by rw [ed]; rfl] at qq
    refine ⟨_, rfl, tl, _, rfl, .inl ⟨SqL.of htl6, fun pp hpp => ?_⟩⟩
    have S7 := same_new (o := .tup (vs.set i u)) hpp
    exact qq (.ref pp) _ (S6.trans S7) fun p' hp' z1 z2 => .tup (fun z => hp' (by rw [<- z]; exact S6.free hpp)) upd_same (Dts.same (rs6 p' hp' z1 z2) S7)
theorem ok_with (F : Fun K "_law_with" "_law_with" sWith f fd) (B : Blt mg) (B2 : Blt2 mg) (kP : keepIn K (.ref f) = true) (bP : Binds K fd ["_law_thing", "_law_path", "_law_part_here"] []) (mP : mg "_law_with" = some (.ref f)) : ∀ n, FnOk P w K mg base CX0 (n + 1) f fd ["_law_thing", "_law_path", "_law_part_here"] (spWith n)
 | 0 => with_core 0 F B B2 kP bP mP ⟨fun _ _ _ _ z => False.elim z, fun _ _ _ _ _ _ _ _ _ _ _ _ _ z => False.elim z⟩
 | n + 1 => with_core (n + 1) F B B2 kP bP mP (ok_with F B B2 kP bP mP n)
end
end K31
namespace K31
open PySem L2 PySem.W HT
theorem str_lf {x : Str} (h : (x.cps.toList.all fun c => decide (c < 16 ^ 8)) = true) : lf (.str x) = true := by simp only [lf]; exact h
theorem gd_int {n : Int} {a b : Nat} (h : n.natAbs <= 10 ^ 18) : Gd a b (.int n) := ⟨by simp only [lf, decide_eq_true_eq]; exact h, Nat.zero_le _, Nat.zero_le _⟩
theorem gd_bool {x : Bool} {a b : Nat} : Gd a b (.bool x) := ⟨by simp only [lf], Nat.zero_le _, Nat.zero_le _⟩
theorem gd_none {a b : Nat} : Gd a b .none := ⟨by simp only [lf], Nat.zero_le _, Nat.zero_le _⟩
theorem gd_str {x : Str} {a b : Nat} (h : (x.cps.toList.all fun c => decide (c < 16 ^ 8)) = true) (hl : x.length <= a) : Gd a b (.str x) := ⟨str_lf h, hl, Nat.zero_le _⟩
section
variable {X : Cx} {es : List Expr} {t : TA} {te : TE}
theorem ps_ifRet {c e : Expr} {pos p2} {tc : TT} (hc : PT X c tc) (he : PE X e te) : PS X (.If c [.Return (some e) p2] [] pos) (tIfS tc (tRet te) tNext) := ps_if hc (pss_one (ps_ret he)) pss_nil
theorem pss_ret {e : Expr} {p2} (he : PE X e te) : PSs X [.Return (some e) p2] (tRet te) := pss_one (ps_ret he)
theorem pa_I {i j pos} (hr : PA X es t) : PA X (.Constant (.int i) j pos :: es) (tCons (tC (.int i)) t) := pa_cons pe_int hr
theorem pa_S {x j pos} (hr : PA X es t) : PA X (.Constant (.str x) j pos :: es) (tCons (tC (.str x)) t) := pa_cons pe_str hr
theorem pa_NI {i j pos p2} (hr : PA X es t) : PA X (.UnaryOp .USub (.Constant (.int i) j pos) p2 :: es) (tCons (tUn (rU fun i => .int (-i)) (tC (.int i))) t) := pa_cons (pe_un un_neg pe_int) hr
theorem pa_T {fs x1 pos} {t1 : TA} (h : PA X fs t1) (hr : PA X es t) : PA X (.Tuple fs x1 pos :: es) (tCons (tTup t1) t) := pa_cons (pe_tup h) hr
theorem pa_L {fs pos} {t1 : TA} (h : PA X fs t1) (hr : PA X es t) : PA X (.List fs pos :: es) (tCons (tLst t1) t) := pa_cons (pe_lst h) hr
theorem pa_B {b j pos} (hr : PA X es t) : PA X (.Constant (.bool b) j pos :: es) (tCons (tC (.bl b)) t) := pa_cons pe_bl hr
theorem pa_N {j pos} (hr : PA X es t) : PA X (.Constant .none j pos :: es) (tCons (tC .non) t) := pa_cons pe_non hr
theorem pa_D {pos} (hr : PA X es t) : PA X (.Dict [] [] pos :: es) (tCons tDNewK t) := pa_cons pe_dnewK hr
end
section
variable {P : Program} {w : World} {K : Frag} {mg : Str -> Option Value} {base : Heap} {f : Addr} {fd : FuncData}
abbrev OddQ (p : Addr) (n m : Nat) (H : Hp) (Q : VK) : Prop := ∀ (u : V) (e : PyData) (H' : Hp), PotAt p H H' -> (∀ q, H q ≠ none -> Dt q H' u e) -> Gd n m e -> Q u H'
theorem pot_has {p q : Addr} {H H' : Hp} (a : PotAt p H H') (h : H q ≠ none) : H' q ≠ none := fun z => h (a.free z)
@[irreducible] def spOdd : Sp := fun vs H Q _ => ∃ p : Addr, vs = [.ref p] /\ PotOk p H /\ OddQ p 9 1 H Q
theorem odd_sp {p : Addr} {H : Hp} {Q : VK} {E : XK} (h : PotOk p H) (q : OddQ p 9 1 H Q) : spOdd [.ref p] H Q E := by unfold spOdd; exact ⟨p, rfl, h, q⟩
theorem scOdd : FnScope ["_law_pot_here", "_law_way"] ["_law_pot_here"] (defScope sOdd) := ⟨rfl, rfl, rfl, by decide +kernel, rfl, by decide +kernel, by decide +kernel⟩
theorem pick {c : Addr} {H0 : Hp} {xs : List V} {n m j : Nat} {H : Hp} {Q : VK} (hc : H c = some (.lst xs)) (hj : j < xs.length) (all : ∀ x ∈ xs, ∃ e, (∀ q, H0 q ≠ none -> Dt q H x e) /\ Gd n m e) (q : ∀ u e, (∀ q, H0 q ≠ none -> Dt q H u e) -> Gd n m e -> Q u H) : rIxL K (.ref c) (.int (j : Int)) H Q := by
 obtain ⟨e, r, g⟩ := all xs[j] (List.getElem_mem hj)
 exact ⟨c, xs, _, xs[j], rfl, rfl, SqL.of hc, atI_nat (List.getElem?_eq_getElem hj), q _ e r g⟩
theorem sub_nat {d : Int} {k m : Nat} (h : (k : Int) <= d) (h2 : d < m) : ∃ j : Nat, d - (k : Int) = (j : Int) /\ j < m - k := ⟨(d - k).toNat, by omega, by omega⟩
theorem ok_odd {fD : Addr} {dD : FuncData} (F : Fun K "_law_odd" "_law_odd" sOdd f fd)
  (GD : FnOk P w K mg base CX0 1 fD dD ["_law_pot_here", "_law_many"] spDigit) (kD : keepIn K (.ref fD) = true) (bD : Binds K dD ["_law_pot_here", "_law_many"] []) (mD : mg "_law_digit" = some (.ref fD)) : FnOk P w K mg base CX0 2 f fd ["_law_pot_here"] spOdd := by
 refine F.ok scOdd (fun vs H Q E h => ?_) (fun cdv A outer s H vs Q E hr h => ?_)
 ·unfold spOdd at h; obtain ⟨p, rfl, _⟩ := h; rfl
 ·unfold spOdd at h
  obtain ⟨p, rfl, pk, q⟩ := h
  have hr1 : Room 1 _ := hr
  refine ⟨_, pss_cons (ps_set (i := 1) scOdd.nd rfl (Or.inl rfl) (pe_call GD hr1 rfl mD kD bD .nil pass0 (pa_cons (pv 0) (pa_I pa_nil))))
   (pss_cons (ps_ifRet (pt_cmpR op_lt (pv 1) pe_int (nomark _)) (pe_ix ix_list (pe_lst (pa_I (pa_I (pa_NI (pa_I (pa_I (pa_NI pa_nil))))))) (pv 1) (fun _ _ => rfl)))
   (pss_cons (ps_ifRet (pt_cmpR op_lt (pv 1) pe_int (nomark _)) (pe_ix ix_list (pe_lst (pa_S (pa_S (pa_S (pa_S (pa_S (pa_S (pa_S (pa_S pa_nil))))))))) (pe_op op_sub (pv 1) pe_int) (fun _ _ => rfl)))
   (pss_cons (ps_ifRet (pt_cmpR op_lt (pv 1) pe_int (nomark _)) (pe_ix ix_list (pe_lst (pa_T (pa_S pa_nil) (pa_T (pa_S (pa_I pa_nil)) (pa_T (pa_S (pa_I pa_nil)) (pa_T (pa_S (pa_S pa_nil)) pa_nil))))) (pe_op op_sub (pv 1) pe_int) (fun _ _ => rfl)))
   (pss_cons (ps_ifRet (pt_cmpR op_lt (pv 1) pe_int (nomark _)) (pe_ix ix_list (pe_lst (pa_N (pa_B (pa_B pa_nil)))) (pe_op op_sub (pv 1) pe_int) (fun _ _ => rfl)))
   (pss_ret (pe_ix ix_list (pe_lst (pa_L pa_nil (pa_T pa_nil (pa_D pa_nil)))) (pe_op op_sub (pv 1) pe_int) (fun _ _ => rfl))))))), ?_⟩
  refine ⟨_, rfl, digit_sp (p := p) (m := 24) pk (by decide) (by decide) fun wy H1 a0 a1 p1 => ?_⟩
  have npc : ∀ {c q : Addr} {H2 : Hp}, PotAt p H H2 -> H2 c = none -> H q ≠ none -> c ≠ q := fun z hc hq e => hq (by rw [<- e]; exact z.free hc)
  refine ⟨_, rfl, _, _, rfl, rfl, _, rfl, ?_⟩
  refine ite2 (fun h0 => ?_) (fun h0 => ?_)
  ·have h6 : wy < 6 := of_decide_eq_true h0
   obtain ⟨j, rfl⟩ := Int.eq_ofNat_of_zero_le a0
   refine ⟨_, rfl, _, rfl, by show 6 <= sizeLine; rw [sizeLine_eq]; decide, fun c hc => ?_⟩
   refine ⟨_, rfl, pick (H0 := H) (n := 9) (m := 1) upd_same (show j < 6 by omega) (fun x hx => ?_) fun u e r g => q u e _ (p1.new hc) r g⟩
   simp only [List.mem_cons, List.not_mem_nil, or_false] at hx
   rcases hx with rfl | rfl | rfl | rfl | rfl | rfl <;> exact ⟨_, fun _ _ => .int _, gd_int (by decide)⟩
  have h6 : ¬ wy < 6 := fun z => h0 (decide_eq_true z)
  refine ⟨_, rfl, _, _, rfl, rfl, _, rfl, ?_⟩
  refine ite2 (fun h1 => ?_) (fun h1 => ?_)
  ·have h14 : wy < 14 := of_decide_eq_true h1
   obtain ⟨j, ej, hj⟩ := sub_nat (d := wy) (k := 6) (m := 14) (by omega) (by omega)
   refine ⟨by show 8 <= sizeLine; rw [sizeLine_eq]; decide, fun c hc => ?_⟩
   refine ⟨_, rfl, _, _, rfl, rfl, ?_⟩
   show rIxL _ (.ref c) (.int (wy - 6)) _ _
   rw [show wy - 6 = (j : Int) from ej]
   refine pick (H0 := H) (n := 9) (m := 1) upd_same (show j < 8 by omega) (fun x hx => ?_) fun u e r g => q u e _ (p1.new hc) r g
   simp only [List.mem_cons, List.not_mem_nil, or_false] at hx
   rcases hx with rfl | rfl | rfl | rfl | rfl | rfl | rfl | rfl <;> exact ⟨_, fun _ _ => .str _, gd_str (by decide +kernel) (by decide +kernel)⟩
  have h14 : ¬ wy < 14 := fun z => h1 (decide_eq_true z)
  refine ⟨_, rfl, _, _, rfl, rfl, _, rfl, ?_⟩
  refine ite2 (fun h2 => ?_) (fun h2 => ?_)
  ·have h18 : wy < 18 := of_decide_eq_true h2
   obtain ⟨j, ej, hj⟩ := sub_nat (d := wy) (k := 14) (m := 18) (by omega) (by omega)
   refine ⟨by show 1 <= sizeLine; rw [sizeLine_eq]; decide, fun t1 ht1 => ⟨by show 2 <= sizeLine; rw [sizeLine_eq]; decide, fun t2 ht2 => ⟨by show 2 <= sizeLine; rw [sizeLine_eq]; decide, fun t3 ht3 => ⟨by show 2 <= sizeLine; rw [sizeLine_eq]; decide, fun t4 ht4 => ⟨by show 4 <= sizeLine; rw [sizeLine_eq]; decide, fun c hc => ?_⟩⟩⟩⟩⟩
   refine ⟨_, rfl, _, _, rfl, rfl, ?_⟩
   show rIxL _ (.ref c) (.int (wy - 14)) _ _
   rw [show wy - 14 = (j : Int) from ej]
   have g1 := p1.new (o := .tup [V.str "onward"]) ht1
   have g2 := g1.new (o := .tup [V.str "add", V.int 1]) ht2
   have g3 := g2.new (o := .tup [V.str "times", V.int 10]) ht3
   have g4 := g3.new (o := .tup [V.str "ask", V.str "a"]) ht4
   have k2 := same_new (o := .tup [V.str "add", V.int 1]) ht2
   have k3 := same_new (o := .tup [V.str "times", V.int 10]) ht3
   have k4 := same_new (o := .tup [V.str "ask", V.str "a"]) ht4
   have k5 := same_new (o := .lst [V.ref t1, V.ref t2, V.ref t3, V.ref t4]) hc
   refine pick (H0 := H) (n := 9) (m := 1) upd_same (show j < 4 by omega) (fun x hx => ?_) fun u e r g => q u e _ (g4.new hc) r g
   simp only [List.mem_cons, List.not_mem_nil, or_false] at hx
   rcases hx with rfl | rfl | rfl | rfl
   ·exact ⟨.tuple [.str "onward"], fun _ hq => .tup (npc p1 ht1 hq) (k5 _ _ (k4 _ _ (k3 _ _ (k2 _ _ upd_same)))) (.cons (.str _) .nil), by decide +kernel, by decide +kernel, by decide +kernel⟩
   ·exact ⟨.tuple [.str "add", .int 1], fun _ hq => .tup (npc g1 ht2 hq) (k5 _ _ (k4 _ _ (k3 _ _ upd_same))) (.cons (.str _) (.cons (.int _) .nil)), by decide +kernel, by decide +kernel, by decide +kernel⟩
   ·exact ⟨.tuple [.str "times", .int 10], fun _ hq => .tup (npc g2 ht3 hq) (k5 _ _ (k4 _ _ upd_same)) (.cons (.str _) (.cons (.int _) .nil)), by decide +kernel, by decide +kernel, by decide +kernel⟩
   ·exact ⟨.tuple [.str "ask", .str "a"], fun _ hq => .tup (npc g3 ht4 hq) (k5 _ _ upd_same) (.cons (.str _) (.cons (.str _) .nil)), by decide +kernel, by decide +kernel, by decide +kernel⟩
  have h18 : ¬ wy < 18 := fun z => h2 (decide_eq_true z)
  refine ⟨_, rfl, _, _, rfl, rfl, _, rfl, ?_⟩
  refine ite2 (fun h3 => ?_) (fun h3 => ?_)
  ·have h21 : wy < 21 := of_decide_eq_true h3
   obtain ⟨j, ej, hj⟩ := sub_nat (d := wy) (k := 18) (m := 21) (by omega) (by omega)
   refine ⟨by show 3 <= sizeLine; rw [sizeLine_eq]; decide, fun c hc => ?_⟩
   refine ⟨_, rfl, _, _, rfl, rfl, ?_⟩
   show rIxL _ (.ref c) (.int (wy - 18)) _ _
   rw [show wy - 18 = (j : Int) from ej]
   refine pick (H0 := H) (n := 9) (m := 1) upd_same (show j < 3 by omega) (fun x hx => ?_) fun u e r g => q u e _ (p1.new hc) r g
   simp only [List.mem_cons, List.not_mem_nil, or_false] at hx
   rcases hx with rfl | rfl | rfl
   ·exact ⟨_, fun _ _ => .non, gd_none⟩
   ·exact ⟨_, fun _ _ => .bl _, gd_bool⟩
   ·exact ⟨_, fun _ _ => .bl _, gd_bool⟩
  have h21 : ¬ wy < 21 := fun z => h3 (decide_eq_true z)
  obtain ⟨j, ej, hj⟩ := sub_nat (d := wy) (k := 21) (m := 24) (by omega) (by omega)
  refine ⟨Nat.zero_le _, fun t1 ht1 => ⟨Nat.zero_le _, fun t2 ht2 => fun t3 ht3 => ⟨by show 3 <= sizeLine; rw [sizeLine_eq]; decide, fun c hc => ?_⟩⟩⟩
  refine ⟨_, rfl, _, _, rfl, rfl, ?_⟩
  show rIxL _ (.ref c) (.int (wy - 21)) _ _
  rw [show wy - 21 = (j : Int) from ej]
  have g1 := p1.new (o := .lst []) ht1
  have g2 := g1.new (o := .tup []) ht2
  have g3 := g2.new (o := .dK []) ht3
  have k2 := same_new (o := .tup []) ht2
  have k3 := same_new (o := .dK []) ht3
  have k5 := same_new (o := .lst [V.ref t1, V.ref t2, V.ref t3]) hc
  refine pick (H0 := H) (n := 9) (m := 1) upd_same (show j < 3 by omega) (fun x hx => ?_) fun u e r g => q u e _ (g3.new hc) r g
  simp only [List.mem_cons, List.not_mem_nil, or_false] at hx
  rcases hx with rfl | rfl | rfl
  ·exact ⟨.list [], fun _ hq => .lst (npc p1 ht1 hq) (k5 _ _ (k3 _ _ (k2 _ _ upd_same))) .nil, by decide +kernel, by decide +kernel, by decide +kernel⟩
  ·exact ⟨.tuple [], fun _ hq => .tup (npc g1 ht2 hq) (k5 _ _ (k3 _ _ upd_same)) .nil, by decide +kernel, by decide +kernel, by decide +kernel⟩
  ·exact ⟨.dict [], fun _ hq => .dct (npc g2 ht3 hq) (k5 _ _ upd_same), by decide +kernel, by decide +kernel, by decide +kernel⟩
end
end K31
namespace K31
open PySem L2 PySem.W HT
theorem bulk_app : ∀ a b : List PyData, PyData.bulkAll (a ++ b) = PyData.bulkAll a + PyData.bulkAll b
 | [], b => by simp [PyData.bulkAll]
 | x :: a, b => by have := bulk_app a b; simp only [List.cons_append, PyData.bulkAll]; omega
theorem dep_all : ∀ {ds : List PyData} {m : Nat}, (∀ d ∈ ds, d.depth <= m) -> PyData.depthAll ds <= m
 | [], _, _ => Nat.zero_le _
 | x :: a, m, h => by
  have h1 := h x List.mem_cons_self
  have h2 := dep_all (ds := a) fun d hd => h d (List.mem_cons_of_mem _ hd)
  simp only [PyData.depthAll]; omega
theorem mk_gd {n m : Nat} {ds : List PyData} (h1 : ∀ d ∈ ds, lf d = true) (h2 : PyData.bulkAll ds <= n) (h3 : ∀ d ∈ ds, d.depth <= m) : Gd n (m + 1) (.tuple ds) /\ Gd n (m + 1) (.list ds) := by
 have := dep_all h3
 exact ⟨⟨lfs_of h1, h2, by simp only [PyData.depth]; omega⟩, ⟨lfs_of h1, h2, by simp only [PyData.depth]; omega⟩⟩
theorem ins_gd {n m k : Nat} {d e : PyData} (g : Gd n m d) (h : isSeq d = true) (ge : Gd 9 1 e) : Gd (2 * n + 10) (m + 2) (.tuple ((kids d).take k ++ e :: (kids d).drop k)) := by
 have gb := g.bulk
 have gd := g.dep
 have eb := ge.bulk
 have ed := ge.dep
 have bk : d.bulk = PyData.bulkAll (kids d) := (kids_bulk h []).2.1
 have b2 : PyData.bulkAll (kids d) = PyData.bulkAll ((kids d).take k) + PyData.bulkAll ((kids d).drop k) := by rw [<- bulk_app, List.take_append_drop]
 have mem : ∀ c ∈ (kids d).take k ++ e :: (kids d).drop k, c = e \/ c ∈ kids d := fun c hc => by
  rcases List.mem_append.mp hc with z | z
  ·exact .inr (List.mem_of_mem_take z)
  ·rcases List.mem_cons.mp z with z | z
   ·exact .inl z
   ·exact .inr (List.mem_of_mem_drop z)
 refine (mk_gd (n := 2 * n + 10) (m := m + 1) (fun c hc => ?_) ?_ (fun c hc => ?_)).1
 ·rcases mem c hc with rfl | z
  ·exact ge.leaf
  ·exact kid_lf g.leaf z
 ·rw [bulk_app]; simp only [PyData.bulkAll]; omega
 ·rcases mem c hc with rfl | z
  ·omega
  ·have := kid_dep z; omega
theorem del_gd {n m : Nat} {d : PyData} {ds : List PyData} (g : Gd n m d) (h : isSeq d = true) (hd : ds.Sublist (kids d)) : Gd (2 * n + 10) (m + 2) (.tuple ds) /\ Gd (2 * n + 10) (m + 2) (.list ds) := by
 have gb := g.bulk
 have gd := g.dep
 have bk : d.bulk = PyData.bulkAll (kids d) := (kids_bulk h []).2.1
 have sub : ∀ {a b : List PyData}, a.Sublist b -> PyData.bulkAll a <= PyData.bulkAll b := fun s => by
  induction s with
  | slnil => exact Nat.le_refl _
  | cons x _ ih => simp only [PyData.bulkAll]; omega
  | cons_cons x _ ih => simp only [PyData.bulkAll]; omega
 have := sub hd
 exact mk_gd (m := m + 1) (fun c hc => kid_lf g.leaf (hd.subset hc)) (by omega) (fun c hc => by have := kid_dep (hd.subset hc); omega)
theorem Dts.del {p : Addr} {H : Hp} : ∀ {vs : List V} {ds : List PyData} (i : Nat), Dts p H vs ds -> Dts p H (vs.eraseIdx i) (ds.eraseIdx i)
 | _, _, _, .nil => .nil
 | _, _, 0, .cons _ b => b
 | _, _, i + 1, .cons a b => .cons a (Dts.del i b)
theorem slice_mem {z : Str} {lo hi : Option Int} {c : Nat} (h : c ∈ (Txt.slice z lo hi).cps.toList) : c ∈ z.cps.toList := by
 unfold Txt.slice at h
 split at h
 ·exact h
 ·simp only [List.mem_filterMap] at h
  obtain ⟨i, _, e⟩ := h
  obtain ⟨_, e2⟩ := Array.getElem?_eq_some_iff.mp e
  rw [<- e2]; simp
abbrev okc (x : Str) : Prop := ∀ c ∈ x.cps.toList, c < 16 ^ 8
theorem str_gd {x : Str} {a b : Nat} (h : okc x) (hl : x.length <= a) : Gd a b (.str x) := gd_str (by simp only [List.all_eq_true, decide_eq_true_eq]; exact h) hl
theorem gd_okc {x : Str} {a b : Nat} (g : Gd a b (.str x)) : okc x /\ x.length <= a := ⟨by
 have := g.leaf
 simp only [lf, List.all_eq_true, decide_eq_true_eq] at this
 exact this, g.bulk⟩
theorem okc_app {x y : Str} (hx : okc x) (hy : okc y) : okc (x ++ y) := fun c hc => by
 have e : (x ++ y).cps.toList = x.cps.toList ++ y.cps.toList := by show (x.cps ++ y.cps).toList = _; simp
 rw [e] at hc
 rcases List.mem_append.mp hc with z | z
 ·exact hx c z
 ·exact hy c z
theorem len_app (x y : Str) : (x ++ y).length = x.length + y.length := by show (x.cps ++ y.cps).size = _; simp; rfl
abbrev signs36 : Str := "abcdefghijklmnopqrstuvwxyz09AZ_-`{ \n"
theorem sign_at {d : Int} (h0 : 0 <= d) (h1 : d < 36) : ∃ c, atI signs36.cps.toList d = some c /\ c < 16 ^ 8 := by
 obtain ⟨j, rfl⟩ := Int.eq_ofNat_of_zero_le h0
 have hl : signs36.cps.toList.length = 36 := by decide +kernel
 have hj : j < signs36.cps.toList.length := by omega
 refine ⟨signs36.cps.toList[j], atI_nat (List.getElem?_eq_getElem hj), ?_⟩
 have : ∀ c ∈ signs36.cps.toList, c < 16 ^ 8 := by decide +kernel
 exact this _ (List.getElem_mem hj)
end K31
namespace K31
open PySem L2 PySem.W HT
section
variable {P : Program} {w : World} {K : Frag} {mg : Str -> Option Value} {base : Heap} {f : Addr} {fd : FuncData}
abbrev TurnQ (p : Addr) (n m : Nat) (H : Hp) (Q : VK) : Prop := ∀ (u : V) (e : PyData) (H' : Hp), PotAt p H H' -> Dt p H' u e -> Gd n m e -> Q u H'
@[irreducible] def spTurned : Sp := fun vs H Q _ => ∃ (p : Addr) (v : V) (d : PyData) (j n m : Nat), vs = [.ref p, v, .int (j : Int)] /\ PotOk p H /\ Dt p H v d /\ Gd n m d /\ n <= 400 /\ 1 <= j /\ j < 4 /\ TurnQ p (2 * n + 10) (m + 2) H Q
theorem turned_sp {p : Addr} {v : V} {d : PyData} {j n m : Nat} {H : Hp} {Q : VK} {E : XK} (h : PotOk p H) (r : Dt p H v d) (g : Gd n m d) (hn : n <= 400) (j1 : 1 <= j) (j4 : j < 4) (q : TurnQ p (2 * n + 10) (m + 2) H Q) : spTurned [.ref p, v, .int (j : Int)] H Q E := by unfold spTurned; exact ⟨p, v, d, j, n, m, rfl, h, r, g, hn, j1, j4, q⟩
abbrev nTurned : List Str := ["_law_pot_here", "_law_part_here", "_law_way", "_law_some", "_law_sign", "_law_at"]
theorem scTurned : FnScope nTurned ["_law_pot_here", "_law_part_here", "_law_way"] (defScope sTurned) := ⟨rfl, rfl, rfl, by decide +kernel, rfl, by decide +kernel, by decide +kernel⟩
theorem ok_turned {fD fO : Addr} {dD dO : FuncData} (F : Fun K "_law_turned" "_law_turned" sTurned f fd) (B : Blt mg) (B2 : Blt2 mg) (B3 : Blt3 mg)
  (GD : FnOk P w K mg base CX0 1 fD dD ["_law_pot_here", "_law_many"] spDigit) (kD : keepIn K (.ref fD) = true) (bD : Binds K dD ["_law_pot_here", "_law_many"] []) (mD : mg "_law_digit" = some (.ref fD))
  (GO : FnOk P w K mg base CX0 2 fO dO ["_law_pot_here"] spOdd) (kO : keepIn K (.ref fO) = true) (bO : Binds K dO ["_law_pot_here"] []) (mO : mg "_law_odd" = some (.ref fO)) : FnOk P w K mg base CX0 3 f fd ["_law_pot_here", "_law_part_here", "_law_way"] spTurned := by
 refine F.ok scTurned (fun vs H Q E h => ?_) (fun cdv A outer s H vs Q E hr h => ?_)
 ·unfold spTurned at h; obtain ⟨p, v, d, j, n, m, rfl, _⟩ := h; rfl
 ·unfold spTurned at h
  obtain ⟨p, v, d, j, n, m, rfl, pk, rd, gd, hn, j1, j4, q⟩ := h
  have hu := hr.units
  have hr2 : Room 2 _ := hr
  have hr1 : Room 1 _ := hr2.mono (by decide)
  refine ⟨_, pss_cons (ps_if (pt_val (pe_callB call_isi2 rfl B2.isi boot_isi (pa_cons (pv 1) (pa_cons (pe_tup (pa_cons (pe_bltn (v := .ty "tuple") rfl B.tuple boot_tuple rfl) (pa_cons (pe_bltn (v := .ty "list") rfl B.list boot_list rfl) pa_nil))) pa_nil))))
    (pss_cons (ps_set (i := 3) scTurned.nd rfl (Or.inl rfl) (pe_callTy call_list_of rfl B.list boot_list (pa_cons (pv 1) pa_nil)))
    (pss_cons (ps_if (pt_cmpR op_eq (pv 2) pe_int (nomark _))
     (pss_one (ps_expr (pe_bm PySem.F.plainAttrs_list PySem.F.slot_list_insert PySem.F.type_list_insert mt_insert (pv 3) (pa_cons (pe_call GD hr1 rfl mD kD bD .nil pass0 (pa_cons (pv 0) (pa_cons (pe_op op_add (pe_callB call_len_seq rfl B.len boot_len (pa_cons (pv 3) pa_nil)) pe_int) pa_nil))) (pa_cons (pe_call GO hr2 rfl mO kO bO .nil pass0 (pa_cons (pv 0) pa_nil)) pa_nil)))))
     (pss_one (ps_if (PW.pt (pw_and (pt_cmpR op_eq (pv 2) pe_int (nomark _)) (pw_and1 (pt_cmpR (op_neL0 hu) (pv 3) (pe_lst pa_nil) (nomark _)))))
      (pss_one (ps_expr (pe_bm PySem.F.plainAttrs_list PySem.F.slot_list_pop PySem.F.type_list_pop mt_popAt (pv 3) (pa_cons (pe_call GD hr1 rfl mD kD bD .nil pass0 (pa_cons (pv 0) (pa_cons (pe_callB call_len_seq rfl B.len boot_len (pa_cons (pv 3) pa_nil)) pa_nil))) pa_nil))))
      (pss_one (ps_ifRet (pt_val (pe_callB call_isi rfl B2.isi boot_isi (pa_cons (pv 1) (pa_cons (pe_bltn (v := .ty "tuple") rfl B.tuple boot_tuple rfl) pa_nil)))) (pv 3))))))
    (pss_ret (pe_callTy call_tuple_of rfl B.tuple boot_tuple (pa_cons (pv 3) pa_nil))))) pss_nil)
   (pss_cons (ps_if (pt_val (pe_callB call_isi rfl B2.isi boot_isi (pa_cons (pv 1) (pa_cons (pe_bltn (v := .ty "str") rfl B2.str boot_str rfl) pa_nil))))
    (pss_cons (ps_set (i := 4) scTurned.nd rfl (Or.inl rfl) (pe_ix ix_str pe_str (pe_call GD hr1 rfl mD kD bD .nil pass0 (pa_cons (pv 0) (pa_I pa_nil))) (fun _ _ => rfl)))
    (pss_cons (ps_set (i := 5) scTurned.nd rfl (Or.inl rfl) (pe_call GD hr1 rfl mD kD bD .nil pass0 (pa_cons (pv 0) (pa_cons (pe_op op_add (pe_callB call_len_str rfl B.len boot_len (pa_cons (pv 1) pa_nil)) pe_int) pa_nil))))
    (pss_ret (pe_op op_add_str (pe_op op_add_str (pe_slice sl_str (pv 1) po_none (po_some (pv 5))) (pe_ix ix_list (pe_lst (pa_S (pa_cons (pv 4) (pa_S (pa_cons (pv 4) pa_nil))))) (pv 2) (fun _ _ => rfl)))
     (pe_slice sl_str (pv 1) (po_some (pe_op op_add (pv 5) (pe_ix ix_list (pe_lst (pa_I (pa_I (pa_I (pa_I pa_nil))))) (pv 2) (fun _ _ => rfl)))) po_none))))) pss_nil)
   (pss_cons (ps_ifRet (PW.pt (pw_and (pt_val (pe_callB call_isi rfl B2.isi boot_isi (pa_cons (pv 1) (pa_cons (pe_bltn (v := .ty "int") rfl B3.int boot_int rfl) pa_nil)))) (pw_and1 (pt_not (pt_val (pe_callB call_isi rfl B2.isi boot_isi (pa_cons (pv 1) (pa_cons (pe_bltn (v := .ty "bool") rfl B3.bool boot_bool rfl) pa_nil))))))))
    (pe_ix ix_list (pe_lst (pa_cons (pv 1) (pa_cons (pe_un un_neg (pv 1)) (pa_cons (pe_op op_fdiv (pv 1) pe_int) (pa_cons (pe_cmpR op_eq (pv 1) pe_int (nomark _)) pa_nil))))) (pv 2) (fun _ _ => rfl)))
   (pss_ret (pe_call GO hr2 rfl mO kO bO .nil pass0 (pa_cons (pv 0) pa_nil))))), ?_⟩
  refine ⟨_, rfl, by show 2 <= sizeLine; rw [sizeLine_eq]; decide, fun t1 ht1 => ?_⟩
  have p1 := (PotAt.refl pk).new (o := .tup [V.ty "tuple", V.ty "list"]) ht1
  have htt : upd H t1 (.tup [V.ty "tuple", V.ty "list"]) t1 = some (.tup [V.ty "tuple", V.ty "list"]) := upd_same
  generalize upd H t1 (.tup [V.ty "tuple", V.ty "list"]) = H1 at p1 htt ⊢
  have rd1 : Dt p H1 v d := Dt.keep (fun b o e n => p1.kp b o e n) rd
  refine ⟨p, v, d, t1, _, _, rfl, rd1, htt, fun K => kit_tuple K d, fun K => kit_list K d, _, rfl, ?_⟩
  rw [isq_eq]
  cases hsq : isSeq d with
  | true =>
   obtain ⟨a, vs, rfl, na, rs, hq⟩ := dt_seq rd hsq
   have el := rs.length
   have bk : d.bulk = PyData.bulkAll (kids d) := (kids_bulk hsq []).2.1
   have hkl := bulk_len (kids d)
   have gb := gd.bulk
   have hvl : vs.length <= 400 := by omega
   refine ⟨_, rfl, a, vs, rfl, hq.elim (fun z => .inl (SqL.of (p1.kp _ _ z.1 na))) (fun z => .inr (SqT.of (p1.kp _ _ z.1 na))), fun tl htl => ?_⟩
   have htl0 : H tl = none := p1.free htl
   have npt : p ≠ tl := p1.ok.ne htl
   have p2 := p1.new (o := .lst vs) htl
   have htl2 : upd H1 tl (.lst vs) tl = some (.lst vs) := upd_same
   generalize upd H1 tl (.lst vs) = H2 at p2 htl2 ⊢
   have fin : ∀ (H3 : Hp) (ys : List V) (ds : List PyData), PotAt p H H3 -> H3 tl = some (.lst ys) -> Dts p H3 ys ds -> Gd (2 * n + 10) (m + 2) (.tuple ds) -> ∃ p ys, [V.ref tl] = [V.ref p] /\ ((SqL K H3 p ys /\ ∀ l, H3 l = none -> Q (.ref l) (upd H3 l (.tup ys))) \/ (SqT K H3 p ys /\ Q (.ref p) H3)) := fun H3 ys ds p3 h3 r3 g3 =>
    ⟨tl, ys, rfl, .inl ⟨SqL.of h3, fun l hl => q _ _ _ (p3.new hl) (.tup (Ne.symm (p3.ok.ne hl)) upd_same (Dts.keep (fun b o e _ => by rw [upd_ne (ne_of_none e hl)]; exact e) r3)) g3⟩⟩
   have rs2 : ∀ {H3 : Hp}, PotAt p H H3 -> Dts p H3 vs (kids d) := fun p3 => Dts.keep (fun b o e n => p3.kp b o e n) rs
   refine ⟨_, rfl, rfl, _, rfl, ?_⟩
   refine ite2 (fun h0 => ?_) (fun h0 => ?_)
   ·refine ⟨_, rfl, .inl ⟨rfl, _, SqL.of htl2⟩, _, rfl, _, rfl, tl, _, rfl, .inl (SqL.of htl2), _, _, rfl, rfl, ?_⟩
    refine digit_sp (p := p) (m := (vs.length : Int) + 1) p2.ok (by omega) (by omega) fun kk H3 a0 a1 p3 => ?_
    obtain ⟨k, rfl⟩ := Int.eq_ofNat_of_zero_le a0
    have p23 := p2.trans p3
    have htl3 := p3.kp _ _ htl2 (Ne.symm npt)
    refine ⟨_, rfl, odd_sp p3.ok fun u e H4 p4 hu4 ge => ?_⟩
    have p24 := p23.trans p4
    have htl4 := p4.kp _ _ htl3 (Ne.symm npt)
    refine ⟨tl, vs, k, u, rfl, rfl, htl4, by omega, by omega, ?_⟩
    have p5 := p24.write (o := .lst (vs.take k ++ u :: vs.drop k)) htl0 npt
    have ru : Dt p (upd H4 tl (.lst (vs.take k ++ u :: vs.drop k))) u e := dt_two (hu4 p (pot_has p23 (by obtain ⟨x, y, z, _⟩ := pk; rw [z]; simp))) (hu4 tl (by rw [htl3]; simp)) fun b o z nb => by rw [upd_ne nb]; exact z
    exact ⟨_, rfl, fin _ _ _ p5 upd_same (((rs2 p5).take k).app (.cons ru ((rs2 p5).drop k))) (ins_gd gd hsq ge)⟩
   refine ⟨_, rfl, rfl, _, rfl, ?_⟩
   refine ite2 (fun h1 => ?_) (fun h1 => ?_)
   ·refine ⟨_, rfl, Nat.zero_le _, fun e0 he0 => ?_⟩
    have p3 := p2.new (o := .lst []) he0
    have htl3 : upd H2 e0 (.lst []) tl = some (.lst vs) := by rw [upd_ne (ne_of_none htl2 he0)]; exact htl2
    have he3 : upd H2 e0 (.lst []) e0 = some (.lst []) := upd_same
    generalize upd H2 e0 (.lst []) = H3 at p3 htl3 he3 ⊢
    refine ⟨tl, e0, vs, rfl, rfl, htl3, he3, _, rfl, ?_⟩
    cases hve : vs.isEmpty with
    | false =>
     have hpos : 0 < vs.length := by cases vs with
      | nil => cases hve
      | cons _ _ => simp
     refine ⟨_, rfl, .inl ⟨rfl, _, SqL.of htl3⟩, _, rfl, _, rfl, tl, _, rfl, .inl (SqL.of htl3), ?_⟩
     refine digit_sp (p := p) (m := (vs.length : Int)) p3.ok (by omega) (by omega) fun kk H4 a0 a1 p4 => ?_
     obtain ⟨k, rfl⟩ := Int.eq_ofNat_of_zero_le a0
     have p24 := p3.trans p4
     have htl4 := p4.kp _ _ htl3 (Ne.symm npt)
     have hk : k < vs.length := by omega
     refine ⟨tl, vs, _, k, vs[k], rfl, rfl, htl4, by omega, by omega, ?_, List.getElem?_eq_getElem hk, ?_⟩
     ·unfold seqIndex?; simp; omega
     have p5 := p24.write (o := .lst (vs.eraseIdx k)) htl0 npt
     exact ⟨_, rfl, fin _ _ _ p5 upd_same (Dts.del k (rs2 p5)) (del_gd gd hsq (List.eraseIdx_sublist _ _)).1⟩
    | true =>
     refine ⟨_, rfl, isi_sp kit_tuple (Dt.keep (fun b o e n => p3.kp b o e n) rd) ⟨_, rfl, ?_⟩⟩
     refine ite2 (fun h3 => ?_) (fun h3 => ?_)
     ·exact ⟨_, rfl, q _ (.list (kids d)) _ p3 (.lst (Ne.symm npt) htl3 (rs2 p3)) (del_gd gd hsq (List.Sublist.refl _)).2⟩
     ·exact ⟨_, rfl, fin _ _ _ p3 htl3 (rs2 p3) (del_gd gd hsq (List.Sublist.refl _)).1⟩
   ·refine ⟨_, rfl, isi_sp kit_tuple (Dt.keep (fun b o e n => p2.kp b o e n) rd) ⟨_, rfl, ?_⟩⟩
    refine ite2 (fun h3 => ?_) (fun h3 => ?_)
    ·exact ⟨_, rfl, q _ (.list (kids d)) _ p2 (.lst (Ne.symm npt) htl2 (rs2 p2)) (del_gd gd hsq (List.Sublist.refl _)).2⟩
    ·exact ⟨_, rfl, fin _ _ _ p2 htl2 (rs2 p2) (del_gd gd hsq (List.Sublist.refl _)).1⟩
  | false =>
  refine ⟨_, rfl, isi_sp kit_str rd1 ⟨_, rfl, ?_⟩⟩
  cases hst : isT "str" d with
  | true =>
   obtain ⟨x, rfl⟩ : ∃ x, d = .str x := by cases d with
    | str x => exact ⟨x, rfl⟩
    | _ => cases hst
   cases rd
   obtain ⟨ox, lx⟩ := gd_okc gd
   refine ⟨_, rfl, digit_sp (p := p) (m := 36) p1.ok (by decide) (by decide) fun d1 H2 a0 a1 p2 => ?_⟩
   obtain ⟨c, hc, hcl⟩ := sign_at a0 a1
   have p12 := p1.trans p2
   refine ⟨signs36, d1, c, rfl, rfl, (by rw [sizeLine_eq]; decide +kernel), hc, ?_⟩
   refine ⟨_, rfl, _, rfl, x, rfl, by rw [sizeLine_eq]; omega, _, _, rfl, rfl, ?_⟩
   refine digit_sp (p := p) (m := (x.length : Int) + 1) p12.ok (by omega) (by omega) fun d2 H3 b0 b1 p3 => ?_
   have p13 := p12.trans p3
   refine ⟨_, rfl, _, rfl, _, rfl, x, rfl, by omega, ?_⟩
   have l1 := Txt.slice_le x none (some d2)
   refine ⟨_, rfl, _, rfl, by show 4 <= sizeLine; rw [sizeLine_eq]; decide, fun l4 hl4 => ?_⟩
   have p4 := p13.new (o := .lst [V.str "", V.str ⟨#[c]⟩, V.str "", V.str ⟨#[c]⟩]) hl4
   obtain ⟨y, hy, oy, ly⟩ : ∃ y : Str, [V.str "", V.str ⟨#[c]⟩, V.str "", V.str ⟨#[c]⟩][j]? = some (V.str y) /\ okc y /\ y.length <= 1 := by
    have : j = 1 \/ j = 2 \/ j = 3 := by omega
    rcases this with rfl | rfl | rfl
    ·exact ⟨_, rfl, fun z hz => by rw [List.mem_singleton.mp (show z ∈ [c] from hz)]; exact hcl, Nat.le_refl 1⟩
    ·exact ⟨_, rfl, (fun z hz => by rw [show ((Str.ofString "").cps.toList) = [] by decide +kernel] at hz; cases hz), by decide +kernel⟩
    ·exact ⟨_, rfl, fun z hz => by rw [List.mem_singleton.mp (show z ∈ [c] from hz)]; exact hcl, Nat.le_refl 1⟩
   refine ⟨_, rfl, l4, _, _, _, rfl, rfl, SqL.of upd_same, atI_nat hy, ?_⟩
   refine ⟨_, y, rfl, rfl, by rw [sizeLine_eq]; omega, ?_⟩
   refine ⟨_, rfl, _, rfl, by show 4 <= sizeLine; rw [sizeLine_eq]; decide, fun l5 hl5 => ?_⟩
   have p5 := p4.new (o := .lst [V.int 0, V.int 0, V.int 1, V.int 1]) hl5
   obtain ⟨k, hk⟩ : ∃ k : Int, [V.int 0, V.int 0, V.int 1, V.int 1][j]? = some (V.int k) := by
    have : j = 1 \/ j = 2 \/ j = 3 := by omega
    rcases this with rfl | rfl | rfl
    ·exact ⟨_, rfl⟩
    ·exact ⟨_, rfl⟩
    ·exact ⟨_, rfl⟩
   refine ⟨_, rfl, l5, _, _, _, rfl, rfl, SqL.of upd_same, atI_nat hk, _, _, rfl, rfl, _, rfl, x, rfl, by omega, ?_⟩
   have l2 := Txt.slice_le x (some (d2 + k)) none
   have l3 := len_app (Txt.slice x none (some d2)) y
   have l4' := len_app (Txt.slice x none (some d2) ++ y) (Txt.slice x (some (d2 + k)) none)
   refine ⟨_, _, rfl, rfl, by rw [sizeLine_eq]; omega, ?_⟩
   exact q _ _ _ p5 (.str _) (str_gd (okc_app (okc_app (fun c hc => ox c (slice_mem hc)) oy) fun c hc => ox c (slice_mem hc)) (by omega))
  | false =>
  refine ⟨_, rfl, isi_sp kit_int rd1 ⟨_, rfl, ?_⟩⟩
  cases hin : isT "int" d with
  | false => exact ⟨_, rfl, odd_sp p1.ok fun u e H2 p2 hu2 ge => q u e _ (p1.trans p2) (hu2 p (by obtain ⟨x, y, z, _⟩ := p1.ok; rw [z]; simp)) (ge.mono (by omega) (by omega))⟩
  | true =>
  refine ⟨_, rfl, isi_sp kit_bool rd1 ⟨_, rfl, ?_⟩⟩
  cases hbl : isT "bool" d with
  | true => exact ⟨_, rfl, odd_sp p1.ok fun u e H2 p2 hu2 ge => q u e _ (p1.trans p2) (hu2 p (by obtain ⟨x, y, z, _⟩ := p1.ok; rw [z]; simp)) (ge.mono (by omega) (by omega))⟩
  | false =>
   obtain ⟨i, rfl⟩ : ∃ i, d = .int i := by cases d with
    | int i => exact ⟨i, rfl⟩
    | bool b => cases hbl
    | _ => cases hin
   cases rd
   have hi : i.natAbs <= 10 ^ 18 := by have := gd.leaf; simpa only [lf, decide_eq_true_eq] using this
   refine ⟨_, rfl, _, rfl, _, rfl, _, rfl, _, _, rfl, rfl, ⟨by decide, by decide⟩, _, rfl, rfl, by show 4 <= sizeLine; rw [sizeLine_eq]; decide, fun l4 hl4 => ?_⟩
   have p4 := p1.new (o := .lst [V.int i, V.int (-i), V.int (i / 7), V.bl (decide (V.int i = V.int 1))]) hl4
   refine ⟨_, rfl, ?_⟩
   have : j = 1 \/ j = 2 \/ j = 3 := by omega
   rcases this with rfl | rfl | rfl
   ·exact ⟨l4, _, _, _, rfl, rfl, SqL.of upd_same, rfl, q _ _ _ p4 (.int _) (gd_int (by omega))⟩
   ·exact ⟨l4, _, _, _, rfl, rfl, SqL.of upd_same, rfl, q _ _ _ p4 (.int _) (gd_int (by omega))⟩
   ·exact ⟨l4, _, _, _, rfl, rfl, SqL.of upd_same, rfl, q _ _ _ p4 (.bl _) gd_bool⟩
end
end K31
namespace K31
open PySem L2 PySem.W HT
section
variable {P : Program} {w : World} {K : Frag} {mg : Str -> Option Value} {base : Heap} {f : Addr} {fd : FuncData}
@[irreducible] def spSpoilt : Sp := fun vs H Q _ => ∃ (p : Addr) (v : V) (d : PyData) (n m : Nat), vs = [.ref p, v] /\ PotOk p H /\ Dt p H v d /\ Gd n m d /\ n <= 400 /\ m <= 20 /\ TurnQ p (3 * n + 10) (2 * m + 2) H Q
theorem spoilt_sp {p : Addr} {v : V} {d : PyData} {n m : Nat} {H : Hp} {Q : VK} {E : XK} (h : PotOk p H) (r : Dt p H v d) (g : Gd n m d) (hn : n <= 400) (hm : m <= 20) (q : TurnQ p (3 * n + 10) (2 * m + 2) H Q) : spSpoilt [.ref p, v] H Q E := by unfold spSpoilt; exact ⟨p, v, d, n, m, rfl, h, r, g, hn, hm, q⟩
abbrev nSpoilt : List Str := ["_law_pot_here", "_law_thing", "_law_way", "_law_paths_here", "_law_path"]
theorem scSpoilt : FnScope nSpoilt ["_law_pot_here", "_law_thing"] (defScope sSpoilt) := ⟨rfl, rfl, rfl, by decide +kernel, rfl, by decide +kernel, by decide +kernel⟩
theorem pot_of_same {p : Addr} {H H' : Hp} (h : PotOk p H) (S : Same H H') : PotAt p H H' := ⟨pot_same h S, fun _ _ e _ => S _ _ e⟩
theorem pot_in {p : Addr} {H : Hp} (h : PotOk p H) : H p ≠ none := by obtain ⟨x, y, z, _⟩ := h; rw [z]; simp
theorem ok_spoilt {fD fO fT fP fA fW : Addr} {dD dO dT dP dA dW : FuncData} (F : Fun K "_law_spoilt" "_law_spoilt" sSpoilt f fd) (B : Blt mg)
  (GD : FnOk P w K mg base CX0 1 fD dD ["_law_pot_here", "_law_many"] spDigit) (kD : keepIn K (.ref fD) = true) (bD : Binds K dD ["_law_pot_here", "_law_many"] []) (mD : mg "_law_digit" = some (.ref fD))
  (GO : FnOk P w K mg base CX0 2 fO dO ["_law_pot_here"] spOdd) (kO : keepIn K (.ref fO) = true) (bO : Binds K dO ["_law_pot_here"] []) (mO : mg "_law_odd" = some (.ref fO))
  (GT : FnOk P w K mg base CX0 3 fT dT ["_law_pot_here", "_law_part_here", "_law_way"] spTurned) (kT : keepIn K (.ref fT) = true) (bT : Binds K dT ["_law_pot_here", "_law_part_here", "_law_way"] []) (mT : mg "_law_turned" = some (.ref fT))
  (GP : FnOk P w K mg base CX0 21 fP dP ["_law_thing"] (spPaths 20)) (kP : keepIn K (.ref fP) = true) (bP : Binds K dP ["_law_thing"] []) (mP : mg "_law_paths" = some (.ref fP))
  (GA : FnOk P w K mg base CX0 1 fA dA ["_law_thing", "_law_path"] spPart) (kA : keepIn K (.ref fA) = true) (bA : Binds K dA ["_law_thing", "_law_path"] []) (mA : mg "_law_part" = some (.ref fA))
  (GW : FnOk P w K mg base CX0 21 fW dW ["_law_thing", "_law_path", "_law_part_here"] (spWith 20)) (kW : keepIn K (.ref fW) = true) (bW : Binds K dW ["_law_thing", "_law_path", "_law_part_here"] []) (mW : mg "_law_with" = some (.ref fW)) :
  FnOk P w K mg base CX0 22 f fd ["_law_pot_here", "_law_thing"] spSpoilt := by
 refine F.ok scSpoilt (fun vs H Q E h => ?_) (fun cdv A outer s H vs Q E hr h => ?_)
 ·unfold spSpoilt at h; obtain ⟨p, v, d, n, m, rfl, _⟩ := h; rfl
 ·unfold spSpoilt at h
  obtain ⟨p, v, d, n, m, rfl, pk, rd, gd, hn, hm, q⟩ := h
  have hr21 : Room 21 _ := hr
  have hr3 : Room 3 _ := hr21.mono (by decide)
  have hr2 : Room 2 _ := hr21.mono (by decide)
  have hr1 : Room 1 _ := hr21.mono (by decide)
  refine ⟨_, pss_cons (ps_set (i := 2) scSpoilt.nd rfl (Or.inl rfl) (pe_call GD hr1 rfl mD kD bD .nil pass0 (pa_cons (pv 0) (pa_I pa_nil))))
   (pss_cons (ps_set (i := 3) scSpoilt.nd rfl (Or.inl rfl) (pe_call GP hr21 rfl mP kP bP .nil pass0 (pa_cons (pv 1) pa_nil)))
   (pss_cons (ps_set (i := 4) scSpoilt.nd rfl (Or.inl rfl) (pe_ix ix_list (pv 3) (pe_call GD hr1 rfl mD kD bD .nil pass0 (pa_cons (pv 0) (pa_cons (pe_callB call_len_seq rfl B.len boot_len (pa_cons (pv 3) pa_nil)) pa_nil))) (fun _ _ => rfl)))
   (pss_cons (ps_ifRet (pt_cmpR op_eq (pv 2) pe_int (nomark _)) (pe_call GW hr21 rfl mW kW bW .nil pass0 (pa_cons (pv 1) (pa_cons (pv 4) (pa_cons (pe_call GO hr2 rfl mO kO bO .nil pass0 (pa_cons (pv 0) pa_nil)) pa_nil)))))
   (pss_ret (pe_call GW hr21 rfl mW kW bW .nil pass0 (pa_cons (pv 1) (pa_cons (pv 4) (pa_cons (pe_call GT hr3 rfl mT kT bT .nil pass0 (pa_cons (pv 0) (pa_cons (pe_call GA hr1 rfl mA kA bA .nil pass0 (pa_cons (pv 1) (pa_cons (pv 4) pa_nil))) (pa_cons (pv 2) pa_nil)))) pa_nil)))))))), ?_⟩
  refine ⟨_, rfl, digit_sp (p := p) (m := 4) pk (by decide) (by decide) fun wy H1 a0 a1 p1 => ?_⟩
  have gb := gd.bulk
  have gdp := gd.dep
  refine ⟨_, rfl, paths_sp (n := 20) (Dt.keep (fun b o e n => p1.kp b o e n) rd) (by omega) (by omega) fun l ps ws H2 hl S2 hl2 pv2 ne2 len2 ok2 => ?_⟩
  have p12 := p1.trans (pot_of_same p1.ok S2)
  have nlp : l ≠ p := fun z => pot_in p1.ok (by rw [<- z]; exact hl)
  have ewl : ws.length = ps.length := Paired.length pv2
  have hpos : 0 < ps.length := List.length_pos_iff.mpr ne2
  refine ⟨_, rfl, _, rfl, _, rfl, l, _, rfl, .inl (SqL.of hl2), ?_⟩
  refine digit_sp (p := p) (m := (ws.length : Int)) p12.ok (by omega) (by omega) fun kk H3 b0 b1 p3 => ?_
  obtain ⟨k, rfl⟩ := Int.eq_ofNat_of_zero_le b0
  have hk : k < ps.length := by omega
  have hr : ps[k]? = some ps[k] := List.getElem?_eq_getElem hk
  generalize ps[k] = r at hr
  obtain ⟨a, ha, hta⟩ := PathsV.get pv2 hr
  obtain ⟨e, he⟩ := ok2 r (List.mem_of_getElem? hr)
  have hrl := part_len he
  have hta3 := pot_tup p12.ok p3 _ _ hta
  have p13 := p12.trans p3
  refine ⟨l, ws, _, _, rfl, rfl, SqL.of (p3.kp _ _ hl2 nlp), atI_nat ha, ?_⟩
  have fin : ∀ (u : V) (c : PyData) (H4 : Hp), PotAt p H H4 -> H4 a = some (.tup (r.map iV)) -> Dt p H4 u c -> Gd (2 * n + 10) (m + 2) c -> spWith 20 [v, .ref a, u] H4 Q E0 := fun u c H4 p4 ha4 ru gc =>
   with_sp (n := 20) (Dt.keep (fun b o e n => p4.kp b o e n) rd) ha4 ru he (by omega) (by omega) fun u' H5 S5 ru' =>
    q u' _ H5 (p4.trans (pot_of_same p4.ok S5)) (ru' p (pot_in p4.ok) (Dt.keep (fun b o e n => p4.kp b o e n) rd) ru) ((put_gd gd he gc).mono (by omega) (by omega))
  refine ⟨_, rfl, rfl, _, rfl, ?_⟩
  refine ite2 (fun h0 => ?_) (fun h0 => ?_)
  ·refine ⟨_, rfl, _, rfl, _, rfl, odd_sp p3.ok fun u c H4 p4 hu4 gc => ?_⟩
   exact fin u c H4 (p13.trans p4) (pot_tup p3.ok p4 _ _ hta3) (hu4 p (pot_in p3.ok)) (gc.mono (by omega) (by omega))
  ·have hw : ¬ V.int wy = V.int 0 := fun z => h0 (decide_eq_true z)
   obtain ⟨j, rfl⟩ := Int.eq_ofNat_of_zero_le a0
   have hj : j ≠ 0 := fun z => hw (by rw [z]; rfl)
   refine ⟨_, rfl, _, rfl, _, rfl, _, rfl, _, rfl, part_sp (Dt.keep (fun b o e n => p13.kp b o e n) rd) hta3 he fun u ru => ⟨_, rfl, ?_⟩⟩
   refine turned_sp (n := n) (m := m) p3.ok ru (part_gd gd he) hn (by omega) (by omega) fun u2 c H4 p4 ru2 gc => ?_
   exact fin u2 c H4 (p13.trans p4) (pot_tup p3.ok p4 _ _ hta3) ru2 gc
end
end K31
namespace K31
open PySem L2 PySem.W HT
theorem boot_min : bootBuiltins "min" = some (.builtin "min") := by decide +kernel
theorem boot_repr : bootBuiltins "repr" = some (.builtin "repr") := by decide +kernel
theorem nm_okc {x : Str} (h : Nm x) : lf (.str x) = true := str_lf (by simp only [List.all_eq_true, decide_eq_true_eq]; exact fun c hc => by have := h.az c hc; omega)
theorem Stp.gd {d : PyData} (s : Stp d) : Gd 20 1 d := by
 cases s with
 | add n h => exact ⟨by simp only [lf, lfs, Bool.and_true, Bool.and_eq_true, decide_eq_true_eq]; exact ⟨by decide +kernel, h⟩, by show PyData.bulkAll [.str "add", .int n] <= 20; simp only [PyData.bulkAll, PyData.bulk]; exact (by decide +kernel : (("add" : Str).length + 1 + (0 + 1 + 0)) <= 20), by simp [PyData.depth, PyData.depthAll]⟩
 | times n lo hi => exact ⟨by simp only [lf, lfs, Bool.and_true, Bool.and_eq_true, decide_eq_true_eq]; exact ⟨by decide +kernel, by omega⟩, by show PyData.bulkAll [.str "times", .int n] <= 20; simp only [PyData.bulkAll, PyData.bulk]; exact (by decide +kernel : (("times" : Str).length + 1 + (0 + 1 + 0)) <= 20), by simp [PyData.depth, PyData.depthAll]⟩
 | onward => exact ⟨by decide +kernel, by decide +kernel, by decide +kernel⟩
 | ask x h =>
  have : x.cps.size <= 8 := h.hi
  have := nm_okc h
  refine ⟨by simp only [lfs, lf, Bool.and_true, Bool.and_eq_true]; simp only [lf] at this; exact ⟨by decide +kernel, this⟩, ?_, by simp [PyData.depth, PyData.depthAll]⟩
  show PyData.bulkAll [.str "ask", .str x] <= 20
  simp only [PyData.bulkAll, PyData.bulk]
  have e : ("ask" : Str).cps.size = 3 := by decide +kernel
  omega
theorem stps_gd : ∀ {ds : List PyData}, (∀ d ∈ ds, Stp d) -> lfs ds = true /\ PyData.bulkAll ds <= 21 * ds.length /\ PyData.depthAll ds <= 1
 | [], _ => ⟨rfl, Nat.zero_le _, Nat.zero_le _⟩
 | d :: ds, h => by
  have g := (h d List.mem_cons_self).gd
  obtain ⟨a, b, c⟩ := stps_gd (ds := ds) fun e he => h e (List.mem_cons_of_mem _ he)
  have g1 := g.bulk
  have g2 := g.dep
  refine ⟨by simp only [lfs, g.leaf, a, Bool.and_self], ?_, ?_⟩
  ·simp only [PyData.bulkAll, List.length_cons]; omega
  ·simp only [PyData.depthAll]; omega
theorem Ent.gd {d : PyData} (s : Ent d) : Gd 100 3 d := by
 cases s with
 | plain n h => exact ⟨by simp only [lf, lfs, Bool.and_true, Bool.and_eq_true, decide_eq_true_eq]; exact ⟨by decide +kernel, h⟩, by show PyData.bulkAll [.str "plain", .int n] <= 100; simp only [PyData.bulkAll, PyData.bulk]; exact (by decide +kernel : (("plain" : Str).length + 1 + (0 + 1 + 0)) <= 100), by simp [PyData.depth, PyData.depthAll]⟩
 | ahead x n h hn =>
  have : x.cps.size <= 8 := h.hi
  have := nm_okc h
  refine ⟨by simp only [lfs, lf, Bool.and_true, Bool.and_eq_true, decide_eq_true_eq]; simp only [lf] at this; exact ⟨by decide +kernel, this, hn⟩, ?_, by simp [PyData.depth, PyData.depthAll]⟩
  show PyData.bulkAll [.str "ahead", .str x, .int n] <= 100
  simp only [PyData.bulkAll, PyData.bulk]
  have e : ("ahead" : Str).cps.size = 5 := by decide +kernel
  omega
 | behind ds h4 hs =>
  obtain ⟨a, b, c⟩ := stps_gd hs
  refine ⟨by simp only [lfs, lf, Bool.and_true, Bool.and_eq_true]; exact ⟨by decide +kernel, a⟩, ?_, ?_⟩
  ·show PyData.bulkAll [.str "behind", .tuple ds] <= 100
   simp only [PyData.bulkAll, PyData.bulk]
   have e : ("behind" : Str).cps.size = 6 := by decide +kernel
   omega
  ·simp only [PyData.depth, PyData.depthAll]; omega
 | shut ds h4 hs =>
  obtain ⟨a, b, c⟩ := stps_gd hs
  refine ⟨by simp only [lfs, lf, Bool.and_true, Bool.and_eq_true]; exact ⟨by decide +kernel, a⟩, ?_, ?_⟩
  ·show PyData.bulkAll [.str "shut", .tuple ds] <= 100
   simp only [PyData.bulkAll, PyData.bulk]
   have e : ("shut" : Str).cps.size = 4 := by decide +kernel
   omega
  ·simp only [PyData.depth, PyData.depthAll]; omega
theorem Stp.dt {p : Addr} {H : Hp} {v : V} {d : PyData} (s : Stp d) (r : Rep H v d) (np : ∀ b xs, H b = some (.tup xs) -> b ≠ p) : Dt p H v d := by
 cases s with
 | add n =>
  obtain ⟨a, u, rfl, ha, r1⟩ := two1 r
  obtain rfl := r1.intI
  exact .tup (np _ _ ha) ha (.cons (.str _) (.cons (.int _) .nil))
 | times n =>
  obtain ⟨a, u, rfl, ha, r1⟩ := two1 r
  obtain rfl := r1.intI
  exact .tup (np _ _ ha) ha (.cons (.str _) (.cons (.int _) .nil))
 | ask x =>
  obtain ⟨a, u, rfl, ha, r1⟩ := two1 r
  obtain rfl := r1.strI
  exact .tup (np _ _ ha) ha (.cons (.str _) (.cons (.str _) .nil))
 | onward =>
  obtain ⟨a, vs, rfl, ha, rs⟩ := r.tupI
  obtain ⟨v0, w0, rfl, r0, rs⟩ := rs.consI
  obtain rfl := rs.nilI
  obtain rfl := r0.strI
  exact .tup (np _ _ ha) ha (.cons (.str _) .nil)
theorem stps_dt {p : Addr} {H : Hp} (np : ∀ b xs, H b = some (.tup xs) -> b ≠ p) : ∀ {vs : List V} {ds : List PyData}, RepAll H vs ds -> (∀ d ∈ ds, Stp d) -> Dts p H vs ds
 | _, _, .nil, _ => .nil
 | _, _, .cons r rs, h => .cons ((h _ List.mem_cons_self).dt r np) (stps_dt np rs fun d hd => h d (List.mem_cons_of_mem _ hd))
theorem Ent.dt {p : Addr} {H : Hp} {v : V} {d : PyData} (s : Ent d) (r : Rep H v d) (np : ∀ b xs, H b = some (.tup xs) -> b ≠ p) : Dt p H v d := by
 cases s with
 | plain n =>
  obtain ⟨a, u, rfl, ha, r1⟩ := two1 r
  obtain rfl := r1.intI
  exact .tup (np _ _ ha) ha (.cons (.str _) (.cons (.int _) .nil))
 | ahead x n =>
  obtain ⟨a, vs, rfl, ha, rs⟩ := r.tupI
  obtain ⟨v0, w0, rfl, r0, rs⟩ := rs.consI
  obtain ⟨v1, w1, rfl, r1, rs⟩ := rs.consI
  obtain ⟨v2, w2, rfl, r2, rs⟩ := rs.consI
  obtain rfl := rs.nilI
  obtain rfl := r0.strI
  obtain rfl := r1.strI
  obtain rfl := r2.intI
  exact .tup (np _ _ ha) ha (.cons (.str _) (.cons (.str _) (.cons (.int _) .nil)))
 | behind ds h4 hs =>
  obtain ⟨a, u, rfl, ha, r1⟩ := two1 r
  obtain ⟨b, vs, rfl, hb, rs⟩ := r1.tupI
  exact .tup (np _ _ ha) ha (.cons (.str _) (.cons (.tup (np _ _ hb) hb (stps_dt np rs hs)) .nil))
 | shut ds h4 hs =>
  obtain ⟨a, u, rfl, ha, r1⟩ := two1 r
  obtain ⟨b, vs, rfl, hb, rs⟩ := r1.tupI
  exact .tup (np _ _ ha) ha (.cons (.str _) (.cons (.tup (np _ _ hb) hb (stps_dt np rs hs)) .nil))
section
variable {P : Program} {w : World} {K : Frag} {mg : Str -> Option Value} {base : Heap} {f : Addr} {fd : FuncData}
theorem pot_sp {a : Addr} {ns : List Int} {k : Int} {H : Hp} {Q : VK} {E : XK} (h : SqL K H a (ns.map V.int)) (k0 : 0 <= k) (k1 : k <= 100) (hl : ns.length <= 63) (q : ∀ p H', H p = none -> PotOk p H' -> Same H H' -> Q (.ref p) H') : spPot K [.ref a, .int k] H Q E := by
 unfold spPot
 exact ⟨a, ns, k, rfl, h, k0, k1, hl, fun p x y hp x0 y0 y1 => q p _ hp ⟨x, y, upd_same, x0, y0, y1⟩ (same_new hp)⟩
theorem names_sp {p : Addr} {m : Nat} {H : Hp} {Q : VK} {E : XK} (h : PotOk p H) (hm : m <= 20) (q : ∀ (l : Addr) (ys : List Str) (H' : Hp), H l = none -> ys.length = m -> (∀ y ∈ ys, Nm y) -> ys.Nodup -> PotAt p H H' -> H' l = some (.lst (ys.map V.str)) -> Q (.ref l) H') : spNames [.ref p, .int m] H Q E := by
 unfold spNames; exact ⟨p, m, rfl, h, hm, q⟩
theorem sqL_same {H H' : Hp} {a : Addr} {xs : List V} (h : SqL K H a xs) (s : Same H H') : SqL K H' a xs := by
 rcases h with (h | ⟨o, h⟩) | h
 ·exact .inl (.inl (s _ _ h))
 ·exact .inl (.inr ⟨o, s _ _ h⟩)
 ·exact .inr h
def bnd : Nat -> Nat
 | 0 => 100
 | 1 => 310
 | _ => 940
def dpt : Nat -> Nat
 | 0 => 3
 | 1 => 8
 | _ => 18
@[irreducible] def spLaw (K : Frag) : Sp := fun vs H Q _ => ∃ (a : Addr) (ns : List Int), vs = [.ref a] /\ SqL K H a (ns.map V.int) /\ ns.length <= 63 /\ ∀ H', Q (.bl true) H'
abbrev nLaw : List Str := ["_law_script", "_law_k", "_law_pot_here", "_law_spoils", "_law_thing", "_law_turn", "_law_ahead", "_law_told"]
theorem scLaw : FnScope nLaw ["_law_script"] (defScope sLaw) := ⟨rfl, rfl, rfl, by decide +kernel, rfl, by decide +kernel, by decide +kernel⟩
theorem ok_law {fP fD fN fE fS fI fJ : Addr} {dP dD dN dE dS dI dJ : FuncData} (F : Fun K "law" "law" sLaw f fd) (B : Blt mg) (B2 : Blt2 mg) (B3 : Blt3 mg) (br : mg "repr" = none)
  (GP : FnOk P w K mg base CX0 1 fP dP ["_law_script", "_law_k"] (spPot K)) (kP : keepIn K (.ref fP) = true) (bP : Binds K dP ["_law_script", "_law_k"] []) (mP : mg "_law_pot" = some (.ref fP))
  (GD : FnOk P w K mg base CX0 1 fD dD ["_law_pot_here", "_law_many"] spDigit) (kD : keepIn K (.ref fD) = true) (bD : Binds K dD ["_law_pot_here", "_law_many"] []) (mD : mg "_law_digit" = some (.ref fD))
  (GN : FnOk P w K mg base CX0 3 fN dN ["_law_pot_here", "_law_many"] spNames) (kN : keepIn K (.ref fN) = true) (bN : Binds K dN ["_law_pot_here", "_law_many"] []) (mN : mg "_law_names" = some (.ref fN))
  (GE : FnOk P w K mg base CX0 4 fE dE ["_law_pot_here", "_law_names_here", "_law_at"] spEnt) (kE : keepIn K (.ref fE) = true) (bE : Binds K dE ["_law_pot_here", "_law_names_here", "_law_at"] []) (mE : mg "_law_entry" = some (.ref fE))
  (GS : FnOk P w K mg base CX0 22 fS dS ["_law_pot_here", "_law_thing"] spSpoilt) (kS : keepIn K (.ref fS) = true) (bS : Binds K dS ["_law_pot_here", "_law_thing"] []) (mS : mg "_law_spoilt" = some (.ref fS))
  (GI : FnOk P w K mg base CX0 4 fI dI ["thing"] spIEnt) (kI : keepIn K (.ref fI) = true) (bI : Binds K dI ["thing"] []) (mI : mg "is_entry" = some (.ref fI))
  (GJ : FnOk P w K mg base CX0 3 fJ dJ ["_law_thing"] spIEnt) (kJ : keepIn K (.ref fJ) = true) (bJ : Binds K dJ ["_law_thing"] []) (mJ : mg "_law_is_entry" = some (.ref fJ)) :
  FnOk P w K mg base CX0 23 f fd ["_law_script"] (spLaw K) := by
 refine F.ok scLaw (fun vs H Q E h => ?_) (fun cdv A outer s H vs Q E hr h => ?_)
 ·unfold spLaw at h; obtain ⟨a, ns, rfl, _⟩ := h; rfl
 ·unfold spLaw at h
  obtain ⟨a, sc, rfl, hS, hns, q⟩ := h
  have hu := hr.units
  have hg := hr.gd
  have hr22 : Room 22 _ := hr
  have hr4 : Room 4 _ := hr22.mono (by decide)
  have hr3 : Room 3 _ := hr22.mono (by decide)
  have hr1 : Room 1 _ := hr22.mono (by decide)
  refine ⟨_, pss_cons (ps_for PassesOwn.never rfl (pi_range1 rfl B.range (pa_cons (pe_op op_add (pe_callB (call_min2 rfl) rfl B.min boot_min (pa_cons (pe_callB call_len_seq rfl B.len boot_len (pa_cons (pv 0) pa_nil)) (pa_cons pe_int pa_nil))) pe_int) pa_nil)) (pg_name (i := 1) scLaw.nd rfl (Or.inl rfl))
    (pss_cons (ps_set (i := 2) scLaw.nd rfl (Or.inl rfl) (pe_call GP hr1 rfl mP kP bP .nil pass0 (pa_cons (pv 0) (pa_cons (pv 1) pa_nil))))
    (pss_cons (ps_set (i := 3) scLaw.nd rfl (Or.inl rfl) (pe_call GD hr1 rfl mD kD bD .nil pass0 (pa_cons (pv 2) (pa_cons pe_int pa_nil))))
    (pss_cons (ps_set (i := 4) scLaw.nd rfl (Or.inl rfl) (pe_call GE hr4 rfl mE kE bE .nil pass0 (pa_cons (pv 2) (pa_cons (pe_call GN hr3 rfl mN kN bN .nil pass0 (pa_cons (pv 2) (pa_cons pe_int pa_nil))) (pa_cons pe_int pa_nil)))))
    (pss_cons (ps_for PassesOwn.never rfl (pi_range1 rfl B.range (pa_cons (pv 3) pa_nil)) (pg_name (i := 5) scLaw.nd rfl (Or.inl rfl))
     (pss_one (ps_set (i := 4) scLaw.nd rfl (Or.inl rfl) (pe_call GS hr22 rfl mS kS bS .nil pass0 (pa_cons (pv 2) (pa_cons (pv 4) pa_nil))))))
    (pss_cons (ps_set (i := 6) scLaw.nd rfl (Or.inl rfl) (pe_callB (call_reprG hu hg) rfl br boot_repr (pa_cons (pv 4) pa_nil)))
    (pss_cons (ps_set (i := 7) scLaw.nd rfl (Or.inl rfl) (pe_call GI hr4 rfl mI kI bI .nil pass0 (pa_cons (pv 4) pa_nil)))
    (pss_one (ps_if (PW.pt (pw_or (pt_not (pt_val (pe_callB call_isi rfl B2.isi boot_isi (pa_cons (pv 7) (pa_cons (pe_bltn (v := .ty "bool") rfl B3.bool boot_bool rfl) pa_nil)))))
     (pw_or (pt_cmpR op_ne (pv 7) (pe_call GJ hr3 rfl mJ kJ bJ .nil pass0 (pa_cons (pv 4) pa_nil)) (nomark _))
     (pw_or1 (pt_cmpR op_ne (pe_callB (call_reprG hu hg) rfl br boot_repr (pa_cons (pv 4) pa_nil)) (pv 6) (nomark _)))))) (pss_one (ps_ret pe_bl)) pss_nil)))))))))
   (pss_one (ps_ret pe_bl)), ?_⟩
  refine ⟨_, rfl, a, _, rfl, .inl hS, ?_⟩
  rw [List.length_map]
  refine ⟨_, _, rfl, _, _, rfl, rfl, _, rfl, ?_, ?_, for_range (fun i σ H1 => ∃ v1 v2 v3 v4 v5 v6 v7 : Option V, σ = [some (.ref a), v1, v2, v3, v4, v5, v6, v7] /\ Same H H1) ⟨none, none, none, none, none, none, none, rfl, Same.refl _⟩ (fun i σ H1 hi hP => ?_) (fun σ H1 _ => q _)⟩
  ·split <;> omega
  ·split <;> (try split) <;> omega
  ·obtain ⟨v1, v2, v3, v4, v5, v6, v7, rfl, S1⟩ := hP
   have hi41 : i < 41 := by
    refine Nat.lt_of_lt_of_le hi ?_
    split <;> (try split) <;> omega
   refine ⟨_, rfl, _, rfl, pot_sp (sqL_same hS S1) (by omega) (by omega) hns fun p H2 hp pk S2 => ?_⟩
   refine ⟨_, rfl, digit_sp (p := p) (m := 3) pk (by decide) (by decide) fun dsp H3 a0 a1 p3 => ?_⟩
   refine ⟨_, rfl, _, rfl, names_sp (m := 3) p3.ok (by decide) fun l ys H4 hl hyl ynm ynd p4 h4 => ?_⟩
   refine ent_sp (k := 0) p4.ok h4 (fun z => by rw [z] at hyl; cases hyl) (by omega) ynm fun v d H5 p5 r5 en => ?_
   have p25 := (p3.trans p4).trans p5
   have np5 : ∀ b xs, H5 b = some (.tup xs) -> b ≠ p := fun b xs e => by
    obtain ⟨x, y, e2, _⟩ := p25.ok
    exact ne_of e e2 (by intro z; cases z)
   have rd5 := en.dt r5 np5
   have gd5 := en.gd
   refine ⟨_, rfl, dsp, rfl, by omega, by omega, for_range (fun j σ H6 => ∃ (u : V) (e : PyData) (w5 : Option V), σ = [some (.ref a), some (.int (0 + (i : Int))), some (.ref p), some (.int dsp), some u, w5, v6, v7] /\ PotAt p H2 H6 /\ Dt p H6 u e /\ Gd (bnd j) (dpt j) e) ⟨v, d, v5, rfl, p25, rd5, gd5⟩ (fun j σ H6 hj hP => ?_) (fun σ H6 hP => ?_)⟩
   ·obtain ⟨u, e, w5, rfl, p6, ru, ge⟩ := hP
    have hj2 : j = 0 \/ j = 1 := by omega
    refine ⟨_, rfl, _, rfl, spoilt_sp p6.ok ru ge (by rcases hj2 with rfl | rfl <;> decide) (by rcases hj2 with rfl | rfl <;> decide) fun u2 e2 H7 p7 ru2 ge2 => ?_⟩
    exact ⟨u2, e2, _, rfl, p6.trans p7, ru2, ge2.mono (by rcases hj2 with rfl | rfl <;> decide) (by rcases hj2 with rfl | rfl <;> decide)⟩
   ·obtain ⟨u, e, w5, rfl, p6, ru, ge0⟩ := hP
    have ge : Gd 940 18 e := ge0.mono (by unfold bnd; split <;> decide) (by unfold dpt; split <;> decide)
    obtain ⟨sh, sl⟩ := ge.shown (by decide)
    have gb := ge.bulk
    have gdp := ge.dep
    have hsm : Sm e := by unfold Sm; omega
    refine ⟨_, rfl, p, u, e, rfl, ru, sh, by omega, sl, ?_⟩
    refine ⟨_, rfl, ient_sp ru hsm fun H7 S7 => ?_⟩
    have ru7 := Dt.same ru S7
    refine ⟨_, rfl, isi_sp kit_bool (.bl (p := p) (entryD e)) ⟨_, rfl, ?_⟩⟩
    refine ⟨_, rfl, _, rfl, ient_sp ru7 hsm fun H8 S8 => ⟨rfl, _, rfl, ?_⟩⟩
    rw [decide_eq_true (rfl : V.bl (entryD e) = V.bl (entryD e))]
    refine ⟨_, rfl, p, u, e, rfl, Dt.same ru7 S8, sh, by omega, sl, _, rfl, rfl, _, rfl, ?_⟩
    rw [decide_eq_true (rfl : V.str e.shown = V.str e.shown)]
    exact ⟨_, _, _, _, _, _, _, rfl, fun b o z => S8 _ _ (S7 _ _ (p6.kp b o (S2 _ _ (S1 _ _ z)) (ne_of_none (S1 _ _ z) hp)))⟩
end
end K31
namespace K31
open PySem L2 PySem.W
theorem all_mk {l : OpenLaw} {w : World} {K : Frag} {h : Heap} {mg : Str -> Option Value} {fa fIw fNm fIe fAs fIs fBw fP fD fN fNu fSt fEn fPz fPt fWi fOd fTu fSp fLn fLw fLt fLe fL  : Addr} (X : K.In h) (G : h.Ns mainGlobals mg) (hfa : mg "law" = some (.ref fa))
  {odIw anIw odNm anNm odIe anIe odAs anAs odIs anIs odBw anBw odP anP odD anD odN anN odNu anNu odSt anSt odEn anEn odPz anPz odPt anPt odWi anWi odOd anOd odTu anTu odSp anSp odLn anLn odLw anLw odLt anLt odLe anLe odL anL : Option Addr} {slIw slNm slIe slAs slIs slBw slP slD slN slNu slSt slEn slPz slPt slWi slOd slTu slSp slLn slLw slLt slLe slL : Array (Option Value)} {ocIw kVIw dcIw pmIw cdIw ctIw ocNm kVNm dcNm pmNm cdNm ctNm ocIe kVIe dcIe pmIe cdIe ctIe ocAs kVAs dcAs pmAs cdAs ctAs ocIs kVIs dcIs pmIs cdIs ctIs ocBw kVBw dcBw pmBw cdBw ctBw ocP kVP dcP pmP cdP ctP ocD kVD dcD pmD cdD ctD ocN kVN dcN pmN cdN ctN ocNu kVNu dcNu pmNu cdNu ctNu ocSt kVSt dcSt pmSt cdSt ctSt ocEn kVEn dcEn pmEn cdEn ctEn ocPz kVPz dcPz pmPz cdPz ctPz ocPt kVPt dcPt pmPt cdPt ctPt ocWi kVWi dcWi pmWi cdWi ctWi ocOd kVOd dcOd pmOd cdOd ctOd ocTu kVTu dcTu pmTu cdTu ctTu ocSp kVSp dcSp pmSp cdSp ctSp ocLn kVLn dcLn pmLn cdLn ctLn ocLw kVLw dcLw pmLw cdLw ctLw ocLt kVLt dcLt pmLt cdLt ctLt ocLe kVLe dcLe pmLe cdLe ctLe ocL kVL dcL pmL cdL ctL : Value}
  {tkS : Tok}
  {tkT : Tok}
  (fIwa : nsIn K mainGlobals "is_whole" = some (some (.ref fIw)))
  (fIwl : K.lookup fIw = some (fnR ocIw odIw "is_whole" "is_whole" sIsWhole .none kVIw dcIw pmIw anIw cdIw ctIw slIw))
  (fIwc : codeIn K cdIw "is_whole" = true)
  (fIwk : keepIn K (.ref fIw) = true)
  (fNma : nsIn K mainGlobals "is_name" = some (some (.ref fNm)))
  (fNml : K.lookup fNm = some (fnR ocNm odNm "is_name" "is_name" sIsName .none kVNm dcNm pmNm anNm cdNm ctNm slNm))
  (fNmc : codeIn K cdNm "is_name" = true)
  (fNmk : keepIn K (.ref fNm) = true)
  (fIea : nsIn K mainGlobals "is_entry" = some (some (.ref fIe)))
  (fIel : K.lookup fIe = some (fnR ocIe odIe "is_entry" "is_entry" sIsEntry .none kVIe dcIe pmIe anIe cdIe ctIe slIe))
  (fIec : codeIn K cdIe "is_entry" = true)
  (fIek : keepIn K (.ref fIe) = true)
  (fAsa : nsIn K mainGlobals "are_steps" = some (some (.ref fAs)))
  (fAsl : K.lookup fAs = some (fnR ocAs odAs "are_steps" "are_steps" sAreSteps .none kVAs dcAs pmAs anAs cdAs ctAs slAs))
  (fAsc : codeIn K cdAs "are_steps" = true)
  (fAsk : keepIn K (.ref fAs) = true)
  (fIsa : nsIn K mainGlobals "is_step" = some (some (.ref fIs)))
  (fIsl : K.lookup fIs = some (fnR ocIs odIs "is_step" "is_step" sIsStep .none kVIs dcIs pmIs anIs cdIs ctIs slIs))
  (fIsc : codeIn K cdIs "is_step" = true)
  (fIsk : keepIn K (.ref fIs) = true)
  (fBwa : nsIn K mainGlobals "begins_with_text" = some (some (.ref fBw)))
  (fBwl : K.lookup fBw = some (fnR ocBw odBw "begins_with_text" "begins_with_text" sBegins .none kVBw dcBw pmBw anBw cdBw ctBw slBw))
  (fBwc : codeIn K cdBw "begins_with_text" = true)
  (fBwk : keepIn K (.ref fBw) = true)
  (fPa : nsIn K mainGlobals "_law_pot" = some (some (.ref fP)))
  (fPl : K.lookup fP = some (fnR ocP odP "_law_pot" "_law_pot" sPot .none kVP dcP pmP anP cdP ctP slP))
  (fPc : codeIn K cdP "_law_pot" = true)
  (fPk : keepIn K (.ref fP) = true)
  (fDa : nsIn K mainGlobals "_law_digit" = some (some (.ref fD)))
  (fDl : K.lookup fD = some (fnR ocD odD "_law_digit" "_law_digit" sDigit .none kVD dcD pmD anD cdD ctD slD))
  (fDc : codeIn K cdD "_law_digit" = true)
  (fDk : keepIn K (.ref fD) = true)
  (fNa : nsIn K mainGlobals "_law_names" = some (some (.ref fN)))
  (fNl : K.lookup fN = some (fnR ocN odN "_law_names" "_law_names" sNames .none kVN dcN pmN anN cdN ctN slN))
  (fNc : codeIn K cdN "_law_names" = true)
  (fNk : keepIn K (.ref fN) = true)
  (fNua : nsIn K mainGlobals "_law_number" = some (some (.ref fNu)))
  (fNul : K.lookup fNu = some (fnR ocNu odNu "_law_number" "_law_number" sNumber .none kVNu dcNu pmNu anNu cdNu ctNu slNu))
  (fNuc : codeIn K cdNu "_law_number" = true)
  (fNuk : keepIn K (.ref fNu) = true)
  (fSta : nsIn K mainGlobals "_law_step" = some (some (.ref fSt)))
  (fStl : K.lookup fSt = some (fnR ocSt odSt "_law_step" "_law_step" sStep .none kVSt dcSt pmSt anSt cdSt ctSt slSt))
  (fStc : codeIn K cdSt "_law_step" = true)
  (fStk : keepIn K (.ref fSt) = true)
  (fEna : nsIn K mainGlobals "_law_entry" = some (some (.ref fEn)))
  (fEnl : K.lookup fEn = some (fnR ocEn odEn "_law_entry" "_law_entry" sEntry .none kVEn dcEn pmEn anEn cdEn ctEn slEn))
  (fEnc : codeIn K cdEn "_law_entry" = true)
  (fEnk : keepIn K (.ref fEn) = true)
  (fPza : nsIn K mainGlobals "_law_paths" = some (some (.ref fPz)))
  (fPzl : K.lookup fPz = some (fnR ocPz odPz "_law_paths" "_law_paths" sPaths .none kVPz dcPz pmPz anPz cdPz ctPz slPz))
  (fPzc : codeIn K cdPz "_law_paths" = true)
  (fPzk : keepIn K (.ref fPz) = true)
  (fPta : nsIn K mainGlobals "_law_part" = some (some (.ref fPt)))
  (fPtl : K.lookup fPt = some (fnR ocPt odPt "_law_part" "_law_part" sPart .none kVPt dcPt pmPt anPt cdPt ctPt slPt))
  (fPtc : codeIn K cdPt "_law_part" = true)
  (fPtk : keepIn K (.ref fPt) = true)
  (fWia : nsIn K mainGlobals "_law_with" = some (some (.ref fWi)))
  (fWil : K.lookup fWi = some (fnR ocWi odWi "_law_with" "_law_with" sWith .none kVWi dcWi pmWi anWi cdWi ctWi slWi))
  (fWic : codeIn K cdWi "_law_with" = true)
  (fWik : keepIn K (.ref fWi) = true)
  (fOda : nsIn K mainGlobals "_law_odd" = some (some (.ref fOd)))
  (fOdl : K.lookup fOd = some (fnR ocOd odOd "_law_odd" "_law_odd" sOdd .none kVOd dcOd pmOd anOd cdOd ctOd slOd))
  (fOdc : codeIn K cdOd "_law_odd" = true)
  (fOdk : keepIn K (.ref fOd) = true)
  (fTua : nsIn K mainGlobals "_law_turned" = some (some (.ref fTu)))
  (fTul : K.lookup fTu = some (fnR ocTu odTu "_law_turned" "_law_turned" sTurned .none kVTu dcTu pmTu anTu cdTu ctTu slTu))
  (fTuc : codeIn K cdTu "_law_turned" = true)
  (fTuk : keepIn K (.ref fTu) = true)
  (fSpa : nsIn K mainGlobals "_law_spoilt" = some (some (.ref fSp)))
  (fSpl : K.lookup fSp = some (fnR ocSp odSp "_law_spoilt" "_law_spoilt" sSpoilt .none kVSp dcSp pmSp anSp cdSp ctSp slSp))
  (fSpc : codeIn K cdSp "_law_spoilt" = true)
  (fSpk : keepIn K (.ref fSp) = true)
  (fLna : nsIn K mainGlobals "_law_is_name" = some (some (.ref fLn)))
  (fLnl : K.lookup fLn = some (fnR ocLn odLn "_law_is_name" "_law_is_name" sLName .none kVLn dcLn pmLn anLn cdLn ctLn slLn))
  (fLnc : codeIn K cdLn "_law_is_name" = true)
  (fLnk : keepIn K (.ref fLn) = true)
  (fLwa : nsIn K mainGlobals "_law_is_whole" = some (some (.ref fLw)))
  (fLwl : K.lookup fLw = some (fnR ocLw odLw "_law_is_whole" "_law_is_whole" sLWhole .none kVLw dcLw pmLw anLw cdLw ctLw slLw))
  (fLwc : codeIn K cdLw "_law_is_whole" = true)
  (fLwk : keepIn K (.ref fLw) = true)
  (fLta : nsIn K mainGlobals "_law_is_step" = some (some (.ref fLt)))
  (fLtl : K.lookup fLt = some (fnR ocLt odLt "_law_is_step" "_law_is_step" sLStep .none kVLt dcLt pmLt anLt cdLt ctLt slLt))
  (fLtc : codeIn K cdLt "_law_is_step" = true)
  (fLtk : keepIn K (.ref fLt) = true)
  (fLea : nsIn K mainGlobals "_law_is_entry" = some (some (.ref fLe)))
  (fLel : K.lookup fLe = some (fnR ocLe odLe "_law_is_entry" "_law_is_entry" sLEntry .none kVLe dcLe pmLe anLe cdLe ctLe slLe))
  (fLec : codeIn K cdLe "_law_is_entry" = true)
  (fLek : keepIn K (.ref fLe) = true)
  (fLa : nsIn K mainGlobals "law" = some (some (.ref fL)))
  (fLl : K.lookup fL = some (fnR ocL odL "law" "law" sLaw .none kVL dcL pmL anL cdL ctL slL))
  (fLc : codeIn K cdL "law" = true)
  (fLk : keepIn K (.ref fL) = true)
  (zlen : nsIn K mainGlobals "len" = some none)
  (zmax : nsIn K mainGlobals "max" = some none)
  (zmin : nsIn K mainGlobals "min" = some none)
  (zabs : nsIn K mainGlobals "abs" = some none)
  (zrange : nsIn K mainGlobals "range" = some none)
  (zany : nsIn K mainGlobals "any" = some none)
  (zall : nsIn K mainGlobals "all" = some none)
  (zlist : nsIn K mainGlobals "list" = some none)
  (ztuple : nsIn K mainGlobals "tuple" = some none)
  (zenumerate : nsIn K mainGlobals "enumerate" = some none)
  (zisinstance : nsIn K mainGlobals "isinstance" = some none)
  (zstr : nsIn K mainGlobals "str" = some none)
  (zdict : nsIn K mainGlobals "dict" = some none)
  (zsorted : nsIn K mainGlobals "sorted" = some none)
  (zint : nsIn K mainGlobals "int" = some none)
  (zbool : nsIn K mainGlobals "bool" = some none)
  (zrepr : nsIn K mainGlobals "repr" = some none)
  (zSteps : nsIn K mainGlobals "MOST_STEPS" = some (some (.int 4 tkS)))
  (zTimes : nsIn K mainGlobals "MOST_TIMES" = some (some (.int 9 tkT))) :
  ∃ fd : FuncData, (∀ (s : Shared) (v : Value), BindsTo s fd ⟨[v], []⟩ [("_law_script", v)]) /\ ∀ base : Heap, K.In base -> base.Ns mainGlobals mg -> FnOk l.prog w K mg base CX0 23 fa fd ["_law_script"] (spLaw K) := by
 have e := hfa.symm.trans (mg_of X G fLa)
 cases e
 have Bl : Blt mg := ⟨mg_none_of X G zlen, mg_none_of X G zmax, mg_none_of X G zmin, mg_none_of X G zabs, mg_none_of X G zrange, mg_none_of X G zany, mg_none_of X G zall, mg_none_of X G zlist, mg_none_of X G ztuple, mg_none_of X G zenumerate⟩
 have B2 : Blt2 mg := ⟨mg_none_of X G zisinstance, mg_none_of X G zstr, mg_none_of X G zdict, mg_none_of X G zsorted⟩
 have B3 : Blt3 mg := ⟨mg_none_of X G zint, mg_none_of X G zbool⟩
 have FIw := fun_mk (st := sIsWhole) fIwl fIwc fIwk
 have FNm := fun_mk (st := sIsName) fNml fNmc fNmk
 have FIe := fun_mk (st := sIsEntry) fIel fIec fIek
 have FAs := fun_mk (st := sAreSteps) fAsl fAsc fAsk
 have FIs := fun_mk (st := sIsStep) fIsl fIsc fIsk
 have FBw := fun_mk (st := sBegins) fBwl fBwc fBwk
 have FP := fun_mk (st := sPot) fPl fPc fPk
 have FD := fun_mk (st := sDigit) fDl fDc fDk
 have FN := fun_mk (st := sNames) fNl fNc fNk
 have FNu := fun_mk (st := sNumber) fNul fNuc fNuk
 have FSt := fun_mk (st := sStep) fStl fStc fStk
 have FEn := fun_mk (st := sEntry) fEnl fEnc fEnk
 have FPz := fun_mk (st := sPaths) fPzl fPzc fPzk
 have FPt := fun_mk (st := sPart) fPtl fPtc fPtk
 have FWi := fun_mk (st := sWith) fWil fWic fWik
 have FOd := fun_mk (st := sOdd) fOdl fOdc fOdk
 have FTu := fun_mk (st := sTurned) fTul fTuc fTuk
 have FSp := fun_mk (st := sSpoilt) fSpl fSpc fSpk
 have FLn := fun_mk (st := sLName) fLnl fLnc fLnk
 have FLw := fun_mk (st := sLWhole) fLwl fLwc fLwk
 have FLt := fun_mk (st := sLStep) fLtl fLtc fLtk
 have FLe := fun_mk (st := sLEntry) fLel fLec fLek
 have FL := fun_mk (st := sLaw) fLl fLc fLk
 have bIw := FIw.binds (ps := ["thing"]) fun _ _ _ _ _ _ us hl => match us, hl with | [_], _ => rfl
 have bNm := FNm.binds (ps := ["thing"]) fun _ _ _ _ _ _ us hl => match us, hl with | [_], _ => rfl
 have bIe := FIe.binds (ps := ["thing"]) fun _ _ _ _ _ _ us hl => match us, hl with | [_], _ => rfl
 have bAs := FAs.binds (ps := ["thing"]) fun _ _ _ _ _ _ us hl => match us, hl with | [_], _ => rfl
 have bIs := FIs.binds (ps := ["thing"]) fun _ _ _ _ _ _ us hl => match us, hl with | [_], _ => rfl
 have bBw := FBw.binds (ps := ["thing"]) fun _ _ _ _ _ _ us hl => match us, hl with | [_], _ => rfl
 have bP := FP.binds (ps := ["_law_script", "_law_k"]) fun _ _ _ _ _ _ us hl => match us, hl with | [_, _], _ => rfl
 have bD := FD.binds (ps := ["_law_pot_here", "_law_many"]) fun _ _ _ _ _ _ us hl => match us, hl with | [_, _], _ => rfl
 have bN := FN.binds (ps := ["_law_pot_here", "_law_many"]) fun _ _ _ _ _ _ us hl => match us, hl with | [_, _], _ => rfl
 have bNu := FNu.binds (ps := ["_law_pot_here"]) fun _ _ _ _ _ _ us hl => match us, hl with | [_], _ => rfl
 have bSt := FSt.binds (ps := ["_law_pot_here", "_law_names_here", "_law_at"]) fun _ _ _ _ _ _ us hl => match us, hl with | [_, _, _], _ => rfl
 have bEn := FEn.binds (ps := ["_law_pot_here", "_law_names_here", "_law_at"]) fun _ _ _ _ _ _ us hl => match us, hl with | [_, _, _], _ => rfl
 have bPz := FPz.binds (ps := ["_law_thing"]) fun _ _ _ _ _ _ us hl => match us, hl with | [_], _ => rfl
 have bPt := FPt.binds (ps := ["_law_thing", "_law_path"]) fun _ _ _ _ _ _ us hl => match us, hl with | [_, _], _ => rfl
 have bWi := FWi.binds (ps := ["_law_thing", "_law_path", "_law_part_here"]) fun _ _ _ _ _ _ us hl => match us, hl with | [_, _, _], _ => rfl
 have bOd := FOd.binds (ps := ["_law_pot_here"]) fun _ _ _ _ _ _ us hl => match us, hl with | [_], _ => rfl
 have bTu := FTu.binds (ps := ["_law_pot_here", "_law_part_here", "_law_way"]) fun _ _ _ _ _ _ us hl => match us, hl with | [_, _, _], _ => rfl
 have bSp := FSp.binds (ps := ["_law_pot_here", "_law_thing"]) fun _ _ _ _ _ _ us hl => match us, hl with | [_, _], _ => rfl
 have bLn := FLn.binds (ps := ["_law_thing"]) fun _ _ _ _ _ _ us hl => match us, hl with | [_], _ => rfl
 have bLw := FLw.binds (ps := ["_law_thing"]) fun _ _ _ _ _ _ us hl => match us, hl with | [_], _ => rfl
 have bLt := FLt.binds (ps := ["_law_thing"]) fun _ _ _ _ _ _ us hl => match us, hl with | [_], _ => rfl
 have bLe := FLe.binds (ps := ["_law_thing"]) fun _ _ _ _ _ _ us hl => match us, hl with | [_], _ => rfl
 have mIw := mg_of X G fIwa
 have mNm := mg_of X G fNma
 have mIe := mg_of X G fIea
 have mAs := mg_of X G fAsa
 have mIs := mg_of X G fIsa
 have mBw := mg_of X G fBwa
 have mP := mg_of X G fPa
 have mD := mg_of X G fDa
 have mN := mg_of X G fNa
 have mNu := mg_of X G fNua
 have mSt := mg_of X G fSta
 have mEn := mg_of X G fEna
 have mPz := mg_of X G fPza
 have mPt := mg_of X G fPta
 have mWi := mg_of X G fWia
 have mOd := mg_of X G fOda
 have mTu := mg_of X G fTua
 have mSp := mg_of X G fSpa
 have mLn := mg_of X G fLna
 have mLw := mg_of X G fLwa
 have mLt := mg_of X G fLta
 have mLe := mg_of X G fLea
 have mL := mg_of X G fLa
 exact ⟨fnOf "law" "law" (defArgs sLaw) (defBody sLaw) (defScope sLaw) .none kVL dcL pmL anL cdL ctL, fun s v => .of_eq rfl, fun base _ _ =>
  let GNm := ok_name' FNm Bl B2
  let GBw := ok_beg FBw Bl B2
  let GIw := ok_whole FIw B2 B3
  let GIs := ok_istep FIs Bl (mg_of X G zTimes) GBw fBwk bBw mBw GNm fNmk bNm mNm GIw fIwk bIw mIw
  let GAs := ok_areS FAs Bl B2 (mg_of X G zSteps) GIs fIsk bIs mIs
  let GIe := ok_ient FIe Bl GBw fBwk bBw mBw GNm fNmk bNm mNm GIw fIwk bIw mIw GAs fAsk bAs mAs
  let GLn := ok_lname FLn Bl B2
  let GLw := ok_lwhole FLw B2 B3
  let GLt := ok_lstep FLt Bl B2 GLn fLnk bLn mLn GLw fLwk bLw mLw
  let GLe := ok_lent FLe Bl B2 GLn fLnk bLn mLn GLw fLwk bLw mLw GLt fLtk bLt mLt
  let GDg := ok_digit FD
  let GNu := ok_num FNu GDg fDk bD mD
  let GSt := ok_stp FSt Bl GDg fDk bD mD GNu fNuk bNu mNu
  let GEn := ok_ent FEn Bl GDg fDk bD mD GNu fNuk bNu mNu GSt fStk bSt mSt
  let GOd := ok_odd FOd GDg fDk bD mD
  let GTu := ok_turned FTu Bl B2 B3 GDg fDk bD mD GOd fOdk bOd mOd
  let GSp := ok_spoilt FSp Bl GDg fDk bD mD GOd fOdk bOd mOd GTu fTuk bTu mTu (ok_paths FPz Bl B2 fPzk bPz mPz 20) fPzk bPz mPz (ok_part FPt) fPtk bPt mPt (ok_with FWi Bl B2 fWik bWi mWi 20) fWik bWi mWi
  ok_law FL Bl B2 B3 (mg_none_of X G zrepr) (ok_pot FP Bl) fPk bP mP GDg fDk bD mD (ok_names FN Bl FD bD mD) fNk bN mN GEn fEnk bEn mEn GSp fSpk bSp mSp GIe fIek bIe mIe GLe fLek bLe mLe⟩
theorem walk {l : OpenLaw} {q : Program} {loose : List Str} {XP : (Str -> Option Value) -> Heap -> Prop} {YP : World -> Heap -> Prop} {d : DefRec} {K : Params -> Frag} (hn : l.most = some 63) (hdf : d.params.defaults = [])
  (hY : ∀ (w : World) (h : Heap), YP w h -> (K w.params).In h)
  (F : ∀ (w : World) (mg : Str -> Option Value) (fa : Addr) (h : Heap), (K w.params).In h -> h.Ns mainGlobals mg -> mg d.name = some (.ref fa) ->
   ∃ fd : FuncData, (∀ (s : Shared) (u : Value), BindsTo s fd ⟨[u], []⟩ [("_law_script", u)]) /\ ∀ base : Heap, (K w.params).In base -> base.Ns mainGlobals mg -> FnOk l.prog w (K w.params) mg base CX0 23 fa fd ["_law_script"] (spLaw (K w.params))) :
  WalkO q loose XP YP l.row.toRowW d [] (fun f vs => PySem.call f vs) :=
 L2.walk_of (n := 63) (k := 23) (x := "_law_script") (CX := fun _ => CX0) (sp := fun w => spLaw (K w.params)) hn (by decide) hdf ⟨rfl, by decide, by decide, rfl⟩ hY F (fun _ _ a ns hl _ hS => by unfold spLaw; exact ⟨a, ns, rfl, hS, hl, fun _ => rfl⟩) fun _ _ _ _ _ z => z
end K31
def PySem.W.Fast.tw17457271663133017842 : Nat := 0
def PySem.W.Fast.tw2608406630937640300 : Nat := 0
def PySem.W.Fast.tw15351251555101611005 : Nat := 0
def PySem.W.Fast.tw6184546585851798593 : Nat := 0
def PySem.W.Fast.tw7757524061774099922 : Nat := 0
def PySem.W.Fast.tw2965000155758148011 : Nat := 0
open PySem PySem.W PyProof.Rows
set_option maxRecDepth 100000 in
set_option maxHeartbeats 0 in
theorem PySem.Challenge.cw_parentlines_k31_entries_told_apart_holds : PySem.Challenge.rw_parentlines_k31_entries_told_apart.Holds := by
 w_on; o_law; k_head; (case hw => w_witness2)
 k_fill
 refine K31.walk (l := PySem.Challenge.rw_parentlines_k31_entries_told_apart) rfl rfl (fun w h Y => PySem.W.kIn_of Y) ?F
 case F =>
  intro w mg fa h KX G hmg
  refine' K31.all_mk KX G hmg ?qaa ?qab ?qac ?qad ?qae ?qaf ?qag ?qah ?qai ?qaj ?qak ?qal ?qam ?qan ?qao ?qap ?qaq ?qar ?qas ?qat ?qau ?qav ?qaw ?qax ?qay ?qaz ?qaA ?qaB ?qaC ?qaD ?qaE ?qaF ?qaG ?qaH ?qaI ?qaJ ?qaK ?qaL ?qaM ?qaN ?qaO ?qaP ?qaQ ?qaR ?qaS ?qaT ?qaU ?qaV ?qaW ?qaX ?qaY ?qaZ ?qba ?qbb ?qbc ?qbd ?qbe ?qbf ?qbg ?qbh ?qbi ?qbj ?qbk ?qbl ?qbm ?qbn ?qbo ?qbp ?qbq ?qbr ?qbs ?qbt ?qbu ?qbv ?qbw ?qbx ?qby ?qbz ?qbA ?qbB ?qbC ?qbD ?qbE ?qbF ?qbG ?qbH ?qbI ?qbJ ?qbK ?qbL ?qbM ?qbN ?qbO ?qbP ?qbQ ?qbR ?qbS ?qbT ?qbU ?qbV ?qbW ?qbX ?qbY ?qbZ ?qca ?qcb ?qcc ?qcd ?qce ?qcf ?qcg
  (case qaa | qab | qac | qad | qae | qaf | qag | qah | qai | qaj | qak | qal | qam | qan | qao | qap | qaq | qar | qas | qat | qau | qav | qaw | qax | qay | qaz | qaA | qaB | qaC | qaD | qaE | qaF | qaG | qaH | qaI | qaJ | qaK | qaL | qaM | qaN | qaO | qaP | qaQ | qaR | qaS | qaT | qaU | qaV | qaW | qaX | qaY | qaZ | qba | qbb | qbc | qbd | qbe | qbf | qbg | qbh | qbi | qbj | qbk | qbl | qbm | qbn | qbo | qbp | qbq | qbr | qbs | qbt | qbu | qbv | qbw | qbx | qby | qbz | qbA | qbB | qbC | qbD | qbE | qbF | qbG | qbH | qbI | qbJ | qbK | qbL | qbM | qbN | qbO | qbP | qbQ | qbR | qbS | qbT | qbU | qbV | qbW | qbX | qbY | qbZ | qca | qcb | qcc | qcd | qce | qcf | qcg => k_is)
