import PyProof.Rows.All
import Wide.All
import OpenK.AllK
import Wide.FinOn
import Lean
import PyProof.EqAt
import PyProof.EqKinds
import PyProof.TupleCall
import PyProof.ReprRoads
import PyProof.ReprBulk
import PyProof.EnumMake
import PyProof.EnumFor
import KE.KRevSl
import KE.KDictList
import PyProof.ZipIter
import PyProof.AttrMissHeap
import KE.KDictOf
import KE.KItemsList
import PyProof.Rows.ZipGen
import PyProof.CallFns
import PyProof.StrWalks
import PyProof.FString5
import KE.KSortTup
import PyProof.SetRoads
import PyProof.SetNew
import PyProof.Rows.SetFrom
import PyProof.WalksMore
import PyProof.ForAny
import PyProof.DictWalks
import PyProof.NsDelKeeps
import PySem.Challenge.RW_parentlines_k14_whole_orders_and_rings_t
set_option Elab.async false
set_option linter.all false
set_option maxRecDepth 100000
set_option maxHeartbeats 4000000
namespace L2
open PySem PySem.Spec PyProof.Rows
abbrev Key := Sum Int Str
def keyIs : Key → Value → Bool
  | .inl k, v => Value.isInt k v
  | .inr x, v => Value.isStrOf x v
def keyH (w : World) : Key → Int
  | .inl k => hashInt k
  | .inr x => hashStr w x
theorem keyIs_shape : ∀ {k : Key} {v : Value}, keyIs k v = true → (∃ i t, k = Sum.inl i ∧ v = Value.int i t) ∨ (∃ x t, k = Sum.inr x ∧ v = Value.str x t)
  | .inl i, v, h => by
    obtain ⟨t, e⟩ := Value.isInt_shape (k := i) (v := v) h
    exact .inl ⟨i, t, rfl, e⟩
  | .inr x, v, h => by
    obtain ⟨t, e⟩ := Value.isStrOf_shape (x := x) (v := v) h
    exact .inr ⟨x, t, rfl, e⟩
theorem keyIs_int (i : Int) (t : Tok) : keyIs (.inl i) (.int i t) = true := by simp [keyIs, Value.isInt]
theorem keyIs_str (x : Str) (t : Tok) : keyIs (.inr x) (.str x t) = true := by simp [keyIs, Value.isStrOf]
theorem key_ll (a b : Int) : decide ((Sum.inl a : Key) = Sum.inl b) = (a == b) := by
  by_cases e : a = b
  · subst e; simp
  · have h : ¬ (Sum.inl a : Key) = Sum.inl b := fun q => e (Sum.inl.inj q)
    rw [decide_eq_false h]
    exact (beq_eq_false_iff_ne.mpr e).symm
theorem key_rr (a b : Str) : decide ((Sum.inr a : Key) = Sum.inr b) = decide (a = b) := by
  by_cases e : a = b
  · subst e; simp
  · have h : ¬ (Sum.inr a : Key) = Sum.inr b := fun q => e (Sum.inr.inj q)
    rw [decide_eq_false h, decide_eq_false e]
theorem key_lr (a : Int) (b : Str) : decide ((Sum.inl a : Key) = Sum.inr b) = false := decide_eq_false (fun q => nomatch q)
theorem key_rl (a : Str) (b : Int) : decide ((Sum.inr a : Key) = Sum.inl b) = false := decide_eq_false (fun q => nomatch q)
def mixKind (prog : Program) (w : World) : PySem.KeyKind prog w Key where
  is := keyIs
  hash := keyH w
  inj := fun v a b ha hb => by
    rcases keyIs_shape ha with ⟨i, t, rfl, rfl⟩ | ⟨x, t, rfl, rfl⟩
    · rcases keyIs_shape hb with ⟨j, u, rfl, e⟩ | ⟨y, u, rfl, e⟩
      · injection e with e1 _; rw [e1]
      · exact nomatch e
    · rcases keyIs_shape hb with ⟨j, u, rfl, e⟩ | ⟨y, u, rfl, e⟩
      · exact nomatch e
      · injection e with e1 _; rw [e1]
  byValue := fun k v h => by
    rcases keyIs_shape h with ⟨i, t, rfl, rfl⟩ | ⟨x, t, rfl, rfl⟩ <;> rfl
  pyHash := fun hv h => by
    rcases keyIs_shape hv with ⟨i, t, rfl, rfl⟩ | ⟨x, t, rfl, rfl⟩
    · exact wpAny_pyHash_int h
    · exact wpAny_pyHash_str h
  eqBool := fun hu hv h => by
    rcases keyIs_shape hu with ⟨i, t, rfl, rfl⟩ | ⟨x, t, rfl, rfl⟩
    · rcases keyIs_shape hv with ⟨j, u, rfl, rfl⟩ | ⟨y, u, rfl, rfl⟩
      · rw [key_ll] at h; exact wpAny_eqBool_int h
      · rw [key_lr] at h; exact SeqAt.EqAt.int_str i t y u _ _ _ _ h
    · rcases keyIs_shape hv with ⟨j, u, rfl, rfl⟩ | ⟨y, u, rfl, rfl⟩
      · rw [key_rl] at h; exact SeqAt.EqAt.str_int x t j u _ _ _ _ h
      · rw [key_rr] at h; exact wpAny_eqBool_str h
  «strs» := fun k x t v h => by
    rcases keyIs_shape h with ⟨i, u, rfl, e⟩ | ⟨y, u, rfl, e⟩
    · exact nomatch e
    · injection e with e1 _
      subst e1
      cases v <;> rfl
theorem mixKind_int (prog : Program) (w : World) (i : Int) (t : Tok) : (mixKind prog w).is (.inl i) (.int i t) = true := keyIs_int i t
theorem mixKind_str (prog : Program) (w : World) (x : Str) (t : Tok) : (mixKind prog w).is (.inr x) (.str x t) = true := keyIs_str x t
end L2
namespace L2
open PySem PySem.Spec PyProof.Rows
inductive V where
  | non | bl (b : Bool) | int (i : Int) | str (x : Str) | byt (b : Array UInt8) | flt (b : UInt64) | ref (a : Addr) | ty (n : String)
  deriving DecidableEq
def RelV : V → Value → Prop
  | .non, u => u = Value.none
  | .bl b, u => u = Value.bool b
  | .int i, u => ∃ t, u = Value.int i t
  | .str x, u => ∃ t, u = Value.str x t
  | .byt b, u => ∃ t, u = Value.bytes b t
  | .flt b, u => ∃ t, u = Value.float b t
  | .ref a, u => u = Value.ref a
  | .ty n, u => u = Value.type n
abbrev Vals : List V → List Value → Prop := Paired RelV
theorem Vals.length {xs : List V} {us : List Value} (r : Vals xs us) : xs.length = us.length := Paired.length r
theorem Vals.get : ∀ {xs : List V} {us : List Value} {i : Nat} {x : V}, Vals xs us → xs[i]? = some x → ∃ u, us[i]? = some u ∧ RelV x u
  | _, _, _, _, .nil, e => by simp at e
  | _, _, 0, _, .cons r _, e => by simp at e; subst e; exact ⟨_, rfl, r⟩
  | _, _, i + 1, x, .cons _ t, e => by
    obtain ⟨u, h1, h2⟩ := Vals.get (i := i) (x := x) t (by simpa using e)
    exact ⟨u, by simpa using h1, h2⟩
theorem Vals.set {x : V} {u : Value} (r : RelV x u) : ∀ {xs : List V} {us : List Value} (i : Nat), Vals xs us → Vals (xs.set i x) (us.set i u)
  | _, _, _, .nil => .nil
  | _, _, 0, .cons _ t => .cons r t
  | _, _, i + 1, .cons q t => .cons q (Vals.set r i t)
theorem Vals.append : ∀ {xs ys : List V} {us ws : List Value}, Vals xs us → Vals ys ws → Vals (xs ++ ys) (us ++ ws)
  | _, _, _, _, .nil, s => s
  | _, _, _, _, .cons r t, s => .cons r (Vals.append t s)
theorem Vals.take : ∀ {xs : List V} {us : List Value} (n : Nat), Vals xs us → Vals (xs.take n) (us.take n)
  | _, _, 0, _ => .nil
  | _, _, _ + 1, .nil => .nil
  | _, _, n + 1, .cons r t => .cons r (Vals.take n t)
theorem Vals.drop : ∀ {xs : List V} {us : List Value} (n : Nat), Vals xs us → Vals (xs.drop n) (us.drop n)
  | _, _, 0, r => r
  | _, _, _ + 1, .nil => .nil
  | _, _, n + 1, .cons _ t => Vals.drop n t
def RelO : Option V → Option Value → Prop
  | some v, some u => RelV v u
  | none, none => True
  | _, _ => False
def KV {κ : Type} : List (κ × V) → List (κ × Value) → Prop := Paired fun (p : κ × V) (q : κ × Value) => p.1 = q.1 ∧ RelV p.2 q.2
def kV : Key → V
  | .inl i => .int i
  | .inr x => .str x
inductive HO where
  | lst (xs : List V)
  | tup (xs : List V)
  | dK (kvs : List (Key × V)) | dT (kvs : List (List Key × V))
  | set (S : Int → Bool) (n : Nat)
  | ins (C dx : Addr) (fs : List (Str × V))
  | own (x : Addr)
  | xd (fs : List (Str × V))
  | met (f x : Addr)
  | rng (lo hi : Int)
  | frz (o : Obj) (u : HO)
  | tbl (ps : Array Value)
  | ext (φ : Heap → Prop)
abbrev Hp := Addr → Option HO
def upd (H : Hp) (a : Addr) (o : HO) : Hp := fun b => if b = a then some o else H b
theorem upd_same {H : Hp} {a : Addr} {o : HO} : upd H a o a = some o := by unfold upd; rw [if_pos rfl]
theorem upd_ne {H : Hp} {a b : Addr} {o : HO} (h : b ≠ a) : upd H a o b = H b := by unfold upd; rw [if_neg h]
theorem upd_upd {H : Hp} {a : Addr} {o u : HO} : upd (upd H a o) a u = upd H a u := by
  funext b; unfold upd; split <;> rfl
theorem ne_of {H : Hp} {a b : Addr} {o u : HO} (h : H a = some o) (h' : H b = some u) (d : o ≠ u) : a ≠ b := by
  intro e; subst e; rw [h] at h'; exact d (Option.some.inj h')
theorem ne_of_none {H : Hp} {a b : Addr} {o : HO} (h : H a = some o) (h' : H b = none) : a ≠ b := by
  intro e; subst e; rw [h] at h'; cases h'
def TupN (h : Heap) (a : Addr) (items : Array Value) : Prop := ∃ o, h.get? a = some o ∧ o.cls = .type "tuple" ∧ ∃ n, o.data = .seq items n ∧ o.dict = none
theorem TupN.is {h : Heap} {a : Addr} {items : Array Value} (x : TupN h a items) : IsTup h a items := let ⟨o, e, c, n, d, _⟩ := x; ⟨o, e, c, n, d⟩
theorem TupN.new (h : Heap) (items : Array Value) : TupN (h.push { cls := .type "tuple", data := .seq items }) h.objs.size items := ⟨_, Heap.get?_push_size _ rfl, rfl, _, rfl, rfl⟩
section
variable (P : Program) (w : World)
def ObjOk (H : Hp) (h : Heap) (a : Addr) : HO → Prop
  | .lst xs => xs.length ≤ sizeLine ∧ ∃ (its : List Value) (n : Nat), Vals xs its ∧ h.get? a = some { cls := .type "list", data := .seq its.toArray n }
  | .tup xs => xs.length ≤ sizeLine ∧ ∃ its : List Value, Vals xs its ∧ TupN h a its.toArray
  | .dK kvs => kvs.length ≤ sizeLine ∧ (a == sysModules) = false ∧ ∃ vs, KV kvs vs ∧ h.DictOf (mixKind P w) a vs
  | .dT kvs => kvs.length ≤ sizeLine ∧ (a == sysModules) = false ∧ ∃ xs : List (List Key × Addr × Value),
      Paired (fun (p : List Key × V) (q : List Key × Addr × Value) => p.1 = q.1 ∧ H q.2.1 = some (.tup (p.1.map kV)) ∧ RelV p.2 q.2.2) kvs xs ∧
      ∃ o es ep, h.get? a = some o ∧ o.ExactDict ∧ o.data = .dict es ep ∧ es.toList = xs.map (entryOfKey (tupleKind (mixKind P w))) ∧ (xs.map (·.1)).Nodup
  | .set S n => h.SetOf (intKind P w) a S n
  | .ins C dx fs => H dx = some (.own a) ∧ fs.length ≤ 1000 ∧ dx ≠ a ∧ h.get? a = some (PySem.W.instObj C dx) ∧
      ∃ mA, h.Ns1 dx mA ∧ (∀ f, RelO (fs.lookup f) (mA f)) ∧ PySem.Within mA (fs.map (·.1))
  | .own _ => ∃ o, h.get? a = some o
  | .xd fs => ∃ mA, h.Ns1 a mA ∧ ∀ f, RelO (fs.lookup f) (mA f)
  | .rng lo hi => ∃ t u v, h.get? a = some { cls := .type "range", data := .fields #[.int lo t, .int hi u, .int 1 v] }
  | .frz o u => h.get? a = some o ∧ ObjOk H h a u
  | .tbl ps => h.get? a = some { cls := .none, data := .fields ps }
  | .met f x => h.get? a = some (PySem.W.methodObj (.ref f) (.ref x))
  | .ext φ => φ h ∧ (∃ o, h.get? a = some o) ∧ ∀ h1 h2 : Heap, φ h1 → (∀ o, h1.get? a = some o → h2.get? a = some o) → φ h2
def HOk (H : Hp) (h : Heap) : Prop := ∀ a o, H a = some o → ObjOk P w H h a o
end
section
variable {P : Program} {w : World} {H H' : Hp} {h h' : Heap} {a : Addr} {o : HO}
theorem ObjOk.lt (x : ObjOk P w H h a o) : a < h.objs.size := by
  cases o with
  | lst xs => obtain ⟨_, _, _, _, e⟩ := x; exact Heap.lt_size e
  | tup xs => obtain ⟨_, _, _, p⟩ := x; exact p.is.lt
  | dK kvs => obtain ⟨_, _, _, _, o, _, _, e, _⟩ := x; exact Heap.lt_size e
  | dT kvs => obtain ⟨_, _, _, _, o, _, _, e, _⟩ := x; exact Heap.lt_size e
  | set S n => obtain ⟨o, _, _, _, e, _⟩ := x; exact Heap.lt_size e
  | ins C dx fs => obtain ⟨_, _, _, e, _⟩ := x; exact Heap.lt_size e
  | own y => obtain ⟨_, e⟩ := x; exact Heap.lt_size e
  | xd fs => obtain ⟨_, ⟨_, _, _, e, _⟩, _⟩ := x; exact Heap.lt_size e
  | rng lo hi => obtain ⟨_, _, _, e⟩ := x; exact Heap.lt_size e
  | frz ob u => obtain ⟨e, _⟩ := x; exact Heap.lt_size e
  | tbl ps => exact Heap.lt_size (show h.get? a = some _ from x)
  | met f y => exact Heap.lt_size (show h.get? a = some _ from x)
  | ext φ => obtain ⟨_, ⟨_, e⟩, _⟩ := x; exact Heap.lt_size e
theorem Paired.mapP {α β : Type} {F G : α → β → Prop} : ∀ {l₁ : List α} {l₂ : List β}, Paired F l₁ l₂ → (∀ a b, F a b → G a b) → Paired G l₁ l₂
  | _, _, .nil, _ => .nil
  | _, _, .cons r t, f => .cons (f _ _ r) (Paired.mapP t f)
theorem Paired.imp' {α β : Type} {F G : α → β → Prop} (f : ∀ a b, F a b → G a b) {l₁ : List α} {l₂ : List β} (r : Paired F l₁ l₂) : Paired G l₁ l₂ := Paired.mapP r f
theorem ObjOk.stay (x : ObjOk P w H h a o) (k : ∀ b u, (b = a ∨ H b = some (.own a)) → h.get? b = some u → h'.get? b = some u)
    (ho : ∀ b, H b = some (.own a) → H' b = some (.own a)) (ht : ∀ b xs, H b = some (.tup xs) → H' b = some (.tup xs)) : ObjOk P w H' h' a o := by
  induction o with
  | lst xs => obtain ⟨z, its, n, r, e⟩ := x; exact ⟨z, its, n, r, k _ _ (.inl rfl) e⟩
  | tup xs => obtain ⟨z, its, r, ob, e, c⟩ := x; exact ⟨z, its, r, ob, k _ _ (.inl rfl) e, c⟩
  | dK kvs => obtain ⟨z, y, vs, r, ob, es, ep, e, c⟩ := x; exact ⟨z, y, vs, r, ob, es, ep, k _ _ (.inl rfl) e, c⟩
  | dT kvs =>
    obtain ⟨z, y, xs, r, ob, es, ep, e, c⟩ := x
    exact ⟨z, y, xs, Paired.mapP r fun p q z => ⟨z.1, ht _ _ z.2.1, z.2.2⟩, ob, es, ep, k _ _ (.inl rfl) e, c⟩
  | set S n => obtain ⟨ob, es, ep, t, e, c⟩ := x; exact ⟨ob, es, ep, t, k _ _ (.inl rfl) e, c⟩
  | ins C dx fs =>
    obtain ⟨d, z, ne, e, mA, ⟨od, es, ep, e2, c⟩, r⟩ := x
    exact ⟨ho _ d, z, ne, k _ _ (.inl rfl) e, mA, ⟨od, es, ep, k _ _ (.inr d) e2, c⟩, r⟩
  | own y => obtain ⟨ob, e⟩ := x; exact ⟨ob, k _ _ (.inl rfl) e⟩
  | xd fs => obtain ⟨mA, ⟨od, es, ep, e, c⟩, r⟩ := x; exact ⟨mA, ⟨od, es, ep, k _ _ (.inl rfl) e, c⟩, r⟩
  | rng lo hi => obtain ⟨t, u, v, e⟩ := x; exact ⟨t, u, v, k _ _ (.inl rfl) e⟩
  | frz ob u ih => obtain ⟨e, q⟩ := x; exact ⟨k _ _ (.inl rfl) e, ih q⟩
  | tbl ps =>
    have e : h.get? a = some { cls := .none, data := .fields ps } := x
    show h'.get? a = some { cls := .none, data := .fields ps }
    exact k a _ (.inl rfl) e
  | met f y =>
    have e : h.get? a = some (PySem.W.methodObj (.ref f) (.ref y)) := x
    show h'.get? a = some (PySem.W.methodObj (.ref f) (.ref y))
    exact k a _ (.inl rfl) e
  | ext φ => obtain ⟨p, ⟨o, e⟩, st⟩ := x; exact ⟨st _ _ p fun o q => k _ _ (.inl rfl) q, ⟨o, k _ _ (.inl rfl) e⟩, st⟩
theorem HOk.lt (x : HOk P w H h) (e : H a = some o) : a < h.objs.size := (x a o e).lt
theorem HOk.fresh (x : HOk P w H h) (e : h.objs.size ≤ a) : H a = none := by
  cases q : H a with
  | none => rfl
  | some u => exact absurd (Nat.lt_of_lt_of_le (x.lt q) e) (Nat.lt_irrefl _)
theorem HOk.kept (x : HOk P w H h) (k : ∀ b u, h.get? b = some u → h'.get? b = some u) : HOk P w H h' := fun a o e =>
  (x a o e).stay (fun b u _ q => k b u q) (fun _ q => q) fun _ _ q => q
theorem HOk.laid (x : HOk P w H h) (k : ∀ b u, h.get? b = some u → h'.get? b = some u) (hp : h.objs.size ≤ a) (new : ObjOk P w (upd H a o) h' a o) : HOk P w (upd H a o) h' := fun b u e => by
  have hn := x.fresh hp
  by_cases hb : b = a
  · subst hb; rw [upd_same] at e; cases e; exact new
  · rw [upd_ne hb] at e
    exact (x b u e).stay (fun c v _ q => k c v q) (fun c q => by rw [upd_ne (ne_of_none q hn)]; exact q) fun c xs q => by rw [upd_ne (ne_of_none q hn)]; exact q
end
def Rd (H : Hp) (a : Addr) (u : HO) : Prop := H a = some u ∨ ∃ o, H a = some (.frz o u)
theorem Rd.of {H : Hp} {a : Addr} {u : HO} (h : H a = some u) : Rd H a u := .inl h
theorem Rd.ok {P : Program} {w : World} {H : Hp} {h : Heap} {a : Addr} {u : HO} (r : Rd H a u) (x : HOk P w H h) : ObjOk P w H h a u := by
  rcases r with r | ⟨o, r⟩
  · exact x a u r
  · obtain ⟨_, q⟩ := x a _ r
    exact q
def Mut : Option HO → Prop
  | some (.lst _) => True
  | some (.dK _) => True
  | some (.dT _) => True
  | some (.set _ _) => True
  | some (.ins _ _ _) => True
  | some (.ext _) => True
  | _ => False
section
variable {P : Program} {w : World} {H : Hp} {h h' : Heap} {x e : Addr} {o' : HO}
theorem HOk.write (ok : HOk P w H h) (mu : Mut (H x)) (he : e = x ∨ H e = some (.own x)) (k : ∀ b u, b ≠ e → h.get? b = some u → h'.get? b = some u) (heo : ∃ u, h'.get? e = some u)
    (new : ObjOk P w (upd H x o') h' x o') : HOk P w (upd H x o') h' := fun b u q => by
  have nown : ∀ c y, H c = some (.own y) → c ≠ x := fun c y r z => by subst z; rw [r] at mu; exact mu
  have ntup : ∀ c xs, H c = some (.tup xs) → c ≠ x := fun c xs r z => by subst z; rw [r] at mu; exact mu
  by_cases hb : b = x
  · subst hb; rw [upd_same] at q; cases q; exact new
  · rw [upd_ne hb] at q
    by_cases hbe : b = e
    · have q' : H b = some (.own x) := by
        rcases he with z | z
        · exact absurd (hbe.trans z) hb
        · rw [hbe]; exact z
      rw [q] at q'; cases q'
      obtain ⟨v, hv⟩ := heo
      exact ⟨v, by rw [hbe]; exact hv⟩
    · refine (ok b u q).stay (fun c v hc r => k c v ?_ r) (fun c r => by rw [upd_ne (nown c b r)]; exact r) fun c xs r => by rw [upd_ne (ntup c xs r)]; exact r
      rcases hc with rfl | hc
      · exact hbe
      · rintro rfl
        rcases he with z | z
        · exact nown c b hc z
        · rw [hc] at z; cases z; exact hb rfl
end
structure Un (fs ex : List Addr) (H H' : Hp) (h h' : Heap) : Prop where
  keep : ∀ b o, h.get? b = some o → H b = none → b ∉ fs → b ∉ ex → h'.get? b = some o
  slot : ∀ b o, h.get? b = some o → H b = none → b ∈ fs → b ∉ ex → ∃ sl, h'.get? b = some { o with slots := sl }
  free : ∀ b o, h.get? b = some o → H b = none → b ∉ ex → H' b = none
  there : ∀ b o, h.get? b = some o → b ∉ ex → ∃ o', h'.get? b = some o'
  tups : ∀ b xs, H b = some (.tup xs) → H' b = some (.tup xs)
  frzs : ∀ b o u, H b = some (.frz o u) → H' b = some (.frz o u)
  tbls : ∀ b ps, H b = some (.tbl ps) → ∃ more, H' b = some (.tbl (ps ++ more))
section
variable {fs fs' ex ex' : List Addr} {H H1 H2 : Hp} {h h1 h2 h' : Heap} {a x e : Addr} {o : HO}
theorem Un.any (u : Un fs ex H H1 h h1) {b : Addr} {ob : Obj} (q : h.get? b = some ob) (n : H b = none) (hx : b ∉ ex) : ∃ sl, h1.get? b = some { ob with slots := sl } := by
  by_cases hb : b ∈ fs
  · exact u.slot b ob q n hb hx
  · exact ⟨ob.slots, u.keep b ob q n hb hx⟩
theorem Un.kept (k : ∀ b u, h.get? b = some u → h'.get? b = some u) : Un fs ex H H h h' :=
  ⟨fun b ob q _ _ _ => k b ob q, fun b ob q _ _ _ => ⟨ob.slots, k b ob q⟩, fun _ _ _ n _ => n, fun b ob q _ => ⟨ob, k b ob q⟩, fun _ _ q => q, fun _ _ _ q => q, fun _ ps q => ⟨#[], by rw [q]; simp⟩⟩
theorem Un.refl : Un fs ex H H h h := Un.kept fun _ _ q => q
theorem Un.laid (k : ∀ b u, h.get? b = some u → h'.get? b = some u) (hp : h.objs.size ≤ a) (hn : H a = none) : Un fs ex H (upd H a o) h h' where
  keep := fun b u q _ _ _ => k b u q
  slot := fun b u q _ _ _ => ⟨u.slots, k b u q⟩
  free := fun b u q n _ => by rw [upd_ne (Nat.ne_of_lt (Nat.lt_of_lt_of_le (Heap.lt_size q) hp))]; exact n
  there := fun b u q _ => ⟨u, k b u q⟩
  tups := fun b xs q => by rw [upd_ne (ne_of_none q hn)]; exact q
  frzs := fun b u xs q => by rw [upd_ne (ne_of_none q hn)]; exact q
  tbls := fun b ps q => ⟨#[], by rw [upd_ne (ne_of_none q hn), q]; simp⟩
theorem Un.write (mu : Mut (H x)) (he : e = x ∨ H e = some (.own x)) (k : ∀ b u, b ≠ e → h.get? b = some u → h'.get? b = some u) (heo : ∃ u, h'.get? e = some u) : Un fs ex H (upd H x o) h h' := by
  have hx : ∀ b, H b = none → b ≠ x := fun b n z => by subst z; rw [n] at mu; exact mu
  have hb : ∀ b, H b = none → b ≠ e := fun b n z => by
    subst z
    rcases he with r | r
    · exact hx b n r
    · rw [n] at r; cases r
  have hm : ∀ b u, H b = some u → ¬ Mut (some u) → b ≠ x := fun b u q nm z => by subst z; rw [q] at mu; exact nm mu
  refine ⟨fun b u q n _ _ => k b u (hb b n) q, fun b u q n _ _ => ⟨u.slots, k b u (hb b n) q⟩, fun b u q n _ => by rw [upd_ne (hx b n)]; exact n, fun b u q _ => ?_,
    fun b xs q => by rw [upd_ne (hm b _ q fun z => z)]; exact q, fun b u xs q => by rw [upd_ne (hm b _ q fun z => z)]; exact q, fun b ps q => ⟨#[], by rw [upd_ne (hm b _ q fun z => z), q]; simp⟩⟩
  by_cases hbe : b = e
  · subst hbe; exact heo
  · exact ⟨u, k b u hbe q⟩
end
def trk (h : Heap) (H : Hp) : List Addr := (List.range h.objs.size).filter fun a => (H a).isSome
def hidT (h : Heap) (H : Hp) : Heap := PySem.W.hideAll h (trk h H)
theorem hidT_size (h : Heap) (H : Hp) : (hidT h H).objs.size = h.objs.size := PySem.W.hideAll_size _ _
theorem hidT_get {h : Heap} {H : Hp} {b : Addr} {o : Obj} (e : h.get? b = some o) (n : H b = none) : (hidT h H).get? b = some o :=
  PySem.W.hideAll_get _ e fun hm => by
    have q : (H b).isSome = true := (List.mem_filter.mp hm).2
    rw [n] at q; simp at q
theorem of_hidT {h : Heap} {H : Hp} {b : Addr} {o : Obj} (e : (hidT h H).get? b = some o) : h.get? b = some o ∧ H b = none := by
  have e' : h.get? b = some o := PySem.W.of_hideAll (trk h H) e
  refine ⟨e', ?_⟩
  cases q : H b with
  | none => rfl
  | some x =>
    have hm : b ∈ trk h H := List.mem_filter.mpr ⟨List.mem_range.mpr (Heap.lt_size e'), by simp [q]⟩
    have z : (hidT h H).get? b = none := PySem.W.hideAll_none (trk h H) hm
    rw [z] at e; cases e
def allNews (g h : Heap) (L : Addr) : List (Addr × Obj) := (List.range h.objs.size).filterMap fun a => if a = L ∨ (g.get? a).isSome = true then none else (h.get? a).map fun o => (a, o)
theorem mem_allNews {g h : Heap} {L a : Addr} {o : Obj} (h1 : a ≠ L) (h2 : g.get? a = none) (h3 : h.get? a = some o) : (a, o) ∈ allNews g h L :=
  List.mem_filterMap.mpr ⟨a, List.mem_range.mpr (Heap.lt_size h3), by simp [h1, h2, h3]⟩
theorem of_mem_allNews {g h : Heap} {L : Addr} {p : Addr × Obj} (hp : p ∈ allNews g h L) : p.1 ≠ L ∧ g.get? p.1 = none ∧ h.get? p.1 = some p.2 := by
  obtain ⟨b, _, e⟩ := List.mem_filterMap.mp hp
  split at e
  · cases e
  · rename_i hn
    cases q : h.get? b with
    | none => rw [q] at e; simp at e
    | some u =>
      rw [q] at e
      simp only [Option.map_some, Option.some.injEq] at e
      subst e
      refine ⟨fun z => hn (.inl z), ?_, q⟩
      show g.get? b = none
      cases r : g.get? b with
      | none => rfl
      | some v => exact (hn (.inr (by simp [r]))).elim
theorem news_all {g h : Heap} {L : Addr} : News g L h (allNews g h L) := fun p hp => let ⟨a, b, c⟩ := of_mem_allNews hp; ⟨c, a, b⟩
end L2
namespace L2
open PySem PySem.Spec PyProof.Rows
structure Mod (K : PySem.W.Frag) (mg : Str → Option Value) (base : Heap) : Prop where
  kin : K.In base
  glob : base.Ns mainGlobals mg
  blt : ∃ mb, base.Ns builtinsNs mb ∧ ∀ x : Str, x ≠ "__name__" → mb x = bootBuiltins x
  nolimit : base.NoLimit
structure Cx where
  prog : Program
  w : World
  K : PySem.W.Frag
  mg : Str → Option Value
  base : Heap
  A : Around
  N : List Str
  s₀ : Shared
  H₀ : Hp
  env : Env
  outer : List Env
  stack : List Env
  ex : List Addr
  fn : Str → Bool
  calm : Bool
  pn : List (Addr × Obj)
  xe : Value → Shared → Prop
def frs (l : List Env) : List Addr := l.filterMap (·.frame)
abbrev Cx.fs (X : Cx) : List Addr := frs X.outer
def Vis (sc : Scope) (x : Str) : Prop := sc.names.lookup x = some .local ∨ sc.names.lookup x = some .cell ∨ sc.names.lookup x = some .free
def Loc (sc : Scope) (x : Str) : Prop := sc.names.lookup x = some .local ∨ sc.names.lookup x = some .cell
def Look (env : Env) (h : Heap) (m : Str → Option Value) (x : Str) (u : Value) : Prop :=
  (env.kindOf x = some .local ∧ m x = some u) ∨ ((env.kindOf x = some .cell ∨ env.kindOf x = some .free) ∧ ∃ c, env.cells.lookup x = some c ∧ h.IsCell c (some u))
structure Cx.Ok (X : Cx) : Prop where
  mod : Mod X.K X.mg X.base
  kind : X.env.scope.kind = .function
  glob : X.env.globals = mainGlobals
  blt : X.env.builtins = builtinsNs
  above : X.s₀.heap.objs.size ≤ X.env.locals
  inj : ∀ x y c, X.env.cells.lookup x = some c → X.env.cells.lookup y = some c → x = y
  has : ∀ x, (X.env.kindOf x = some .cell ∨ X.env.kindOf x = some .free) → ∃ c, X.env.cells.lookup x = some c
  cab : ∀ x c, X.fn x = true → X.env.cells.lookup x = some c → X.s₀.heap.objs.size ≤ c
  hd : X.calm = true → X.A.handled = none
  frames : X.A.frames = some X.stack
  stk : X.stack = X.outer ∨ (X.stack = X.env :: X.outer ∧ X.env.frame = some X.env.locals)
  exf : ∀ b ∈ X.ex, b ≠ X.env.locals ∧ ∀ x c, X.env.cells.lookup x = some c → c ≠ b
  bs : ∀ b o, X.base.get? b = some o → X.s₀.heap.get? b = some o ∧ X.H₀ b = none
  bsz : X.base.objs.size ≤ X.s₀.heap.objs.size
  noex : ∀ b o, X.base.get? b = some o → b ∉ X.ex
  exfs : ∀ b ∈ X.ex, b ∉ X.fs
  funs : X.s₀.heap.FunFrames X.base X.outer
  frf : ∀ b ∈ X.fs, X.H₀ b = none
structure Inv (X : Cx) (pins : List (Addr × Obj)) (σ : List (Option V)) (H : Hp) (s : Shared) : Prop where
  ok : X.Ok
  os : s.os = X.s₀.os
  bare : AllBare s.gens
  base : Un X.fs X.ex X.H₀ H X.s₀.heap s.heap
  loc : ∃ m, s.heap.Ns X.env.locals m ∧ ∀ (i : Nat) (x : Str) (v : V), X.N[i]? = some x → σ[i]? = some (some v) → Vis X.env.scope x → ∃ u, RelV v u ∧ Look X.env s.heap m x u
  cell : ∀ x c, X.env.cells.lookup x = some c → ∃ v, s.heap.IsCell c v
  free : H X.env.locals = none
  freeC : ∀ x c, X.env.cells.lookup x = some c → H c = none
  pin : ∀ p ∈ X.pn ++ pins, s.heap.get? p.1 = some p.2 ∧ H p.1 = none ∧ p.1 ≠ X.env.locals ∧ p.1 ∉ X.fs ∧ ∀ v, p.2.data ≠ .cell v
  hok : HOk X.prog X.w H s.heap
  len : σ.length = X.N.length
section
variable {X : Cx} {pins : List (Addr × Obj)} {σ : List (Option V)} {H H' : Hp} {s : Shared} {h' : Heap}
theorem Cx.Ok.nofr (ok : X.Ok) {b : Addr} {o : Obj} (e : X.base.get? b = some o) : b ∉ X.fs := fun hb => by
  have := (ok.funs.mem hb).1
  rw [e] at this; cases this
theorem Inv.bs (I : Inv X pins σ H s) : ∀ b o, X.base.get? b = some o → s.heap.get? b = some o ∧ H b = none := fun b o e =>
  ⟨I.base.keep b o (I.ok.bs b o e).1 (I.ok.bs b o e).2 (I.ok.nofr e) (I.ok.noex b o e), I.base.free b o (I.ok.bs b o e).1 (I.ok.bs b o e).2 (I.ok.noex b o e)⟩
theorem Inv.bk (I : Inv X pins σ H s) : ∀ b o, X.base.get? b = some o → s.heap.get? b = some o := fun b o e => (I.bs b o e).1
theorem Inv.mod (I : Inv X pins σ H s) : Mod X.K X.mg X.base := I.ok.mod
theorem Inv.kIn (I : Inv X pins σ H s) : X.K.In s.heap := I.ok.mod.kin.keeps I.bk
theorem Inv.lt (I : Inv X pins σ H s) : X.env.locals < s.heap.objs.size := let ⟨_, hn, _⟩ := I.loc; hn.lt
theorem Inv.sz (I : Inv X pins σ H s) : X.s₀.heap.objs.size ≤ s.heap.objs.size := Nat.le_trans I.ok.above (Nat.le_of_lt I.lt)
theorem Inv.nofs (I : Inv X pins σ H s) {a : Addr} (h : s.heap.objs.size ≤ a) : a ∉ X.fs := fun hb => by
  obtain ⟨_, o, ho, _⟩ := I.ok.funs.mem hb
  exact absurd (Nat.lt_of_lt_of_le (Heap.lt_size ho) (Nat.le_trans I.sz h)) (Nat.lt_irrefl _)
theorem Inv.cne (I : Inv X pins σ H s) : ∀ x c, X.env.cells.lookup x = some c → c ≠ X.env.locals := fun x c e z => by
  obtain ⟨v, o, ho, hd⟩ := I.cell x c e
  obtain ⟨m, ⟨o', es, ep, ho', hd', _⟩, _⟩ := I.loc
  rw [z, ho'] at ho; cases ho; rw [hd'] at hd; cases hd
theorem Inv.funs (I : Inv X pins σ H s) : s.heap.FunFrames X.base X.outer := by
  have all : ∀ (l : List Env), (∀ b ∈ frs l, b ∈ X.fs) → X.s₀.heap.FunFrames X.base l → s.heap.FunFrames X.base l := by
    intro l
    induction l with
    | nil => intro _ _; trivial
    | cons env r ih =>
      intro hs hl
      obtain ⟨hk, ⟨L, o, hf, hn, ho, hd⟩, hr⟩ := hl
      have hL : L ∈ X.fs := hs L (by unfold frs; rw [List.filterMap_cons, hf]; exact List.mem_cons_self)
      obtain ⟨sl, e⟩ := I.base.slot L o ho (I.ok.frf L hL) hL fun z => I.ok.exfs L z hL
      exact ⟨hk, ⟨L, _, hf, hn, e, hd⟩, ih (fun b hb => hs b (by unfold frs; rw [List.filterMap_cons, hf]; exact List.mem_cons_of_mem _ hb)) hr⟩
  exact all X.outer (fun _ hb => hb) I.ok.funs
theorem Inv.stack (I : Inv X pins σ H s) : s.heap.FunFrames X.base X.stack := by
  rcases I.ok.stk with e | ⟨e, hf⟩
  · rw [e]; exact I.funs
  · rw [e]
    obtain ⟨m, hn, _⟩ := I.loc
    refine .cons (by rw [I.ok.kind]; decide) hf hn ?_ I.funs
    exact Heap.get?_none_of_le (Nat.le_trans I.ok.bsz I.ok.above)
theorem Inv.stkSub (I : Inv X pins σ H s) : ∀ b ∈ frs X.stack, b ∈ X.env.locals :: X.fs := fun b hb => by
  rcases I.ok.stk with e | ⟨e, hf⟩
  · rw [e] at hb; exact List.mem_cons_of_mem _ hb
  · rw [e] at hb
    unfold frs at hb
    rw [List.filterMap_cons, hf] at hb
    exact hb
theorem Inv.stkFree (I : Inv X pins σ H s) : ∀ b ∈ frs X.stack, H b = none := fun b hb => by
  rcases List.mem_cons.mp (I.stkSub b hb) with e | hb
  · rw [e]; exact I.free
  · obtain ⟨_, o, ho, _⟩ := I.ok.funs.mem hb
    exact I.base.free b o ho (I.ok.frf b hb) fun z => I.ok.exfs b z hb
theorem Inv.step {g' : Array GenState} {t' : Nat} {d' : Drawn} {ch : List Addr} (I : Inv X pins σ H s)
    (hch : ∀ b ∈ ch, (b ∈ X.ex ∨ X.s₀.heap.objs.size ≤ b) ∧ b ≠ X.env.locals ∧ (∀ x c, X.env.cells.lookup x = some c → c ≠ b) ∧ ∀ p ∈ X.pn ++ pins, p.1 ≠ b)
    (keep : ∀ b o, b ≠ X.env.locals → b ∉ X.fs → b ∉ ch → s.heap.get? b = some o → H b = none → h'.get? b = some o)
    (slot : ∀ b o, b ≠ X.env.locals → b ∈ X.fs → b ∉ ch → s.heap.get? b = some o → H b = none → ∃ sl, h'.get? b = some { o with slots := sl }) (free : ∀ b o, b ∉ ch → s.heap.get? b = some o → H b = none → H' b = none)
    (there : ∀ b o, b ∉ ch → s.heap.get? b = some o → ∃ o', h'.get? b = some o')
    (tups : ∀ b xs, H b = some (.tup xs) → H' b = some (.tup xs)) (frzs : ∀ b o u, H b = some (.frz o u) → H' b = some (.frz o u)) (tbls : ∀ b ps, H b = some (.tbl ps) → ∃ more, H' b = some (.tbl (ps ++ more)))
    (ns : ∀ m, s.heap.Ns X.env.locals m → h'.Ns X.env.locals m) (hok : HOk X.prog X.w H' h') (hg : AllBare g') :
    Inv X pins σ H' { s with heap := h', gens := g', drawn := d', toks := t' } := by
  have neL : ∀ b o, X.s₀.heap.get? b = some o → b ≠ X.env.locals := fun b o e => Nat.ne_of_lt (Nat.lt_of_lt_of_le (Heap.lt_size e) I.ok.above)
  have neC : ∀ b o, X.s₀.heap.get? b = some o → b ∉ X.ex → b ∉ ch := fun b o e hx hb => by
    rcases (hch b hb).1 with z | z
    · exact hx z
    · exact absurd (Nat.lt_of_lt_of_le (Heap.lt_size e) z) (Nat.lt_irrefl _)
  have cellK : ∀ x c, X.env.cells.lookup x = some c → ∀ v, s.heap.IsCell c v → h'.IsCell c v := fun x c e v ⟨o, ho, hd⟩ => by
    have nch : c ∉ ch := fun z => (hch c z).2.2.1 x c e rfl
    by_cases hc : c ∈ X.fs
    · obtain ⟨sl, q⟩ := slot c o (I.cne x c e) hc nch ho (I.freeC x c e)
      exact ⟨_, q, hd⟩
    · exact ⟨o, keep c o (I.cne x c e) hc nch ho (I.freeC x c e), hd⟩
  refine ⟨I.ok, I.os, hg, ⟨fun b o e n hb hx => ?_, fun b o e n hb hx => ?_, fun b o e n hx => ?_, fun b o e hx => ?_, fun b xs e => tups b xs (I.base.tups b xs e), fun b o xs e => frzs b o xs (I.base.frzs b o xs e), fun b ps e => ?_⟩, ?_, fun x c e => ?_, ?_, fun x c e => ?_, fun p hp => ?_, hok, I.len⟩
  · exact keep b o (neL b o e) hb (neC b o e hx) (I.base.keep b o e n hb hx) (I.base.free b o e n hx)
  · obtain ⟨sl, e1⟩ := I.base.slot b o e n hb hx
    obtain ⟨sl', e2⟩ := slot b _ (neL b o e) hb (neC b o e hx) e1 (I.base.free b o e n hx)
    exact ⟨sl', e2⟩
  · obtain ⟨o', e1⟩ := I.base.there b o e hx
    exact free b o' (neC b o e hx) e1 (I.base.free b o e n hx)
  · obtain ⟨o', e1⟩ := I.base.there b o e hx
    exact there b o' (neC b o e hx) e1
  · obtain ⟨m1, e1⟩ := I.base.tbls b ps e
    obtain ⟨m2, e2⟩ := tbls b _ e1
    exact ⟨m1 ++ m2, by rw [e2, Array.append_assoc]⟩
  · obtain ⟨m, hn, hl⟩ := I.loc
    refine ⟨m, ns m hn, fun i x v e1 e2 e3 => ?_⟩
    obtain ⟨u, r, l⟩ := hl i x v e1 e2 e3
    refine ⟨u, r, ?_⟩
    rcases l with l | ⟨k, c, e, z⟩
    · exact .inl l
    · exact .inr ⟨k, c, e, cellK x c e _ z⟩
  · obtain ⟨v, z⟩ := I.cell x c e
    exact ⟨v, cellK x c e v z⟩
  · obtain ⟨m, ⟨o, _, _, ho, _⟩, _⟩ := I.loc
    exact free _ o (fun z => (hch _ z).2.1 rfl) ho I.free
  · obtain ⟨v, o, ho, hd⟩ := I.cell x c e
    exact free c o (fun z => (hch c z).2.2.1 x c e rfl) ho (I.freeC x c e)
  · obtain ⟨e, n, ne, nf, d⟩ := I.pin p hp
    have nch : p.1 ∉ ch := fun z => (hch p.1 z).2.2.2 p hp rfl
    exact ⟨keep p.1 p.2 ne nf nch e n, free p.1 p.2 nch e n, ne, nf, d⟩
theorem Inv.un {t' : Nat} (I : Inv X pins σ H s) (u : Un X.fs [] H H' s.heap h') (hok : HOk X.prog X.w H' h') : Inv X pins σ H' { s with heap := h', toks := t' } := by
  obtain ⟨m, ⟨o, es, ep, ho, r⟩, _⟩ := id I.loc
  obtain ⟨sl, hL⟩ := u.any ho I.free (by simp)
  exact I.step (g' := s.gens) (d' := s.drawn) (ch := []) (fun _ z => nomatch z) (fun b o _ hb _ e n => u.keep b o e n hb (by simp)) (fun b o _ hb _ e n => u.slot b o e n hb (by simp)) (fun b o _ e n => u.free b o e n (by simp)) (fun b o _ e => u.there b o e (by simp)) u.tups u.frzs u.tbls (fun m' hm => by
    obtain ⟨o', es', ep', ho', r'⟩ := hm
    rw [ho] at ho'; cases ho'
    exact ⟨_, es', ep', hL, r'⟩) hok I.bare
theorem Inv.call {g' : Array GenState} {t' : Nat} {d' : Drawn} {ch : List Addr} (I : Inv X pins σ H s) (u : Un (frs X.stack) ch H H' s.heap h') (hok : HOk X.prog X.w H' h') (hg : AllBare g')
    (hch : ∀ b ∈ ch, (b ∈ X.ex ∨ X.s₀.heap.objs.size ≤ b) ∧ b ≠ X.env.locals ∧ (∀ x c, X.env.cells.lookup x = some c → c ≠ b) ∧ ∀ p ∈ X.pn ++ pins, p.1 ≠ b) :
    Inv X pins σ H' { s with heap := h', gens := g', drawn := d', toks := t' } := by
  obtain ⟨m, ⟨o, es, ep, ho, r⟩, _⟩ := id I.loc
  obtain ⟨sl, hL⟩ := u.any ho I.free fun z => (hch _ z).2.1 rfl
  exact I.step (ch := ch) hch (fun b o hL hb hc e n => u.keep b o e n (fun z => (List.mem_cons.mp (I.stkSub b z)).elim hL hb) hc) (fun b o _ _ hc e n => u.any e n hc) (fun b o hc e n => u.free b o e n hc) (fun b o hc e => u.there b o e hc) u.tups u.frzs u.tbls (fun m' hm => by
    obtain ⟨o', es', ep', ho', r'⟩ := hm
    rw [ho] at ho'; cases ho'
    exact ⟨_, es', ep', hL, r'⟩) hok hg
theorem Inv.turned {t' : Nat} {it : Addr} (I : Inv X pins σ H s) (k : ∀ b o, b ≠ it → s.heap.get? b = some o → h'.get? b = some o) (hn : H it = none) (hL : it ≠ X.env.locals)
    (h1 : it ∈ X.ex ∨ X.s₀.heap.objs.size ≤ it) (h2 : ∀ x c, X.env.cells.lookup x = some c → c ≠ it) (h3 : ∀ p ∈ X.pn ++ pins, p.1 ≠ it) : Inv X pins σ H { s with heap := h', toks := t' } := by
  have nit : ∀ b u, H b = some u → b ≠ it := fun b u e z => by rw [z, hn] at e; cases e
  refine I.step (g' := s.gens) (d' := s.drawn) (ch := [it]) (fun b hb => ?_) (fun b o _ _ hc e _ => k b o (fun z => hc (by simp [z])) e) (fun b o _ _ hc e _ => ⟨o.slots, k b o (fun z => hc (by simp [z])) e⟩) (fun _ _ _ _ n => n)
    (fun b o hc e => ⟨o, k b o (fun z => hc (by simp [z])) e⟩) (fun _ _ e => e) (fun _ _ _ e => e) (fun b ps e => ⟨#[], by rw [e]; simp⟩) (fun m hm => ?_) (fun b u e => ?_) I.bare
  · have e : b = it := by simpa using hb
    subst e
    exact ⟨h1, hL, h2, h3⟩
  · obtain ⟨o, es, ep, ho, r⟩ := hm
    exact ⟨o, es, ep, k _ o (Ne.symm hL) ho, r⟩
  · refine (I.hok b u e).stay (fun c v hc q => k c v ?_ q) (fun _ q => q) fun _ _ q => q
    rcases hc with z | z
    · rw [z]; exact nit b u e
    · exact nit c _ z
theorem Inv.tok (I : Inv X pins σ H s) (t : Nat) : Inv X pins σ H { s with toks := t } := I.un (h' := s.heap) (t' := t) Un.refl I.hok
theorem Inv.kept {t' : Nat} (I : Inv X pins σ H s) (k : ∀ b u, s.heap.get? b = some u → h'.get? b = some u) : Inv X pins σ H { s with heap := h', toks := t' } := I.un (Un.kept k) (I.hok.kept k)
theorem Inv.laid {a : Addr} {o : HO} {t' : Nat} (I : Inv X pins σ H s) (k : ∀ b u, s.heap.get? b = some u → h'.get? b = some u) (hp : s.heap.objs.size ≤ a) (new : ObjOk X.prog X.w (upd H a o) h' a o) :
    Inv X pins σ (upd H a o) { s with heap := h', toks := t' } := I.un (Un.laid k hp (I.hok.fresh hp)) (I.hok.laid k hp new)
theorem Inv.write {x e : Addr} {o : HO} {t' : Nat} (I : Inv X pins σ H s) (mu : Mut (H x)) (he : e = x ∨ H e = some (.own x)) (k : ∀ b u, b ≠ e → s.heap.get? b = some u → h'.get? b = some u) (heo : ∃ u, h'.get? e = some u)
    (new : ObjOk X.prog X.w (upd H x o) h' x o) : Inv X pins σ (upd H x o) { s with heap := h', toks := t' } := I.un (Un.write mu he k heo) (I.hok.write mu he k heo new)
theorem Inv.weak {σ' : List (Option V)} (I : Inv X pins σ H s) (hl : σ'.length = σ.length) (w : ∀ (i : Nat) v, σ'[i]? = some (some v) → σ[i]? = some (some v)) : Inv X pins σ' H s :=
  ⟨I.ok, I.os, I.bare, I.base, let ⟨m, hn, hl'⟩ := I.loc; ⟨m, hn, fun i x v e1 e2 e3 => hl' i x v e1 (w i v e2) e3⟩, I.cell, I.free, I.freeC, I.pin, I.hok, hl.trans I.len⟩
theorem Inv.pins_of {pins' : List (Addr × Obj)} (I : Inv X pins σ H s) (h : ∀ p ∈ pins', s.heap.get? p.1 = some p.2 ∧ H p.1 = none ∧ p.1 ≠ X.env.locals ∧ p.1 ∉ X.fs ∧ ∀ v, p.2.data ≠ .cell v) : Inv X pins' σ H s :=
  ⟨I.ok, I.os, I.bare, I.base, I.loc, I.cell, I.free, I.freeC, fun p hp => (List.mem_append.mp hp).elim (fun z => I.pin p (List.mem_append_left _ z)) (h p), I.hok, I.len⟩
theorem nodup_ix {N : List Str} (hN : N.Nodup) {i j : Nat} {x : Str} (a : N[i]? = some x) (b : N[j]? = some x) : i = j := by
  obtain ⟨h1, e1⟩ := List.getElem?_eq_some_iff.mp a
  obtain ⟨h2, e2⟩ := List.getElem?_eq_some_iff.mp b
  exact (List.getElem_inj hN).mp (e1.trans e2.symm)
theorem store_ok2 {M : Model} {A : Around} {E : Value → Shared → Prop} {i : Nat} {x : Str} {v : V} {u : Value} {Q : Unit → Shared → Prop} (I : Inv X pins σ H s) (hN : X.N.Nodup) (hi : X.N[i]? = some x) (hx : Loc X.env.scope x) (r : RelV v u)
    (h : ∀ s', Inv X pins (σ.set i (some v)) H s' → (∃ a, Heap.SameBut a s.heap s'.heap ∧ (a = X.env.locals ∨ X.env.cells.lookup x = some a)) → Q () s') (hf : X.fn x = true ∨ X.env.scope.names.lookup x = some .local := by first | exact .inl rfl | exact .inr rfl | assumption) : wpAny M A (storeName X.env x u) Q E s := by
  obtain ⟨m, hn, hl⟩ := id I.loc
  have hcls : (X.env.scope.kind == .class || (X.env.scope.kind == .module && X.env.locals != X.env.globals)) = false := by rw [I.ok.kind]; rfl
  have hiσ : i < σ.length := by rw [I.len]; exact (List.getElem?_eq_some_iff.mp hi).1
  have cne := I.cne
  have tracked : ∀ {a : Addr} {h' : Heap}, (∃ o, s.heap.get? a = some o ∧ H a = none) → Heap.SameBut a s.heap h' → HOk X.prog X.w H h' := fun {a h'} ha hs b ob e => by
    obtain ⟨_, _, hfree⟩ := ha
    refine (I.hok b ob e).stay (fun c w' hc q => (hs.2 c ?_).trans q) (fun _ q => q) fun _ _ q => q
    rintro rfl
    rcases hc with rfl | hc
    · rw [hfree] at e; cases e
    · rw [hfree] at hc; cases hc
  rcases hx with hk | hk
  · refine wpAny_storeName_local hk hn (fun h' hn' hs => ?_) hcls
    obtain ⟨oL, _, _, hoL, _⟩ := id hn
    refine h _ ⟨I.ok, I.os, I.bare, ⟨fun b o e n hb hx => ?_, fun b o e n hb hx => ?_, I.base.free, fun b o e hx => ?_, I.base.tups, I.base.frzs, I.base.tbls⟩, ⟨_, hn', fun j y v' e1 e2 e3 => ?_⟩, fun y c e => ?_, I.free, I.freeC, fun p hp => ?_, tracked ⟨oL, hoL, I.free⟩ hs, by simpa using I.len⟩ ⟨_, hs, .inl rfl⟩
    · exact (hs.2 b (Nat.ne_of_lt (Nat.lt_of_lt_of_le (Heap.lt_size e) I.ok.above))).trans (I.base.keep b o e n hb hx)
    · obtain ⟨sl, e1⟩ := I.base.slot b o e n hb hx
      exact ⟨sl, (hs.2 b (Nat.ne_of_lt (Nat.lt_of_lt_of_le (Heap.lt_size e) I.ok.above))).trans e1⟩
    · obtain ⟨o', e1⟩ := I.base.there b o e hx
      exact ⟨o', (hs.2 b (Nat.ne_of_lt (Nat.lt_of_lt_of_le (Heap.lt_size e) I.ok.above))).trans e1⟩
    · by_cases hj : j = i
      · subst hj
        rw [hi] at e1; cases e1
        rw [List.getElem?_set_self hiσ] at e2
        cases e2
        exact ⟨u, r, .inl ⟨hk, by simp⟩⟩
      · rw [List.getElem?_set_ne (Ne.symm hj)] at e2
        obtain ⟨u', r', q⟩ := hl j y v' e1 e2 e3
        refine ⟨u', r', ?_⟩
        rcases q with ⟨k, e⟩ | ⟨k, c, e, z⟩
        · refine .inl ⟨k, ?_⟩
          have : y ≠ x := fun e => hj (nodup_ix hN e1 (e ▸ hi))
          simp [this, e]
        · exact .inr ⟨k, c, e, z.sameBut hs (cne y c e)⟩
    · obtain ⟨w', z⟩ := I.cell y c e
      exact ⟨w', z.sameBut hs (cne y c e)⟩
    · obtain ⟨e, n, ne, nf, d⟩ := I.pin p hp
      exact ⟨(hs.2 p.1 ne).trans e, n, ne, nf, d⟩
  · have hfn : X.fn x = true := by
      rcases hf with z | z
      · exact z
      · rw [z] at hk; cases hk
    obtain ⟨c, hc⟩ := I.ok.has x (.inl hk)
    obtain ⟨w', z⟩ := I.cell x c hc
    refine wpAny_storeName_cell I.ok.kind hk hc z (fun h' hc' hs => ?_)
    obtain ⟨oc, hoc, hocd⟩ := id z
    refine h { s with heap := h' } ⟨I.ok, I.os, I.bare, ⟨fun b o e n hb hx => ?_, fun b o e n hb hx => ?_, I.base.free, fun b o e hx => ?_, I.base.tups, I.base.frzs, I.base.tbls⟩, ⟨m, hn.sameBut hs (Ne.symm (cne x c hc)), fun j y v' e1 e2 e3 => ?_⟩, fun y c' e => ?_, I.free, I.freeC, fun p hp => ?_, tracked ⟨oc, hoc, I.freeC x c hc⟩ hs, by simpa using I.len⟩ ⟨c, hs, .inr hc⟩
    · exact (hs.2 b (Nat.ne_of_lt (Nat.lt_of_lt_of_le (Heap.lt_size e) (I.ok.cab x c hfn hc)))).trans (I.base.keep b o e n hb hx)
    · obtain ⟨sl, e1⟩ := I.base.slot b o e n hb hx
      exact ⟨sl, (hs.2 b (Nat.ne_of_lt (Nat.lt_of_lt_of_le (Heap.lt_size e) (I.ok.cab x c hfn hc)))).trans e1⟩
    · obtain ⟨o', e1⟩ := I.base.there b o e hx
      exact ⟨o', (hs.2 b (Nat.ne_of_lt (Nat.lt_of_lt_of_le (Heap.lt_size e) (I.ok.cab x c hfn hc)))).trans e1⟩
    · by_cases hj : j = i
      · subst hj
        rw [hi] at e1; cases e1
        rw [List.getElem?_set_self hiσ] at e2
        cases e2
        exact ⟨u, r, .inr ⟨.inl hk, c, hc, hc'⟩⟩
      · rw [List.getElem?_set_ne (Ne.symm hj)] at e2
        obtain ⟨u', r', q⟩ := hl j y v' e1 e2 e3
        refine ⟨u', r', ?_⟩
        rcases q with q | ⟨k, c', e, z'⟩
        · exact .inl q
        · refine .inr ⟨k, c', e, z'.sameBut hs ?_⟩
          rintro rfl
          exact hj (nodup_ix hN e1 (I.ok.inj _ _ _ e hc ▸ hi))
    · by_cases hcc : c' = c
      · subst hcc; exact ⟨_, hc'⟩
      · obtain ⟨w2, z2⟩ := I.cell y c' e
        exact ⟨w2, z2.sameBut hs hcc⟩
    · obtain ⟨e, n, ne, nf, d⟩ := I.pin p hp
      refine ⟨(hs.2 p.1 ?_).trans e, n, ne, nf, d⟩
      intro q
      rw [q, hoc] at e
      have q' : oc = p.2 := Option.some.inj e
      exact d w' (by rw [← q']; exact hocd)
theorem store_ok {M : Model} {A : Around} {E : Value → Shared → Prop} {i : Nat} {x : Str} {v : V} {u : Value} {Q : Unit → Shared → Prop} (I : Inv X pins σ H s) (hN : X.N.Nodup) (hi : X.N[i]? = some x) (hx : Loc X.env.scope x) (r : RelV v u)
    (h : ∀ s', Inv X pins (σ.set i (some v)) H s' → Q () s') (hf : X.fn x = true ∨ X.env.scope.names.lookup x = some .local := by first | exact .inl rfl | exact .inr rfl | assumption) : wpAny M A (storeName X.env x u) Q E s :=
  store_ok2 I hN hi hx r (fun s' I' _ => h s' I') hf
theorem Inv.call' {s' : Shared} {ch : List Addr} (I : Inv X pins σ H s) (ho : s'.os = s.os) (u : Un (frs X.stack) ch H H' s.heap s'.heap) (hok : HOk X.prog X.w H' s'.heap) (hg : AllBare s'.gens)
    (hch : ∀ b ∈ ch, (b ∈ X.ex ∨ X.s₀.heap.objs.size ≤ b) ∧ b ≠ X.env.locals ∧ (∀ x c, X.env.cells.lookup x = some c → c ≠ b) ∧ ∀ p ∈ X.pn ++ pins, p.1 ≠ b) : Inv X pins σ H' s' := by
  obtain ⟨h', g', d', t', o'⟩ := s'
  have e : o' = s.os := ho
  subst e
  exact I.call (g' := g') (t' := t') (d' := d') u hok hg hch
end
abbrev XK := Value → Option Addr → Hp → Prop
abbrev St := List (Option V)
abbrev VK := V → Hp → Prop
abbrev TE := St → Hp → VK → Prop
abbrev TT := St → Hp → (Bool → Hp → Prop) → Prop
abbrev TA := St → Hp → (List V → Hp → Prop) → Prop
structure Ends where
  nx : St → Hp → Prop
  rt : VK
  bk : St → Hp → Prop := fun _ _ => False
  ct : St → Hp → Prop := fun _ _ => False
abbrev TS := Ends → St → Hp → Prop
def EP (X : Cx) (pins : List (Addr × Obj)) (σ : St) (Q : VK) (u : Value) (s' : Shared) : Prop := ∃ v H', Inv X pins σ H' s' ∧ RelV v u ∧ Q v H'
def TP (X : Cx) (pins : List (Addr × Obj)) (σ : St) (Q : Bool → Hp → Prop) (b : Bool) (s' : Shared) : Prop := ∃ H', Inv X pins σ H' s' ∧ Q b H'
def AP (X : Cx) (pins : List (Addr × Obj)) (σ : St) (Q : List V → Hp → Prop) (us : List Value) (s' : Shared) : Prop := ∃ vs H', Inv X pins σ H' s' ∧ Vals vs us ∧ Q vs H'
def SP (X : Cx) (pins : List (Addr × Obj)) (D : Ends) (f : Flow) (s' : Shared) : Prop :=
  match f with
  | .next => ∃ σ' H', Inv X pins σ' H' s' ∧ D.nx σ' H'
  | .brk => ∃ σ' H', Inv X pins σ' H' s' ∧ D.bk σ' H'
  | .cont => ∃ σ' H', Inv X pins σ' H' s' ∧ D.ct σ' H'
  | .ret u => ∃ v σ' H', Inv X pins σ' H' s' ∧ RelV v u ∧ D.rt v H'
def PE (X : Cx) (e : Expr) (t : TE) : Prop :=
  ∀ (pins : List (Addr × Obj)) (s : Shared) (σ : St) (H : Hp) (Q : VK), Inv X pins σ H s → t σ H Q → wpAny (model X.prog X.w) X.A (eval e X.env) (EP X pins σ Q) X.xe s
def PT (X : Cx) (e : Expr) (t : TT) : Prop :=
  ∀ (pins : List (Addr × Obj)) (s : Shared) (σ : St) (H : Hp) (Q : Bool → Hp → Prop), Inv X pins σ H s → t σ H Q → wpAny (model X.prog X.w) X.A (isTrue e X.env (eval e X.env)) (TP X pins σ Q) X.xe s
def PW (X : Cx) (e : Expr) (t : TT) : Prop :=
  ∀ (whole : Sem Value) (pins : List (Addr × Obj)) (s : Shared) (σ : St) (H : Hp) (Q : Bool → Hp → Prop), Inv X pins σ H s → t σ H Q → wpAny (model X.prog X.w) X.A (isTrue e X.env whole) (TP X pins σ Q) X.xe s
theorem PW.pt {X : Cx} {e : Expr} {t : TT} (h : PW X e t) : PT X e t := h _
def PA (X : Cx) (es : List Expr) (t : TA) : Prop :=
  ∀ (pos : Pos) (pins : List (Addr × Obj)) (s : Shared) (σ : St) (H : Hp) (Q : List V → Hp → Prop), Inv X pins σ H s → t σ H Q → wpAny (model X.prog X.w) X.A (spliced (backTo pos (starEach es X.env))) (AP X pins σ Q) X.xe s
def PS (X : Cx) (st : Stmt) (t : TS) : Prop :=
  ∀ (pins : List (Addr × Obj)) (s : Shared) (σ : St) (H : Hp) (D : Ends), Inv X pins σ H s → t D σ H → wpAny (model X.prog X.w) X.A (exec st X.env) (SP X pins D) X.xe s
def PSs (X : Cx) (st : List Stmt) (t : TS) : Prop :=
  ∀ (pins : List (Addr × Obj)) (s : Shared) (σ : St) (H : Hp) (D : Ends), Inv X pins σ H s → t D σ H → wpAny (model X.prog X.w) X.A (execs st X.env) (SP X pins D) X.xe s
theorem thn {α : Type} {t : Sem α} {Q Q' : α → Shared → Prop} {M : Model} {A : Around} {E : Value → Shared → Prop} {s : Shared} (h : wpAny M A t Q E s) (hQ : ∀ a s, Q a s → Q' a s) : wpAny M A t Q' E s := wpAny_mono h hQ fun _ _ x => x
end L2
namespace L2
open PySem PySem.Spec PyProof.Rows
section
variable {X : Cx}
def tVar (i : Nat) : TE := fun σ H Q => ∃ v, σ[i]? = some (some v) ∧ Q v H
def tC (v : V) : TE := fun _ H Q => Q v H
theorem pe_var {i : Nat} {x : Str} {pos : Pos} (hN : X.N[i]? = some x) (hv : Vis X.env.scope x) (hd : (x == ("__debug__" : Str)) = false := by decide) (hcd : (x == ("__classdict__" : Str)) = false := by decide) : PE X (.Name x pos) (tVar i) := by
  intro pins s σ H Q I h
  obtain ⟨v, e, h⟩ := h
  obtain ⟨m, hn, hl⟩ := I.loc
  obtain ⟨u, r, l⟩ := hl i x v hN e hv
  have fin : EP X pins σ Q u s := ⟨v, H, I, r, h⟩
  rcases l with ⟨hk, hm⟩ | ⟨hk, c, hc, hcell⟩
  · exact wpAny_Name (wpAny_loadName_local I.ok.kind hk hn hm fin) hd
  · rcases hk with hk | hk
    · exact wpAny_Name (wpAny_loadName_cell I.ok.kind hk hc hcell fin) hd
    · exact wpAny_Name (wpAny_loadName_free I.ok.kind hk hc hcell fin hcd) hd
theorem pe_int {i j pos} : PE X (.Constant (.int i) j pos) (tC (.int i)) := fun _ _ _ H _ I h => wpAny_Constant_int ⟨.int i, H, I.tok _, ⟨_, rfl⟩, h⟩
theorem pe_bl {b j pos} : PE X (.Constant (.bool b) j pos) (tC (.bl b)) := fun _ _ _ H _ I h => Constant_bool ⟨.bl b, H, I, rfl, h⟩
theorem pe_non {j pos} : PE X (.Constant .none j pos) (tC .non) := fun _ _ _ H _ I h => Constant_none ⟨.non, H, I, rfl, h⟩
theorem pe_str {x j pos} : PE X (.Constant (.str x) j pos) (tC (.str x)) := fun _ _ _ H _ I h => Calls.Constant_str ⟨.str x, H, I.tok _, ⟨_, rfl⟩, h⟩
def Gl (X : Cx) (x : Str) : Prop := X.env.kindOf x = some .globalImplicit
theorem ld_glob {E : Value → Shared → Prop} {pins : List (Addr × Obj)} {s : Shared} {σ : St} {H : Hp} {x : Str} {u : Value} {pos : Pos} {Q : Value → Shared → Prop} (I : Inv X pins σ H s) (hg : Gl X x) (hm : X.mg x = some u) (h : Q u s)
    (hd : (x == ("__debug__" : Str)) = false := by decide) : wpAny (model X.prog X.w) X.A (eval (.Name x pos) X.env) Q E s :=
  Calls.Name_function_global I.ok.kind hg (Calls.loadGlobal_global (by rw [I.ok.glob]; exact I.mod.glob.keeps I.bk) hm h) hd
theorem ld_blt {E : Value → Shared → Prop} {pins : List (Addr × Obj)} {s : Shared} {σ : St} {H : Hp} {x : Str} {u : Value} {pos : Pos} {Q : Value → Shared → Prop} (I : Inv X pins σ H s) (hg : Gl X x) (hm : X.mg x = none) (hv : bootBuiltins x = some u) (h : Q u s)
    (hn : x ≠ "__name__" := by decide) (hd : (x == ("__debug__" : Str)) = false := by decide) : wpAny (model X.prog X.w) X.A (eval (.Name x pos) X.env) Q E s := by
  obtain ⟨mb, h1, h2⟩ := I.mod.blt
  exact Calls.Name_function_global I.ok.kind hg (Calls.loadGlobal_builtin (by rw [I.ok.glob]; exact I.mod.glob.keeps I.bk) hm (by rw [I.ok.blt]; exact h1.keeps I.bk) ((h2 x hn).trans hv) h) hd
theorem pe_bltn {x : Str} {v : V} {u : Value} {pos : Pos} (hg : Gl X x) (hm : X.mg x = none) (hv : bootBuiltins x = some u) (r : RelV v u) (hn : x ≠ "__name__" := by decide) (hd : (x == ("__debug__" : Str)) = false := by decide) : PE X (.Name x pos) (tC v) :=
  fun _ _ _ H _ I h => ld_blt I hg hm hv ⟨v, H, I, r, h⟩ hn hd
variable {a b : Expr} {ta tb : TE} {pos : Pos}
def tB (t : TE) : TT := fun σ H Q => t σ H fun x H1 => ∃ c, x = .bl c ∧ Q c H1
theorem pt_val {e : Expr} {t : TE} (h : PE X e t) (he : ∀ whole, isTrue e X.env whole = (do let v ← whole; standAt e.pos; holding [v] (truthy v)) := by intro _; rfl) : PT X e (tB t) := by
  intro pins s σ H Q I hw
  refine isTrue_plain (thn (h pins s σ H _ I hw) fun v s1 ⟨x, H1, I1, r1, q1⟩ => ?_) (he _)
  obtain ⟨d, rfl, q⟩ := q1
  cases r1
  exact wpAny_truthy_bool ⟨H1, I1, q⟩
variable {tA tB' : TT} {rest : List Expr}
def tAnd (t u : TT) : TT := fun σ H Q => t σ H fun c H1 => if c = true then u σ H1 Q else Q false H1
def tOr (t u : TT) : TT := fun σ H Q => t σ H fun c H1 => if c = true then Q true H1 else u σ H1 Q
def tNot (t : TT) : TT := fun σ H Q => t σ H fun c H1 => Q (!c) H1
theorem pw_and1 (ha : PT X a tA) : PW X (.BoolOp .And [a] pos) tA := by
  intro wh pins s σ H Q I h
  refine isTrue_and (thn (ha pins s σ H Q I h) fun c s1 e => ?_)
  cases c with
  | true => exact isTrue_and_nil e
  | false => exact e
theorem pw_or1 (ha : PT X a tA) : PW X (.BoolOp .Or [a] pos) tA := by
  intro wh pins s σ H Q I h
  refine isTrue_or (thn (ha pins s σ H Q I h) fun c s1 e => ?_)
  cases c with
  | false => exact isTrue_or_nil e
  | true => exact e
theorem pw_and (ha : PT X a tA) (hb : PW X (.BoolOp .And (b :: rest) pos) tB') : PW X (.BoolOp .And (a :: b :: rest) pos) (tAnd tA tB') := by
  intro wh pins s σ H Q I h
  refine isTrue_and (thn (ha pins s σ H _ I h) fun c s1 ⟨H1, I1, q1⟩ => ?_)
  cases c with
  | true => exact hb wh pins s1 σ H1 Q I1 q1
  | false => exact ⟨H1, I1, q1⟩
theorem pw_or (ha : PT X a tA) (hb : PW X (.BoolOp .Or (b :: rest) pos) tB') : PW X (.BoolOp .Or (a :: b :: rest) pos) (tOr tA tB') := by
  intro wh pins s σ H Q I h
  refine isTrue_or (thn (ha pins s σ H _ I h) fun c s1 ⟨H1, I1, q1⟩ => ?_)
  cases c with
  | true => exact ⟨H1, I1, q1⟩
  | false => exact hb wh pins s1 σ H1 Q I1 q1
theorem pt_not (ha : PT X a tA) : PT X (.UnaryOp .Not a pos) (tNot tA) := by
  intro pins s σ H Q I h
  exact isTrue_not (ha pins s σ H (fun c H1 => Q (!c) H1) I h)
def tAndV (ta tb : TE) : TE := fun σ H Q => ta σ H fun x H1 => ∃ c, x = .bl c ∧ if c = true then tb σ H1 Q else Q (.bl false) H1
def tNotV (ta : TE) : TE := fun σ H Q => ta σ H fun x H1 => ∃ c, x = .bl c ∧ Q (.bl (!c)) H1
theorem pe_one {op} {t : TE} (h : PE X a t) : PE X (.BoolOp op [a] pos) t := fun pins s σ H Q I hw => BoolOp_one (h pins s σ H Q I hw)
theorem pe_and (ha : PE X a ta) (hb : PE X (.BoolOp .And (b :: rest) pos) tb) : PE X (.BoolOp .And (a :: b :: rest) pos) (tAndV ta tb) := by
  intro pins s σ H Q I h
  refine BoolOp_and (thn (ha pins s σ H _ I h) fun v s1 ⟨x, H1, I1, r1, q1⟩ => ?_)
  obtain ⟨c, rfl, q1⟩ := q1
  cases r1
  refine wpAny_truthy_bool ?_
  cases c with
  | true => exact hb pins s1 σ H1 Q I1 q1
  | false => exact ⟨.bl false, H1, I1, rfl, q1⟩
theorem pe_not (ha : PE X a ta) : PE X (.UnaryOp .Not a pos) (tNotV ta) := by
  intro pins s σ H Q I h
  refine UnaryOp_ (thn (ha pins s σ H _ I h) fun v s1 ⟨x, H1, I1, r1, q1⟩ => ?_)
  obtain ⟨c, rfl, q1⟩ := q1
  cases r1
  exact not_of (wpAny_truthy_bool ⟨.bl (!c), H1, I1, rfl, q1⟩)
end
end L2
namespace L2
open PySem PySem.Spec PyProof.Rows
def SqL (K : PySem.W.Frag) (H : Hp) (a : Addr) (xs : List V) : Prop :=
  Rd H a (.lst xs) ∨
    ∃ (o : Obj) (its : Array Value) (n : Nat), K.lookup a = some o ∧ o.cls = .type "list" ∧ o.dict = none ∧ o.data = .seq its n ∧ its.size ≤ sizeLine ∧ Vals xs its.toList
def SqT (K : PySem.W.Frag) (H : Hp) (a : Addr) (xs : List V) : Prop :=
  Rd H a (.tup xs) ∨
    ∃ (o : Obj) (its : Array Value) (n : Nat), K.lookup a = some o ∧ o.cls = .type "tuple" ∧ o.data = .seq its n ∧ its.size ≤ sizeLine ∧ Vals xs its.toList
def absV : Value → Option V
  | .none => some .non
  | .bool b => some (.bl b)
  | .int i _ => some (.int i)
  | .str x _ => some (.str x)
  | .bytes b _ => some (.byt b)
  | .float b _ => some (.flt b)
  | .ref a => some (.ref a)
  | .type n => some (.ty n)
  | _ => none
theorem RelV.abs {x : V} {u : Value} (r : RelV x u) : absV u = some x := by
  cases x with
  | non => cases r; rfl
  | bl _ => cases r; rfl
  | int _ => obtain ⟨t, rfl⟩ := r; rfl
  | str _ => obtain ⟨t, rfl⟩ := r; rfl
  | byt _ => obtain ⟨t, rfl⟩ := r; rfl
  | flt _ => obtain ⟨t, rfl⟩ := r; rfl
  | ref _ => cases r; rfl
  | ty _ => cases r; rfl
theorem RelV.inj {x y : V} {u : Value} (r : RelV x u) (q : RelV y u) : x = y := Option.some.inj (r.abs.symm.trans q.abs)
theorem Vals.inj : ∀ {xs ys : List V} {us : List Value}, Vals xs us → Vals ys us → xs = ys
  | _, _, _, .nil, .nil => rfl
  | _, _, _, .cons r t, .cons r' t' => by rw [r.inj r', Vals.inj t t']
section
variable {X : Cx} {pins : List (Addr × Obj)} {σ : St} {H : Hp} {s : Shared} {a : Addr} {xs ys : List V}
theorem SqL.of {K : PySem.W.Frag} (h : H a = some (.lst xs)) : SqL K H a xs := .inl (.inl h)
theorem SqT.of {K : PySem.W.Frag} (h : H a = some (.tup xs)) : SqT K H a xs := .inl (.inl h)
theorem Inv.list (I : Inv X pins σ H s) (h : SqL X.K H a xs) : ∃ its : List Value, Vals xs its ∧ PlainL s.heap a its.toArray ∧ xs.length ≤ sizeLine := by
  rcases h with h | ⟨o, its, n, hk, hc, hd, hs, hz, r⟩
  · obtain ⟨z, its, n, r, e⟩ := h.ok I.hok
    exact ⟨its, r, ⟨_, n, e, rfl, rfl, rfl⟩, z⟩
  · refine ⟨its.toList, r, ⟨o, n, I.kIn a o hk, hc, hd, by simpa using hs⟩, ?_⟩
    have e := r.length
    simp only [Array.length_toList] at e
    omega
theorem Inv.tuple (I : Inv X pins σ H s) (h : SqT X.K H a xs) : ∃ its : List Value, Vals xs its ∧ IsTup s.heap a its.toArray ∧ xs.length ≤ sizeLine := by
  rcases h with h | ⟨o, its, n, hk, hc, hs, hz, r⟩
  · obtain ⟨z, its, r, p⟩ := h.ok I.hok
    exact ⟨its, r, p.is, z⟩
  · refine ⟨its.toList, r, ⟨o, I.kIn a o hk, hc, n, by simpa using hs⟩, ?_⟩
    have e := r.length
    simp only [Array.length_toList] at e
    omega
theorem Inv.list_inj (I : Inv X pins σ H s) (h : SqL X.K H a xs) (h' : SqL X.K H a ys) : xs = ys := by
  obtain ⟨its, r, ⟨o, n, e, _, _, d⟩, _⟩ := I.list h
  obtain ⟨its', r', ⟨o', n', e', _, _, d'⟩, _⟩ := I.list h'
  rw [e] at e'; cases e'
  rw [d] at d'
  injection d' with d1 _
  have : its = its' := by simpa using congrArg Array.toList d1
  subst this
  exact r.inj r'
theorem Inv.tuple_inj (I : Inv X pins σ H s) (h : SqT X.K H a xs) (h' : SqT X.K H a ys) : xs = ys := by
  obtain ⟨its, r, ⟨o, e, _, n, d⟩, _⟩ := I.tuple h
  obtain ⟨its', r', ⟨o', e', _, n', d'⟩, _⟩ := I.tuple h'
  rw [e] at e'; cases e'
  rw [d] at d'
  injection d' with d1 _
  have : its = its' := by simpa using congrArg Array.toList d1
  subst this
  exact r.inj r'
end
abbrev Cx.wish (X : Cx) (E : Value → Shared → Prop) : Cx := { X with xe := E }
abbrev Cx.nox (X : Cx) : Cx := X.wish fun _ _ => False
theorem Cx.Ok.wish {X : Cx} (ok : X.Ok) (E : Value → Shared → Prop) : (X.wish E).Ok :=
  ⟨ok.mod, ok.kind, ok.glob, ok.blt, ok.above, ok.inj, ok.has, ok.cab, ok.hd, ok.frames, ok.stk, ok.exf, ok.bs, ok.bsz, ok.noex, ok.exfs, ok.funs, ok.frf⟩
theorem Cx.Ok.unwish {X : Cx} {E : Value → Shared → Prop} (ok : (X.wish E).Ok) : X.Ok :=
  ⟨ok.mod, ok.kind, ok.glob, ok.blt, ok.above, ok.inj, ok.has, ok.cab, ok.hd, ok.frames, ok.stk, ok.exf, ok.bs, ok.bsz, ok.noex, ok.exfs, ok.funs, ok.frf⟩
section
variable {X : Cx} {pins : List (Addr × Obj)} {σ : St} {H : Hp} {s : Shared} {E : Value → Shared → Prop}
theorem Inv.wish (I : Inv X pins σ H s) (E : Value → Shared → Prop) : Inv (X.wish E) pins σ H s := ⟨I.ok.wish E, I.os, I.bare, I.base, I.loc, I.cell, I.free, I.freeC, I.pin, I.hok, I.len⟩
theorem Inv.unwish (I : Inv (X.wish E) pins σ H s) : Inv X pins σ H s := ⟨I.ok.unwish, I.os, I.bare, I.base, I.loc, I.cell, I.free, I.freeC, I.pin, I.hok, I.len⟩
theorem SP.unwish {D : Ends} {f : Flow} {s' : Shared} (h : SP (X.wish E) pins D f s') : SP X pins D f s' := by
  cases f with
  | next => obtain ⟨σ', H', I, q⟩ := h; exact ⟨σ', H', I.unwish, q⟩
  | brk => obtain ⟨σ', H', I, q⟩ := h; exact ⟨σ', H', I.unwish, q⟩
  | cont => obtain ⟨σ', H', I, q⟩ := h; exact ⟨σ', H', I.unwish, q⟩
  | ret u => obtain ⟨v, σ', H', I, r, q⟩ := h; exact ⟨v, σ', H', I.unwish, r, q⟩
theorem PSs.nox {st : List Stmt} {t : TS} (h : PSs X.nox st t) : PSs X st t := fun pins s σ H D I hw =>
  wpAny_mono (h pins s σ H D (I.wish _) hw) (fun _ _ q => q.unwish) fun _ _ z => False.elim z
end
section
variable {X : Cx} {st : Stmt} {rest : List Stmt} {t u : TS} {e : Expr} {te : TE} {pos : Pos}
def tNext : TS := fun D σ H => D.nx σ H
def tSeq (t u : TS) : TS := fun D σ H => t { D with nx := u D } σ H
theorem pss_nil : PSs X [] tNext := fun _ _ σ H _ I h => wpAny_execs_nil ⟨σ, H, I, h⟩
theorem pss_cons (h1 : PS X st t) (h2 : PSs X rest u) : PSs X (st :: rest) (tSeq t u) := by
  intro pins s σ H D I h
  refine wpAny_execs_cons (thn (h1 pins s σ H { D with nx := u D } I h) fun f s1 q => ?_)
  cases f with
  | next =>
    obtain ⟨σ', H', I', q⟩ := q
    exact h2 pins s1 σ' H' D I' q
  | ret v => exact q
  | brk => exact q
  | cont => exact q
theorem pss_one (h1 : PS X st t) : PSs X [st] t := by
  intro pins s σ H D I h
  refine wpAny_execs_cons (thn (h1 pins s σ H D I h) fun f s1 q => ?_)
  cases f with
  | next => exact wpAny_execs_nil q
  | ret v => exact q
  | brk => exact q
  | cont => exact q
theorem Inv.quiet {pins : List (Addr × Obj)} {σ : St} {H : Hp} {s : Shared} (I : Inv X pins σ H s) : interactive X.env = false := by simp [interactive, I.ok.kind]
def tDrop (te : TE) : TS := fun D σ H => te σ H fun _ H1 => D.nx σ H1
theorem ps_expr (he : PE X e te) (hs : swapsWith e none pos.line X.env = pure false := by rfl) : PS X (.Expr e pos) (tDrop te) := by
  intro pins s σ H D I h
  exact wpAny_Expr_any (thn (he pins s σ H _ I h) fun v s1 ⟨x, H1, I1, r1, q1⟩ => ⟨σ, H1, I1, q1⟩) I.quiet hs
def tRet (te : TE) : TS := fun D σ H => te σ H D.rt
theorem ps_ret (he : PE X e te) : PS X (.Return (some e) pos) (tRet te) := by
  intro pins s σ H D I h
  exact wpAny_Return_some (thn (he pins s σ H _ I h) fun v s1 ⟨x, H1, I1, r1, q1⟩ => ⟨x, σ, H1, I1, r1, q1⟩)
def tIfS (c : TT) (t u : TS) : TS := fun D σ H => c σ H fun b H1 => if b = true then t D σ H1 else u D σ H1
theorem ps_if {c : Expr} {a b : List Stmt} {tc : TT} (hc : PT X c tc) (ha : PSs X a t) (hb : PSs X b u) : PS X (.If c a b pos) (tIfS tc t u) := by
  intro pins s σ H D I h
  refine wpAny_If (thn (hc pins s σ H _ I h) fun d s1 ⟨H1, I1, q1⟩ => ?_)
  cases d with
  | true => exact ha pins s1 σ H1 D I1 q1
  | false => exact hb pins s1 σ H1 D I1 q1
end
abbrev TG := V → St → Hp → (St → Hp → Prop) → Prop
abbrev TGs := List V → St → Hp → (St → Hp → Prop) → Prop
def PG (X : Cx) (target : Expr) (t : TG) : Prop :=
  ∀ (pins : List (Addr × Obj)) (s : Shared) (σ : St) (H : Hp) (v : V) (u : Value) (Q : St → Hp → Prop), Inv X pins σ H s → RelV v u → t v σ H Q →
    wpAny (model X.prog X.w) X.A (assign target X.env u) (fun _ s' => ∃ σ' H', Inv X pins σ' H' s' ∧ Q σ' H') X.xe s
def PGs (X : Cx) (ts : List Expr) (t : TGs) : Prop :=
  ∀ (pins : List (Addr × Obj)) (s : Shared) (σ : St) (H : Hp) (vs : List V) (us : List Value) (Q : St → Hp → Prop), Inv X pins σ H s → Vals vs us → t vs σ H Q →
    wpAny (model X.prog X.w) X.A (assignInOrder ((assignEach ts X.env).map (·.2)) us) (fun _ s' => ∃ σ' H', Inv X pins σ' H' s' ∧ Q σ' H') X.xe s
abbrev TSet := V → V → V → Hp → (Hp → Prop) → Prop
def PSet (X : Cx) (t : TSet) : Prop :=
  ∀ (pins : List (Addr × Obj)) (s : Shared) (σ : St) (H : Hp) (o i v : V) (ov iv u : Value) (Q : Hp → Prop), Inv X pins σ H s → RelV o ov → RelV i iv → RelV v u → t o i v H Q →
    wpAny (model X.prog X.w) X.A (setItem ov iv u) (fun _ s' => ∃ H', Inv X pins σ H' s' ∧ Q H') X.xe s
section
variable {X : Cx} {pos : Pos}
def gName (i : Nat) : TG := fun v σ H Q => Q (σ.set i (some v)) H
theorem pg_name {i : Nat} {x : Str} (hN : X.N.Nodup) (hi : X.N[i]? = some x) (hx : Loc X.env.scope x) (hf : X.fn x = true ∨ X.env.scope.names.lookup x = some .local := by first | exact .inl rfl | exact .inr rfl | assumption) : PG X (.Name x pos) (gName i) := by
  intro pins s σ H v u Q I r h
  exact wpAny_assign_Name (store_ok I hN hi hx r (fun s' I' => ⟨_, H, I', h⟩) hf)
def gNil : TGs := fun vs σ H Q => vs = [] ∧ Q σ H
def gCons (t : TG) (u : TGs) : TGs := fun vs σ H Q => ∃ v r, vs = v :: r ∧ t v σ H fun σ' H' => u r σ' H' Q
theorem pgs_nil : PGs X [] gNil := by
  intro pins s σ H vs us Q I r h
  obtain ⟨e, h⟩ := h
  subst e
  cases r
  exact assignInOrder_nil ⟨σ, H, I, h⟩
theorem pgs_cons {e : Expr} {es : List Expr} {t : TG} {u : TGs} (h1 : PG X e t) (h2 : PGs X es u)
    (hs : (assignEach (e :: es) X.env).map (·.2) = assign e X.env :: (assignEach es X.env).map (·.2) := by rfl) : PGs X (e :: es) (gCons t u) := by
  intro pins s σ H vs us Q I r h
  obtain ⟨v, vr, e1, h⟩ := h
  subst e1
  cases r with
  | cons r rr =>
    rw [hs]
    refine assignInOrder_cons (thn (h1 pins s σ H _ _ _ I r h) fun _ s1 ⟨σ1, H1, I1, q1⟩ => ?_)
    exact h2 pins s1 σ1 H1 _ _ Q I1 rr q1
def gTup (K : PySem.W.Frag) (n : Nat) (t : TGs) : TG := fun v σ H Q => ∃ a xs, v = .ref a ∧ SqT K H a xs ∧ xs.length = n ∧ t xs σ H Q
theorem pg_tup {es : List Expr} {k : Nat} {t : TGs} {n : Nat} (hc : X.calm = true) (h : PGs X es t)
    (hn : (assignEach es X.env).length = n := by rfl) (hst : (assignEach es X.env).findIdx? (·.1) = none := by rfl) : PG X (.Tuple es k pos) (gTup X.K n t) := by
  intro pins s σ H v u Q I r hw
  obtain ⟨a, xs, e1, hq, hl, hw⟩ := hw
  subst e1
  cases r
  obtain ⟨its, rv, ht, hz⟩ := I.tuple hq
  refine assign_Tuple_tuple (I.ok.hd hc) ht (by simp [hn, ← hl, rv.length]) hst fun h' hx => ?_
  have I1 : Inv X pins σ H { s with heap := h' } := I.kept (t' := s.toks) fun b o e => hx b o (Nat.ne_of_lt (Heap.lt_size e)) e
  exact h pins _ σ H xs _ Q I1 (by simpa using rv) hw
def gSub (to ti : TE) (t : TSet) : TG := fun v σ H Q => to σ H fun o H1 => ti σ H1 fun i H2 => t o i v H2 fun H3 => Q σ H3
theorem pg_sub {o i : Expr} {to ti : TE} {t : TSet} (ho : PE X o to) (hi : PE X i ti) (hs : PSet X t)
    (ha : ∀ v, assign (.Subscript o i pos) X.env v = (do
      let ov ← holding [v] (eval o X.env)
      let iv ← holding [v, ov] (eval i X.env)
      standAt pos
      holding [v, ov, iv] (setItem ov iv v)
      release [v, ov, iv] []) := by intro _; rfl) : PG X (.Subscript o i pos) (gSub to ti t) := by
  intro pins s σ H v u Q I r h
  rw [ha]
  refine wpAny_bind (wpAny_holding (thn (ho pins s σ H _ I h) fun ov s1 ⟨x, H1, I1, r1, q1⟩ => ?_))
  refine wpAny_bind (wpAny_holding (thn (hi pins s1 σ H1 _ I1 q1) fun iv s2 ⟨y, H2, I2, r2, q2⟩ => ?_))
  refine wpAny_bind (wpAny_standAt (wpAny_bind (wpAny_holding (thn (hs pins s2 σ H2 x y v ov iv u _ I2 r1 r2 r q2) fun _ s3 ⟨H3, I3, q3⟩ => ?_))))
  exact wpAny_release ⟨σ, H3, I3, q3⟩
def tAsg (te : TE) (g : TG) : TS := fun D σ H => te σ H fun x H1 => g x σ H1 D.nx
theorem ps_asg {tg e : Expr} {te : TE} {g : TG} (he : PE X e te) (hg : PG X tg g) (hs : swapsWithSole [tg] e pos.line X.env = pure false := by rfl) (hw : swappedStores [tg] e X.env = pure none := by rfl)
    (h1 : (assignEach [tg] X.env).map (·.2) = [assign tg X.env] := by rfl) : PS X (.Assign [tg] e pos) (tAsg te g) := by
  intro pins s σ H D I h
  refine wpAny_Assign_stores (thn (he pins s σ H _ I h) fun v s1 ⟨x, H1, I1, r1, q1⟩ => ?_) hs hw
  rw [h1]
  exact thn (hg pins s1 σ H1 x v _ I1 r1 q1) fun _ s2 q => q
theorem ps_set {i : Nat} {x : Str} {e : Expr} {te : TE} {pos' : Pos} (hN : X.N.Nodup) (hi : X.N[i]? = some x) (hx : Loc X.env.scope x) (he : PE X e te) (hs : swapsWith e (some (.Name x pos')) pos.line X.env = pure false := by rfl) (hf : X.fn x = true ∨ X.env.scope.names.lookup x = some .local := by first | exact .inl rfl | exact .inr rfl | assumption) :
    PS X (.Assign [.Name x pos'] e pos) (tAsg te (gName i)) := by
  intro pins s σ H D I h
  refine wpAny_Assign_Name (thn (he pins s σ H _ I h) fun v s1 ⟨y, H1, I1, r1, q1⟩ => ?_) hs
  exact store_ok I1 hN hi hx r1 (fun s2 I2 => ⟨_, H1, I2, q1⟩) hf
def tPar (i j : Nat) (ta : TA) : TS := fun D σ H => ta σ H fun vs H1 => ∃ v w, vs = [v, w] ∧ D.nx ((σ.set i (some v)).set j (some w)) H1
theorem ps_par {i j : Nat} {x y : Str} {a b : Expr} {ta : TA} {px py pt : Pos} {kt k2 pt2} (hc : X.calm = true) (hN : X.N.Nodup) (hi : X.N[i]? = some x) (hj : X.N[j]? = some y) (hij : i ≠ j)
    (hx : X.env.scope.names.lookup x = some .local) (hy : X.env.scope.names.lookup y = some .local) (ha : PA X [a, b] ta)
    (hw : swappedStores [.Tuple [.Name x px, .Name y py] kt pt] (.Tuple [a, b] k2 pt2) X.env = pure (some [x, y]))
    (hs : swapsWithSole [.Tuple [.Name x px, .Name y py] kt pt] (.Tuple [a, b] k2 pt2) pos.line X.env = pure false := by rfl) :
    PS X (.Assign [.Tuple [.Name x px, .Name y py] kt pt] (.Tuple [a, b] k2 pt2) pos) (tPar i j ta) := by
  intro pins s σ H D I h
  rw [exec_Assign_arm]
  refine wpAny_bind (wpAny_standAt ?_)
  rw [hs]
  refine wpAny_bind (wpAny_pure ?_)
  rw [if_neg (by decide)]
  refine wpAny_bind (Tuple_ (thn (ha _ pins s σ H _ I h) fun us s1 ⟨vs, H1, I1, r1, q1⟩ => ?_))
  obtain ⟨v, w, e1, q1⟩ := q1
  subst e1
  obtain ⟨u1, u2, rfl, rv, rw'⟩ : ∃ u1 u2, us = [u1, u2] ∧ RelV v u1 ∧ RelV w u2 := by
    cases r1 with
    | cons p q =>
      cases q with
      | cons p' q' =>
        cases q'
        exact ⟨_, _, rfl, p, p'⟩
  refine wpAny_newObj_type ?_ (by show 2 ≤ sizeLine; decide)
  have I2 : Inv X pins σ H1 { s1 with heap := s1.heap.push { cls := .type "tuple", data := .seq [u1, u2].toArray } } := I1.kept (t' := s1.toks) fun b o e => Heap.get?_push_of_some _ e
  rw [hw]
  refine wpAny_bind (wpAny_pure ?_)
  show wpAny (model X.prog X.w) X.A (do rule "assign.swapped-stores"; let items ← unpackItems (.ref s1.heap.objs.size) 2 none; assignInOrder [fun v => bindName X.env y v, fun v => bindName X.env x v] items.reverse; pure Flow.next) _ _ _
  refine wpAny_bind (wpAny_rule (wpAny_bind (unpackItems_tuple (items := #[u1, u2]) (I.ok.hd hc) (IsTup.new s1.heap _) fun h' hx' => ?_)))
  have I3 := I2.kept (h' := h') (t' := s1.toks) fun b o e => hx' b o (Nat.ne_of_lt (Heap.lt_size e)) e
  show wpAny _ _ (assignInOrder [fun v => bindName X.env y v, fun v => bindName X.env x v] [u2, u1] >>= fun _ => pure Flow.next) _ _ _
  refine wpAny_bind (assignInOrder_cons (wpAny_bindName (store_ok I3 hN hj (.inl hy) rw' (fun s2 I4 => ?_) (.inr hy))))
  refine assignInOrder_cons (wpAny_bindName (store_ok I4 hN hi (.inl hx) rv (fun s3 I5 => assignInOrder_nil (wpAny_pure ?_)) (.inr hx)))
  rw [List.set_comm _ _ (Ne.symm hij)] at I5
  exact ⟨_, H1, I5, q1⟩
end
structure It where
  go : Nat → Hp → Prop
  yld : Nat → Hp → V → Hp → Prop
  stop : Nat → Hp → Prop
def FpOk (X : Cx) (pins : List (Addr × Obj)) (H : Hp) (b : Addr) : Prop :=
  H b = none ∧ b ≠ X.env.locals ∧ b ∉ X.fs ∧ (b ∈ X.ex ∨ X.s₀.heap.objs.size ≤ b) ∧ (∀ x c, X.env.cells.lookup x = some c → c ≠ b) ∧ ∀ p ∈ X.pn ++ pins, p.1 ≠ b
theorem Inv.fpOk {X : Cx} {pins : List (Addr × Obj)} {σ : St} {H H' : Hp} {s : Shared} {b : Addr} (I : Inv X pins σ H s) (hb : s.heap.objs.size ≤ b) (hn : H' b = none) : FpOk X pins H' b := by
  refine ⟨hn, Nat.ne_of_gt (Nat.lt_of_lt_of_le I.lt hb), I.nofs hb, .inr (Nat.le_trans I.sz hb), fun x c e z => ?_, fun p hp z => ?_⟩
  · obtain ⟨v, q⟩ := I.cell x c e
    exact absurd (Nat.lt_of_lt_of_le q.lt (by rw [z]; exact hb)) (Nat.lt_irrefl _)
  · exact absurd (Nat.lt_of_lt_of_le (Heap.lt_size (I.pin p hp).1) (by rw [z]; exact hb)) (Nat.lt_irrefl _)
structure Turn (P : Program) (w : World) (K : PySem.W.Frag) (tg : Expr) (J : It) (fp : List Addr) (it : Addr) (tn : Nat → Heap → Prop) : Prop where
  mem : it ∈ fp
  obj : ∀ i h, tn i h → ∀ b ∈ fp, ∃ o, h.get? b = some o ∧ ∀ v, o.data ≠ .cell v
  keep : ∀ i h h', tn i h → (∀ b ∈ fp, ∀ o, h.get? b = some o → h'.get? b = some o) → tn i h'
  item : ∀ (X : Cx), X.prog = P → X.w = w → X.K = K → X.calm = true → ∀ (i : Nat) (pins : List (Addr × Obj)) (s : Shared) (σ : St) (H : Hp) (E : Value → Shared → Prop), Inv X pins σ H s → (∀ b ∈ fp, FpOk X pins H b) → tn i s.heap → J.go i H →
    wpAny (model P w) X.A (pyNext (.ref it)) (fun r s1 => ∃ u, r = some u ∧
      wpAny (model P w) X.A (letOwnedTupleGo tg (.ref it) u) (fun _ s2 => ∃ x H', Inv X pins σ H' s2 ∧ RelV x u ∧ J.yld i H x H' ∧ tn (i + 1) s2.heap ∧ ∀ b ∈ fp, H' b = none) E s1) E s
  done : ∀ (X : Cx), X.prog = P → X.w = w → X.K = K → X.calm = true → ∀ (i : Nat) (pins : List (Addr × Obj)) (s : Shared) (σ : St) (H : Hp) (E : Value → Shared → Prop), Inv X pins σ H s → (∀ b ∈ fp, FpOk X pins H b) → tn i s.heap → J.stop i H →
    wpAny (model P w) X.A (pyNext (.ref it)) (fun r s1 => r = none ∧ Inv X pins σ H s1) E s
  self : ∀ (A : Around) (i : Nat) (s : Shared) (Q : Value → Shared → Prop) (E : Value → Shared → Prop), tn i s.heap → Q (.ref it) s → wpAny (model P w) A (pyIter (.ref it)) Q E s
abbrev TI := St → Hp → (It → Hp → Prop) → Prop
def PIE (X : Cx) (pins : List (Addr × Obj)) (σ : St) (tg : Expr) (R : It → Hp → Prop) (itv : Value) (s2 : Shared) : Prop :=
  ∃ (it : Addr) (fp : List Addr) (tn : Nat → Heap → Prop) (J : It) (H' : Hp), itv = .ref it ∧ Inv X pins σ H' s2 ∧ Turn X.prog X.w X.K tg J fp it tn ∧ tn 0 s2.heap ∧ (∀ b ∈ fp, FpOk X pins H' b) ∧ R J H'
def PI (X : Cx) (tg iter : Expr) (wi : TI) : Prop :=
  ∀ (pins : List (Addr × Obj)) (s : Shared) (σ : St) (H : Hp) (R : It → Hp → Prop), Inv X pins σ H s → wi σ H R →
    wpAny (model X.prog X.w) X.A (eval iter X.env) (fun v s1 => wpAny (model X.prog X.w) X.A (pyIter v) (PIE X pins σ tg R) X.xe s1) X.xe s
theorem go_of {M : Model} {A : Around} {E : Value → Shared → Prop} {s : Shared} {tg : Expr} {it : Addr} {u : Value} {o : Obj} {n : String} {vs : Array Value} {Q : Unit → Shared → Prop} (ho : s.heap.get? it = some o) (hc : o.cls = .type n) (hd : o.data = .fields vs)
    (hn : ["enumerate", "zip", "dict_itemiterator", "dict_reverseitemiterator", "odict_iterator", "itertools.zip_longest", "itertools.pairwise"].contains n = false) (hQ : Q () s) : wpAny M A (letOwnedTupleGo tg (.ref it) u) Q E s := by
  unfold letOwnedTupleGo
  cases tg <;> first
    | exact wpAny_pure hQ
    | (cases u <;> first
        | exact wpAny_pure hQ
        | (refine wpAny_bind (wpAny_load ho ?_)
           rw [hc, hd]
           show wpAny M A (if (["enumerate", "zip", "dict_itemiterator", "dict_reverseitemiterator", "odict_iterator", "itertools.zip_longest", "itertools.pairwise"].contains n && vs[0]? == some (rawInt _)) = true then _ else _) Q E s
           rw [if_neg (by intro h; rw [hn, Bool.false_and] at h; cases h)]
           exact wpAny_pure hQ))
def Itl (K : PySem.W.Frag) (a : Addr) : It :=
  ⟨fun i H => ∃ xs x, SqL K H a xs ∧ xs[i]? = some x, fun i H x H' => H' = H ∧ ∀ xs, SqL K H a xs → xs[i]? = some x, fun i H => ∃ xs, SqL K H a xs ∧ xs.length ≤ i⟩
def Itt (K : PySem.W.Frag) (a : Addr) : It :=
  ⟨fun i H => ∃ xs x, SqT K H a xs ∧ xs[i]? = some x, fun i H x H' => H' = H ∧ ∀ xs, SqT K H a xs → xs[i]? = some x, fun i H => ∃ xs, SqT K H a xs ∧ xs.length ≤ i⟩
def Itr (lo : Int) (n : Nat) : It := ⟨fun i _ => i < n, fun i H x H' => H' = H ∧ x = .int (lo + i), fun i _ => n ≤ i⟩
theorem turn_list {P : Program} {w : World} {K : PySem.W.Frag} {tg : Expr} (a it : Addr) : Turn P w K tg (Itl K a) [it] it (fun i h => h.IsListIter it a i) where
  mem := by simp
  obj := fun i h st b hb => by
    have e : b = it := by simpa using hb
    subst e
    obtain ⟨o, e, c, d⟩ := st
    exact ⟨o, e, fun v z => by rw [d] at z; cases z⟩
  keep := fun i h h' st k => st.at fun o e => k it (by simp) o e
  item := by
    intro X hP hw hK hc i pins s σ H E I hf st hg
    subst hP hw hK
    obtain ⟨xs, x, hq, hx⟩ := hg
    obtain ⟨its, rv, p, hz⟩ := I.list hq
    obtain ⟨u, hu, ru⟩ := rv.get hx
    obtain ⟨f0, f1, f2, f3, f4, f5⟩ := hf it (by simp)
    refine wpAny_pyNext_list_item st p.isList (x := u) (by simpa using hu) fun h' st' sb => ?_
    have I1 : Inv X pins σ H { s with heap := h' } := I.turned (t' := s.toks) (fun b o hb e => (sb.2 b hb).trans e) f0 f1 f3 f4 f5
    obtain ⟨o, e, c, d⟩ := id st'
    exact ⟨u, rfl, go_of (s := { s with heap := h' }) e c d (by decide) ⟨x, H, I1, ru, ⟨rfl, fun ys hy => by rw [I.list_inj hy hq]; exact hx⟩, st', fun b hb => (hf b hb).1⟩⟩
  done := by
    intro X hP hw hK hc i pins s σ H E I hf st hg
    subst hP hw hK
    obtain ⟨xs, hq, hx⟩ := hg
    obtain ⟨its, rv, p, hz⟩ := I.list hq
    obtain ⟨f0, f1, f2, f3, f4, f5⟩ := hf it (by simp)
    have hl := rv.length
    exact wpAny_pyNext_list_end (I.ok.hd hc) st p.isList (by simp; omega) fun h' eb => ⟨rfl, I.turned (t' := s.toks) (fun b o hb e => eb b o hb e) f0 f1 f3 f4 f5⟩
  self := fun _ _ _ _ _ st h => wpAny_pyIter_listiter st h
theorem turn_tuple {P : Program} {w : World} {K : PySem.W.Frag} {tg : Expr} (a it : Addr) : Turn P w K tg (Itt K a) [it] it (fun i h => h.IsTupleIter it a i) where
  mem := by simp
  obj := fun i h st b hb => by
    have e : b = it := by simpa using hb
    subst e
    obtain ⟨o, e, c, d⟩ := st
    exact ⟨o, e, fun v z => by rw [d] at z; cases z⟩
  keep := fun i h h' st k => st.at fun o e => k it (by simp) o e
  item := by
    intro X hP hw hK hc i pins s σ H E I hf st hg
    subst hP hw hK
    obtain ⟨xs, x, hq, hx⟩ := hg
    obtain ⟨its, rv, p, hz⟩ := I.tuple hq
    obtain ⟨u, hu, ru⟩ := rv.get hx
    obtain ⟨f0, f1, f2, f3, f4, f5⟩ := hf it (by simp)
    refine wpAny_pyNext_tuple_item st (show s.heap.IsTuple a its.toArray from p) (x := u) (by simpa using hu) fun h' st' sb => ?_
    have I1 : Inv X pins σ H { s with heap := h' } := I.turned (t' := s.toks) (fun b o hb e => (sb.2 b hb).trans e) f0 f1 f3 f4 f5
    obtain ⟨o, e, c, d⟩ := id st'
    exact ⟨u, rfl, go_of (s := { s with heap := h' }) e c d (by decide) ⟨x, H, I1, ru, ⟨rfl, fun ys hy => by rw [I.tuple_inj hy hq]; exact hx⟩, st', fun b hb => (hf b hb).1⟩⟩
  done := by
    intro X hP hw hK hc i pins s σ H E I hf st hg
    subst hP hw hK
    obtain ⟨xs, hq, hx⟩ := hg
    obtain ⟨its, rv, p, hz⟩ := I.tuple hq
    obtain ⟨f0, f1, f2, f3, f4, f5⟩ := hf it (by simp)
    have hl := rv.length
    exact wpAny_pyNext_tuple_end (I.ok.hd hc) st (show s.heap.IsTuple a its.toArray from p) (by simp; omega) fun h' eb => ⟨rfl, I.turned (t' := s.toks) (fun b o hb e => eb b o hb e) f0 f1 f3 f4 f5⟩
  self := fun _ _ _ _ _ st h => wpAny_pyIter_tupleiter st h
theorem turn_range {P : Program} {w : World} {K : PySem.W.Frag} {tg : Expr} (it : Addr) (lo : Int) (n : Nat) : Turn P w K tg (Itr lo n) [it] it (fun i h => IsRangeIter h it (lo + (i : Nat) * 1) ((n : Int) - (i : Nat)) 1) where
  mem := by simp
  obj := fun i h st b hb => by
    have e : b = it := by simpa using hb
    subst e
    exact ⟨_, st, fun v z => by
      have z' : Data.fields _ = Data.cell v := z
      cases z'⟩
  keep := fun i h h' st k => k it (by simp) _ st
  item := by
    intro X hP hw hK hc i pins s σ H E I hf st hg
    subst hP hw hK
    obtain ⟨f0, f1, f2, f3, f4, f5⟩ := hf it (by simp)
    have W := Walks.range (prog := X.prog) (w := X.w) (I.ok.hd hc) it lo 1 n
    refine W.item i s _ _ hg st fun v h' tk hv st' kk => ?_
    obtain ⟨t, rfl⟩ := hv
    have I1 : Inv X pins σ H { s with heap := h', toks := tk } := I.turned (fun b o hb e => kk b o (by simpa using hb) e) f0 f1 f3 f4 f5
    refine ⟨_, rfl, go_of (s := { s with heap := h', toks := tk }) (n := "range_iterator") st' rfl rfl (by decide) ⟨.int (lo + i), H, I1, ⟨t, ?_⟩, ⟨rfl, rfl⟩, st', fun b hb => (hf b hb).1⟩⟩
    rw [Int.mul_one]
  done := by
    intro X hP hw hK hc i pins s σ H E I hf st hg
    subst hP hw hK
    obtain ⟨f0, f1, f2, f3, f4, f5⟩ := hf it (by simp)
    exact wpAny_pyNext_range_end (I.ok.hd hc) st (by have : n ≤ i := hg; omega) fun h' eb => ⟨rfl, I.turned (t' := s.toks) (fun b o hb e => eb b o hb e) f0 f1 f3 f4 f5⟩
  self := fun _ _ _ _ _ st h => wpAny_pyIter_rangeiter st h
end L2
namespace L2
open PySem PySem.Spec PyProof.Rows
section
variable {X : Cx} {tg : Expr}
def iList (K : PySem.W.Frag) (tl : TE) : TI := fun σ H R => tl σ H fun x H1 => ∃ a, x = .ref a ∧ (∃ xs, SqL K H1 a xs) ∧ R (Itl K a) H1
def iTup (K : PySem.W.Frag) (tl : TE) : TI := fun σ H R => tl σ H fun x H1 => ∃ a, x = .ref a ∧ (∃ xs, SqT K H1 a xs) ∧ R (Itt K a) H1
theorem pi_list {l : Expr} {tl : TE} (hl : PE X l tl) : PI X tg l (iList X.K tl) := by
  intro pins s σ H R I h
  refine thn (hl pins s σ H _ I h) fun v s1 ⟨x, H1, I1, r1, q1⟩ => ?_
  obtain ⟨a, e, ⟨xs, hq⟩, q⟩ := q1
  subst e
  cases r1
  obtain ⟨its, rv, p, hz⟩ := I1.list hq
  refine wpAny_pyIter_list p.isList ?_
  refine ⟨s1.heap.objs.size, [s1.heap.objs.size], _, _, H1, rfl, I1.kept (t' := s1.toks) fun b o e => Heap.get?_push_of_some _ e, turn_list a _, ⟨_, Heap.get?_push_size _ rfl, rfl, rfl⟩, fun b hb => ?_, q⟩
  have e : b = s1.heap.objs.size := by simpa using hb
  subst e
  exact I1.fpOk (Nat.le_refl _) (I1.hok.fresh (Nat.le_refl _))
theorem pi_tup {l : Expr} {tl : TE} (hl : PE X l tl) : PI X tg l (iTup X.K tl) := by
  intro pins s σ H R I h
  refine thn (hl pins s σ H _ I h) fun v s1 ⟨x, H1, I1, r1, q1⟩ => ?_
  obtain ⟨a, e, ⟨xs, hq⟩, q⟩ := q1
  subst e
  cases r1
  obtain ⟨its, rv, p, hz⟩ := I1.tuple hq
  refine wpAny_pyIter_tuple (show s1.heap.IsTuple a its.toArray from p) ?_
  refine ⟨s1.heap.objs.size, [s1.heap.objs.size], _, _, H1, rfl, I1.kept (t' := s1.toks) fun b o e => Heap.get?_push_of_some _ e, turn_tuple a _, ⟨_, Heap.get?_push_size _ rfl, rfl, rfl⟩, fun b hb => ?_, q⟩
  have e : b = s1.heap.objs.size := by simpa using hb
  subst e
  exact I1.fpOk (Nat.le_refl _) (I1.hok.fresh (Nat.le_refl _))
theorem range_it {pins : List (Addr × Obj)} {σ : St} {H : Hp} {s : Shared} {R : It → Hp → Prop} {E : Value → Shared → Prop} {lo hi : Int} {t u v : Tok} {tk : Nat} (I : Inv X pins σ H s) (h1 : -(2 ^ 62) ≤ lo) (h2 : lo < 2 ^ 62) (h3 : -(2 ^ 62) ≤ hi) (h4 : hi < 2 ^ 62)
    (q : R (Itr lo (hi - lo).toNat) H) : wpAny (model X.prog X.w) X.A (pyIter (.ref s.heap.objs.size)) (PIE X pins σ tg R) E { s with heap := s.heap.push { cls := .type "range", data := .fields #[.int lo t, .int hi u, .int 1 v] }, toks := tk } := by
  refine wpAny_pyIter_range (IsRange.new ..) (small_one h1 h2 h3 h4) ?_
  have I1 : Inv X pins σ H { s with heap := s.heap.push { cls := .type "range", data := .fields #[.int lo t, .int hi u, .int 1 v] }, toks := tk } := I.kept fun b o e => Heap.get?_push_of_some _ e
  refine ⟨(s.heap.push { cls := .type "range", data := .fields #[.int lo t, .int hi u, .int 1 v] }).objs.size, [(s.heap.push { cls := .type "range", data := .fields #[.int lo t, .int hi u, .int 1 v] }).objs.size], _, _, H, rfl,
    I1.kept (t' := tk) fun b o e => Heap.get?_push_of_some _ e, turn_range _ lo (hi - lo).toNat, ?_, fun b hb => ?_, q⟩
  · have e1 : lo + ((0 : Nat) : Int) * 1 = lo := by simp
    have e2 : (((hi - lo).toNat : Nat) : Int) - ((0 : Nat) : Int) = Builtin.Range.rangeSize lo hi 1 := by rw [rangeSize_one]; split <;> omega
    show IsRangeIter _ _ (lo + ((0 : Nat) : Int) * 1) ((((hi - lo).toNat : Nat) : Int) - ((0 : Nat) : Int)) 1
    rw [e1, e2]
    exact Heap.get?_push_size _ rfl
  · have e : b = (s.heap.push { cls := .type "range", data := .fields #[.int lo t, .int hi u, .int 1 v] }).objs.size := by simpa using hb
    subst e
    exact I1.fpOk (Nat.le_refl _) (I1.hok.fresh (Nat.le_refl _))
def iRng1 (ta : TA) : TI := fun σ H R => ta σ H fun vs H1 => ∃ j : Int, vs = [.int j] ∧ -(2 ^ 62) ≤ j ∧ j < 2 ^ 62 ∧ R (Itr 0 j.toNat) H1
theorem pi_range1 {a : Expr} {ta : TA} {p pos : Pos} (hg : Gl X "range") (hm : X.mg "range" = none) (ha : PA X [a] ta) (hs : starEach [a] X.env = [(false, eval a X.env)] := by rfl) : PI X tg (.Call (.Name "range" p) [a] [] pos) (iRng1 ta) := by
  intro pins s σ H R I h
  refine Call_ (ld_blt I hg hm boot_range (PyProof.Rows.callWith_type1 (thn (ha pos pins s σ H _ I h) fun us s1 ⟨vs, H1, I1, r1, q1⟩ => ?_) hs rfl))
  obtain ⟨j, e, q1, q2, q⟩ := q1
  subst e
  cases r1 with
  | cons r rr =>
    cases rr
    obtain ⟨t, rfl⟩ := r
    exact call_range_1 (range_it I1 (by omega) (by omega) q1 q2 (by simpa using q))
def tFor (wi : TI) (g : TG) (tb : TS) : TS := fun D σ H => wi σ H fun J H1 => ∃ W : Nat → Nat → St → Hp → Prop, (∃ m, W 0 m σ H1) ∧ ∀ i m σ H, W i m σ H →
  (J.stop i H ∧ D.nx σ H) ∨ (J.go i H ∧ ∃ N : St → Hp → Prop, (∀ σ' H', N σ' H' → ∃ m', m' < m ∧ W (i + 1) m' σ' H') ∧ ∀ x H', J.yld i H x H' → g x σ H' fun σ2 H2 => tb { D with nx := N, ct := N, bk := D.nx } σ2 H2)
def pinsAt (fp : List Addr) (h : Heap) : List (Addr × Obj) := fp.filterMap fun b => (h.get? b).map fun o => (b, o)
theorem mem_pinsAt {fp : List Addr} {h : Heap} {b : Addr} {o : Obj} (hb : b ∈ fp) (e : h.get? b = some o) : (b, o) ∈ pinsAt fp h := List.mem_filterMap.mpr ⟨b, hb, by rw [e]; rfl⟩
theorem of_pinsAt {fp : List Addr} {h : Heap} {p : Addr × Obj} (hp : p ∈ pinsAt fp h) : p.1 ∈ fp ∧ h.get? p.1 = some p.2 := by
  obtain ⟨b, hb, e⟩ := List.mem_filterMap.mp hp
  cases q : h.get? b with
  | none => rw [q] at e; cases e
  | some o =>
    rw [q] at e
    have e' : (b, o) = p := Option.some.inj e
    subst e'
    exact ⟨hb, q⟩
theorem Inv.pinned {pins : List (Addr × Obj)} {σ : St} {H : Hp} {s : Shared} {fp : List Addr} (I : Inv X pins σ H s) (hf : ∀ b ∈ fp, FpOk X pins H b) (ho : ∀ b ∈ fp, ∃ o, s.heap.get? b = some o ∧ ∀ v, o.data ≠ .cell v) : Inv X (pins ++ pinsAt fp s.heap) σ H s :=
  I.pins_of fun p hp => (List.mem_append.mp hp).elim (fun z => I.pin p (List.mem_append_right _ z)) fun z => by
    obtain ⟨hb, e⟩ := of_pinsAt z
    obtain ⟨f0, f1, f2, _⟩ := hf p.1 hb
    obtain ⟨o, e', d⟩ := ho p.1 hb
    rw [e] at e'; cases e'
    exact ⟨e, f0, f1, f2, d⟩
theorem Inv.unpinned {pins pl : List (Addr × Obj)} {σ : St} {H : Hp} {s : Shared} (I : Inv X (pins ++ pl) σ H s) : Inv X pins σ H s := I.pins_of fun p hp => I.pin p (List.mem_append_right _ (List.mem_append_left _ hp))
theorem ps_for {iter : Expr} {body : List Stmt} {wi : TI} {g : TG} {tb : TS} {pos : Pos} (hp : PassesOwn (model X.prog X.w) X.A X.env X.xe) (hc : X.calm = true) (hi : PI X tg iter wi) (hg : PG X tg g) (hb : PSs X body tb)
    (hs : ∀ x, foldedSetIterable iter X.env x = pure x := by intro _; rfl) : PS X (.For tg iter body [] pos) (tFor wi g tb) := by
  intro pins s σ H D I h
  refine wpAny_For (thn (hi pins s σ H _ I h) fun v s1 h1 => thn h1 fun itv s2 h2 => ?_) hs
  obtain ⟨it, fp, tn, J, H2, e, I2, T, st2, f2, W, ⟨m0, w0⟩, turn⟩ := h2
  subst e
  have stat : ∀ {H' : Hp}, (∀ b ∈ fp, H' b = none) → ∀ b ∈ fp, FpOk X pins H' b := fun hn b hb => ⟨hn b hb, (f2 b hb).2⟩
  refine codeAny_forLoop_any (fun n s' => ∃ i σ' H', Inv X pins σ' H' s' ∧ tn i s'.heap ∧ (∀ b ∈ fp, H' b = none) ∧ W i n σ' H') ?_ m0 ⟨0, σ, H2, I2, st2, fun b hb => (f2 b hb).1, w0⟩
  rintro n s3 ⟨i, σ3, H3, I3, st3, fr3, w3⟩
  rcases turn i n σ3 H3 w3 with ⟨stop, qn⟩ | ⟨go, N, hN, step⟩
  · refine wpAny_passesOwn hp (thn (T.done X rfl rfl rfl hc i pins s3 σ3 H3 X.xe I3 (stat fr3) st3 stop) fun r s4 ⟨hr, I4⟩ => ?_)
    subst hr
    exact wpAny_execs_nil ⟨σ3, H3, I4, qn⟩
  · refine wpAny_passesOwn hp (thn (T.item X rfl rfl rfl hc i pins s3 σ3 H3 X.xe I3 (stat fr3) st3 go) fun r s4 ⟨u, hr, h4⟩ => ?_)
    subst hr
    refine wpAny_passesOwn hp (thn h4 fun _ s5 ⟨x, H5, I5, r5, y5, st5, fr5⟩ => ?_)
    have I5' := I5.pinned (stat fr5) (T.obj _ _ st5)
    refine wpAny_passesOwn hp (thn (hg _ s5 σ3 H5 x u _ I5' r5 (step x H5 y5)) fun _ s6 ⟨σ6, H6, I6, q6⟩ => ?_)
    refine wpAny_passesOwn hp (thn (hb _ s6 σ6 H6 _ I6 q6) fun f s7 q7 => ?_)
    have again : ∀ {σ7 : St} {H7 : Hp}, Inv X (pins ++ pinsAt fp s5.heap) σ7 H7 s7 → N σ7 H7 → ∃ m, m < n ∧ ∃ i σ' H', Inv X pins σ' H' s7 ∧ tn i s7.heap ∧ (∀ b ∈ fp, H' b = none) ∧ W i m σ' H' := fun {σ7 H7} I7 n7 => by
      obtain ⟨m', hm, w7⟩ := hN σ7 H7 n7
      refine ⟨m', hm, i + 1, σ7, H7, I7.unpinned, T.keep _ _ _ st5 fun b hb o e => (I7.pin (b, o) (List.mem_append_right _ (List.mem_append_right _ (mem_pinsAt hb e)))).1, fun b hb => ?_, w7⟩
      obtain ⟨o, e, d⟩ := T.obj _ _ st5 b hb
      exact (I7.pin (b, o) (List.mem_append_right _ (List.mem_append_right _ (mem_pinsAt hb e)))).2.1
    cases f with
    | next => obtain ⟨σ7, H7, I7, n7⟩ := q7; exact again I7 n7
    | cont => obtain ⟨σ7, H7, I7, n7⟩ := q7; exact again I7 n7
    | brk => obtain ⟨σ7, H7, I7, q7⟩ := q7; exact ⟨σ7, H7, I7.unpinned, q7⟩
    | ret v => obtain ⟨x7, σ7, H7, I7, r7, q7⟩ := q7; exact ⟨x7, σ7, H7, I7.unpinned, r7, q7⟩
end
theorem for_tup {K : PySem.W.Frag} {a : Addr} {xs : List V} {g : TG} {tb : TS} {D : Ends} {σ : St} {H : Hp} (Pv : Nat → St → Hp → Prop) (h0 : Pv 0 σ H) (hl : ∀ i σ H, i ≤ xs.length → Pv i σ H → SqT K H a xs)
    (hs : ∀ i x σ H, xs[i]? = some x → Pv i σ H → g x σ H fun σ2 H2 => tb { D with nx := Pv (i + 1), ct := Pv (i + 1), bk := D.nx } σ2 H2) (hd : ∀ σ H, Pv xs.length σ H → D.nx σ H) :
    ∃ W : Nat → Nat → St → Hp → Prop, (∃ m, W 0 m σ H) ∧ ∀ i m σ H, W i m σ H →
      ((Itt K a).stop i H ∧ D.nx σ H) ∨ ((Itt K a).go i H ∧ ∃ N : St → Hp → Prop, (∀ σ' H', N σ' H' → ∃ m', m' < m ∧ W (i + 1) m' σ' H') ∧ ∀ x H', (Itt K a).yld i H x H' → g x σ H' fun σ2 H2 => tb { D with nx := N, ct := N, bk := D.nx } σ2 H2) := by
  refine ⟨fun i m σ H => m = xs.length - i ∧ i ≤ xs.length ∧ Pv i σ H, ⟨xs.length, by simp, Nat.zero_le _, h0⟩, ?_⟩
  rintro i m σ H ⟨rfl, hi, p⟩
  have q := hl i σ H hi p
  by_cases hlt : i < xs.length
  · refine .inr ⟨⟨xs, xs[i], q, by simp [hlt]⟩, Pv (i + 1), fun σ' H' p' => ⟨xs.length - (i + 1), by omega, rfl, hlt, p'⟩, fun x H' y => ?_⟩
    obtain ⟨e, y⟩ := y
    subst e
    exact hs i x σ _ (y xs q) p
  · have e : i = xs.length := by omega
    subst e
    exact .inl ⟨⟨xs, q, Nat.le_refl _⟩, hd σ H p⟩
theorem for_range {lo : Int} {n : Nat} {g : TG} {tb : TS} {D : Ends} {σ : St} {H : Hp} (Pv : Nat → St → Hp → Prop) (h0 : Pv 0 σ H)
    (hs : ∀ i σ H, i < n → Pv i σ H → g (.int (lo + i)) σ H fun σ2 H2 => tb { D with nx := Pv (i + 1), ct := Pv (i + 1), bk := D.nx } σ2 H2) (hd : ∀ σ H, Pv n σ H → D.nx σ H) :
    ∃ W : Nat → Nat → St → Hp → Prop, (∃ m, W 0 m σ H) ∧ ∀ i m σ H, W i m σ H →
      ((Itr lo n).stop i H ∧ D.nx σ H) ∨ ((Itr lo n).go i H ∧ ∃ N : St → Hp → Prop, (∀ σ' H', N σ' H' → ∃ m', m' < m ∧ W (i + 1) m' σ' H') ∧ ∀ x H', (Itr lo n).yld i H x H' → g x σ H' fun σ2 H2 => tb { D with nx := N, ct := N, bk := D.nx } σ2 H2) := by
  refine ⟨fun i m σ H => m = n - i ∧ i ≤ n ∧ Pv i σ H, ⟨n, by simp, Nat.zero_le _, h0⟩, ?_⟩
  rintro i m σ H ⟨rfl, hi, p⟩
  by_cases hlt : i < n
  · refine .inr ⟨hlt, Pv (i + 1), fun σ' H' p' => ⟨n - (i + 1), by omega, rfl, hlt, p'⟩, fun x H' y => ?_⟩
    obtain ⟨e, y⟩ := y
    subst e y
    exact hs i σ _ hlt p
  · have e : i = n := by omega
    subst e
    exact .inl ⟨Nat.le_refl _, hd σ H p⟩
end L2
namespace L2
open PySem PySem.Spec PyProof.Rows
abbrev R2 := V → V → Hp → VK → Prop
def OpR (X : Cx) (f : Value → Value → Sem Value) (r : R2) : Prop :=
  ∀ (pins : List (Addr × Obj)) (s : Shared) (σ : St) (H : Hp) (x y : V) (v u : Value) (Q : VK), Inv X pins σ H s → RelV x v → RelV y u → r x y H Q →
    wpAny (model X.prog X.w) X.A (f v u) (EP X pins σ Q) X.xe s
def UnR (X : Cx) (f : Value → Sem Value) (r : V → Hp → VK → Prop) : Prop :=
  ∀ (pins : List (Addr × Obj)) (s : Shared) (σ : St) (H : Hp) (x : V) (v : Value) (Q : VK), Inv X pins σ H s → RelV x v → r x H Q →
    wpAny (model X.prog X.w) X.A (f v) (EP X pins σ Q) X.xe s
def CallR (X : Cx) (f : Value) (r : List V → Hp → VK → Prop) : Prop :=
  ∀ (pins : List (Addr × Obj)) (s : Shared) (σ : St) (H : Hp) (xs : List V) (us : List Value) (Q : VK), Inv X pins σ H s → Vals xs us → r xs H Q →
    wpAny (model X.prog X.w) X.A (call f us) (EP X pins σ Q) X.xe s
def tOp (r : R2) (ta tb : TE) : TE := fun σ H Q => ta σ H fun x H1 => tb σ H1 fun y H2 => r x y H2 Q
def tUn (r : V → Hp → VK → Prop) (ta : TE) : TE := fun σ H Q => ta σ H fun x H1 => r x H1 Q
def rI (C : Int → Int → Prop) (g : Int → Int → V) : R2 := fun x y H Q => ∃ i j, x = .int i ∧ y = .int j ∧ C i j ∧ Q (g i j) H
def rI0 (g : Int → Int → V) : R2 := fun x y H Q => ∃ i j, x = .int i ∧ y = .int j ∧ Q (g i j) H
def rU (g : Int → V) : V → Hp → VK → Prop := fun x H Q => ∃ i, x = .int i ∧ Q (g i) H
section
variable {X : Cx} {a b c : Expr} {ta tb tc : TE} {pos : Pos}
theorem binT (ha : PE X a ta) (hb : PE X b tb) {pins : List (Addr × Obj)} {s : Shared} {σ : St} {H : Hp} {R : V → V → Hp → Prop} (I : Inv X pins σ H s)
    (h : ta σ H fun x H1 => tb σ H1 fun y H2 => R x y H2) {Q : Value → Shared → Prop} {f : Value → Value → Sem Value}
    (hf : ∀ v u s2 x y H2, Inv X pins σ H2 s2 → RelV x v → RelV y u → R x y H2 → wpAny (model X.prog X.w) X.A (f v u) Q X.xe s2) :
    wpAny (model X.prog X.w) X.A (eval a X.env) (fun v s₁ => wpAny (model X.prog X.w) X.A (eval b X.env) (fun u s₂ => wpAny (model X.prog X.w) X.A (f v u) Q X.xe s₂) X.xe s₁) X.xe s := by
  refine thn (ha pins s σ H _ I h) fun v s1 ⟨x, H1, I1, r1, q1⟩ => ?_
  refine thn (hb pins s1 σ H1 _ I1 q1) fun u s2 ⟨y, H2, I2, r2, q2⟩ => ?_
  exact hf v u s2 x y H2 I2 r1 r2 q2
theorem pe_op {op : Operator} {r : R2} (ho : OpR X (binaryOp op) r) (ha : PE X a ta) (hb : PE X b tb) : PE X (.BinOp a op b pos) (tOp r ta tb) := by
  intro pins s σ H Q I h
  exact wpAny_BinOp (binT ha hb I h fun v u s2 x y H2 I2 rx ry q => ho pins s2 σ H2 x y v u Q I2 rx ry q)
theorem pe_un {op : UnaryOp} {r : V → Hp → VK → Prop} (ho : UnR X (unaryOp op) r) (ha : PE X a ta) : PE X (.UnaryOp op a pos) (tUn r ta) := by
  intro pins s σ H Q I h
  exact UnaryOp_ (thn (ha pins s σ H _ I h) fun v s1 ⟨x, H1, I1, r1, q1⟩ => ho pins s1 σ H1 x v Q I1 r1 q1)
theorem opI {f : Value → Value → Sem Value} {C : Int → Int → Prop} {g : Int → Int → Int}
    (rule : ∀ (i j : Int) (t u : Tok) (s : Shared) (Q : Value → Shared → Prop) (E : Value → Shared → Prop), C i j → Q (.int (g i j) s.toks) { s with toks := s.toks + 1 } → wpAny (model X.prog X.w) X.A (f (.int i t) (.int j u)) Q E s) :
    OpR X f (rI C fun i j => .int (g i j)) := by
  intro pins s σ H x y v u Q I rx ry h
  obtain ⟨i, j, rfl, rfl, hc, q⟩ := h
  obtain ⟨t, rfl⟩ := rx
  obtain ⟨t', rfl⟩ := ry
  exact rule i j t t' s _ _ hc ⟨.int (g i j), H, I.tok _, ⟨_, rfl⟩, q⟩
theorem opI0 {f : Value → Value → Sem Value} {g : Int → Int → Int}
    (rule : ∀ (i j : Int) (t u : Tok) (s : Shared) (Q : Value → Shared → Prop) (E : Value → Shared → Prop), Q (.int (g i j) s.toks) { s with toks := s.toks + 1 } → wpAny (model X.prog X.w) X.A (f (.int i t) (.int j u)) Q E s) :
    OpR X f (rI0 fun i j => .int (g i j)) := by
  intro pins s σ H x y v u Q I rx ry h
  obtain ⟨i, j, rfl, rfl, q⟩ := h
  obtain ⟨t, rfl⟩ := rx
  obtain ⟨t', rfl⟩ := ry
  exact rule i j t t' s _ _ ⟨.int (g i j), H, I.tok _, ⟨_, rfl⟩, q⟩
theorem opB0 {f : Value → Value → Sem Value} {g : Int → Int → Bool}
    (rule : ∀ (i j : Int) (t u : Tok) (s : Shared) (Q : Value → Shared → Prop) (E : Value → Shared → Prop), Q (.bool (g i j)) s → wpAny (model X.prog X.w) X.A (f (.int i t) (.int j u)) Q E s) :
    OpR X f (rI0 fun i j => .bl (g i j)) := by
  intro pins s σ H x y v u Q I rx ry h
  obtain ⟨i, j, rfl, rfl, q⟩ := h
  obtain ⟨t, rfl⟩ := rx
  obtain ⟨t', rfl⟩ := ry
  exact rule i j t t' s _ _ ⟨.bl (g i j), H, I, rfl, q⟩
def CDiv (i j : Int) : Prop := 0 < j ∧ j < 1073741824
def CPow (i j : Int) : Prop := 0 ≤ j ∧ j ≤ 1000000 ∧ i.natAbs < 2 ^ 64
def CMul (i j : Int) : Prop := (-(2 ^ 64) < i ∧ i < 2 ^ 64) ∨ (-(2 ^ 64) < j ∧ j < 2 ^ 64)
theorem CMul.ok {i j : Int} (h : CMul i j) : IntMulOk i j := by
  rcases h with ⟨h1, h2⟩ | ⟨h1, h2⟩
  · exact .of_left (intBits_le_64 h1 h2)
  · exact .of_right (intBits_le_64 h1 h2)
theorem op_add : OpR X (binaryOp .Add) (rI0 fun i j => .int (i + j)) := opI0 fun _ _ _ _ _ _ _ q => add_int q
theorem op_sub : OpR X (binaryOp .Sub) (rI0 fun i j => .int (i - j)) := opI0 fun _ _ _ _ _ _ _ q => sub_int q
theorem op_mul : OpR X (binaryOp .Mult) (rI CMul fun i j => .int (i * j)) := opI fun _ _ _ _ _ _ _ hc q => mul_int q hc.ok
theorem op_fdiv : OpR X (binaryOp .FloorDiv) (rI CDiv fun i j => .int (i / j)) := opI fun i j _ _ _ _ _ hc q => by
  have h1 : (0 : Int) < j := hc.1
  have h2 : j < 1073741824 := hc.2
  exact floordiv_int (by omega) (by rw [Int.fdiv_eq_ediv_of_nonneg i (by omega)]; exact q) (.inl (PyProof.noPylong_small (by omega)))
theorem op_mod : OpR X (binaryOp .Mod) (rI (fun _ j => 0 < j) fun i j => .int (i % j)) := opI fun i j _ _ _ _ _ hc q => by
  have h1 : (0 : Int) < j := hc
  exact mod_int' (by omega) (by rw [Int.fmod_eq_emod_of_nonneg i (by omega)]; exact q)
theorem op_pow : OpR X (binaryOp .Pow) (rI CPow fun i j => .int (i ^ j.toNat)) := opI fun _ _ _ _ _ _ _ hc q => pow_int_small hc.1 hc.2.1 hc.2.2 q
theorem unI {f : Value → Sem Value} {g : Int → Int}
    (rule : ∀ (i : Int) (t : Tok) (s : Shared) (Q : Value → Shared → Prop) (E : Value → Shared → Prop), Q (.int (g i) s.toks) { s with toks := s.toks + 1 } → wpAny (model X.prog X.w) X.A (f (.int i t)) Q E s) :
    UnR X f (rU fun i => .int (g i)) := by
  intro pins s σ H x v Q I rx h
  obtain ⟨i, rfl, q⟩ := h
  obtain ⟨t, rfl⟩ := rx
  exact rule i t s _ _ ⟨.int (g i), H, I.tok _, ⟨_, rfl⟩, q⟩
theorem un_neg : UnR X (unaryOp .USub) (rU fun i => .int (-i)) := unI fun _ _ _ _ _ q => neg_int q
end
def scal : V → V → Bool
  | .non, .non => true | .non, .int _ => true | .int _, .non => true | .non, .bl _ => true | .bl _, .non => true | .non, .str _ => true | .str _, .non => true
  | .int _, .int _ => true | .bl _, .bl _ => true | .str _, .str _ => true | .byt _, .byt _ => true
  | .int _, .str _ => true | .str _, .int _ => true | .bl _, .str _ => true | .str _, .bl _ => true
  | _, _ => false
def rEq : R2 := fun x y H Q => scal x y = true ∧ Q (.bl (decide (x = y))) H
def rNe : R2 := fun x y H Q => scal x y = true ∧ Q (.bl (!decide (x = y))) H
theorem dec_int {i j : Int} : decide (V.int i = V.int j) = (i == j) := by
  rw [Bool.eq_iff_iff]
  simp
theorem dec_bl {i j : Bool} : decide (V.bl i = V.bl j) = (i == j) := by
  rw [Bool.eq_iff_iff]
  simp
theorem dec_str {i j : Str} : decide (V.str i = V.str j) = (i == j) := by
  rw [Bool.eq_iff_iff]
  simp
theorem dec_byt {i j : Array UInt8} : decide (V.byt i = V.byt j) = (i.toList == j.toList) := by
  rw [Bool.eq_iff_iff]
  cases i
  cases j
  simp
section
variable {X : Cx} {a b c : Expr} {ta tb tc : TE} {pos : Pos}
theorem fin_bl {pins : List (Addr × Obj)} {σ : St} {H : Hp} {s : Shared} {Q : VK} {k k' : Bool} (I : Inv X pins σ H s) (q : Q (.bl k) H) (e : k = k') : EP X pins σ Q (.bool k') s := by
  subst e
  exact ⟨.bl k, H, I, rfl, q⟩
theorem op_eq : OpR X (compareOp .Eq) rEq := by
  intro pins s σ H x y v u Q I rx ry h
  obtain ⟨hs, q⟩ := h
  cases x with
  | non =>
    cases rx
    cases y with
    | non => cases ry; exact PySem.EqNone.eq_none_none (fin_bl I q (by simp))
    | bl j => cases ry; exact PySem.EqNone.eq_none_bool (fin_bl I q (by simp))
    | int j => obtain ⟨t', rfl⟩ := ry; exact PySem.EqNone.eq_none_int (fin_bl I q (by simp))
    | str j => obtain ⟨t', rfl⟩ := ry; exact PySem.EqNone.eq_none_str (fin_bl I q (by simp))
    | _ => exact absurd (show false = true from hs) Bool.false_ne_true
  | bl i =>
    cases rx
    cases y with
    | non => cases ry; exact PySem.EqNone.eq_bool_none (fin_bl I q (by simp))
    | bl j => cases ry; exact eq_bool (fin_bl I q dec_bl)
    | str j => obtain ⟨t', rfl⟩ := ry; exact PySem.EqMixed.eq_bool_str (fin_bl I q (by simp))
    | _ => exact absurd (show false = true from hs) Bool.false_ne_true
  | int i =>
    obtain ⟨t, rfl⟩ := rx
    cases y with
    | non => cases ry; exact PySem.EqNone.eq_int_none (fin_bl I q (by simp))
    | int j => obtain ⟨t', rfl⟩ := ry; exact eq_int (fin_bl I q dec_int)
    | str j => obtain ⟨t', rfl⟩ := ry; exact PySem.EqMixed.eq_int_str (fin_bl I q (by simp))
    | _ => exact absurd (show false = true from hs) Bool.false_ne_true
  | str i =>
    obtain ⟨t, rfl⟩ := rx
    cases y with
    | non => cases ry; exact PySem.EqNone.eq_str_none (fin_bl I q (by simp))
    | bl j => cases ry; exact PySem.EqMixed.eq_str_bool (fin_bl I q (by simp))
    | int j => obtain ⟨t', rfl⟩ := ry; exact PySem.EqMixed.eq_str_int (fin_bl I q (by simp))
    | str j => obtain ⟨t', rfl⟩ := ry; exact eq_str (fin_bl I q dec_str)
    | _ => exact absurd (show false = true from hs) Bool.false_ne_true
  | byt i =>
    obtain ⟨t, rfl⟩ := rx
    cases y with
    | byt j => obtain ⟨t', rfl⟩ := ry; exact PySem.W.eq_bytes (fin_bl I q dec_byt)
    | _ => exact absurd (show false = true from hs) Bool.false_ne_true
  | _ => cases y <;> exact absurd (show false = true from hs) Bool.false_ne_true
theorem op_ne : OpR X (compareOp .NotEq) rNe := by
  intro pins s σ H x y v u Q I rx ry h
  obtain ⟨hs, q⟩ := h
  cases x with
  | non =>
    cases rx
    cases y with
    | non => cases ry; exact PySem.EqNone.ne_none_none (fin_bl I q (by simp))
    | bl j => cases ry; exact PySem.EqNone.ne_none_bool (fin_bl I q (by simp))
    | int j => obtain ⟨t', rfl⟩ := ry; exact PySem.EqNone.ne_none_int (fin_bl I q (by simp))
    | str j => obtain ⟨t', rfl⟩ := ry; exact PySem.EqNone.ne_none_str (fin_bl I q (by simp))
    | _ => exact absurd (show false = true from hs) Bool.false_ne_true
  | bl i =>
    cases rx
    cases y with
    | non => cases ry; exact PySem.EqNone.ne_bool_none (fin_bl I q (by simp))
    | bl j => cases ry; exact ne_bool (fin_bl I q (congrArg not dec_bl))
    | str j => obtain ⟨t', rfl⟩ := ry; exact PySem.EqMixed.ne_bool_str (fin_bl I q (by simp))
    | _ => exact absurd (show false = true from hs) Bool.false_ne_true
  | int i =>
    obtain ⟨t, rfl⟩ := rx
    cases y with
    | non => cases ry; exact PySem.EqNone.ne_int_none (fin_bl I q (by simp))
    | int j => obtain ⟨t', rfl⟩ := ry; exact ne_int (fin_bl I q (congrArg not dec_int))
    | str j => obtain ⟨t', rfl⟩ := ry; exact PySem.EqMixed.ne_int_str (fin_bl I q (by simp))
    | _ => exact absurd (show false = true from hs) Bool.false_ne_true
  | str i =>
    obtain ⟨t, rfl⟩ := rx
    cases y with
    | non => cases ry; exact PySem.EqNone.ne_str_none (fin_bl I q (by simp))
    | bl j => cases ry; exact PySem.EqMixed.ne_str_bool (fin_bl I q (by simp))
    | int j => obtain ⟨t', rfl⟩ := ry; exact PySem.EqMixed.ne_str_int (fin_bl I q (by simp))
    | str j => obtain ⟨t', rfl⟩ := ry; exact ne_str (fin_bl I q (congrArg not dec_str))
    | _ => exact absurd (show false = true from hs) Bool.false_ne_true
  | byt i =>
    obtain ⟨t, rfl⟩ := rx
    cases y with
    | byt j => obtain ⟨t', rfl⟩ := ry; exact PySem.W.ne_bytes (fin_bl I q (congrArg not dec_byt))
    | _ => exact absurd (show false = true from hs) Bool.false_ne_true
  | _ => cases y <;> exact absurd (show false = true from hs) Bool.false_ne_true
theorem op_lt : OpR X (compareOp .Lt) (rI0 fun i j => .bl (decide (i < j))) := opB0 fun _ _ _ _ _ _ _ q => lt_int q
theorem op_le : OpR X (compareOp .LtE) (rI0 fun i j => .bl (decide (i ≤ j))) := opB0 fun _ _ _ _ _ _ _ q => le_int q
theorem op_gt : OpR X (compareOp .Gt) (rI0 fun i j => .bl (decide (j < i))) := opB0 fun _ _ _ _ _ _ _ q => gt_int q
theorem op_ge : OpR X (compareOp .GtE) (rI0 fun i j => .bl (decide (j ≤ i))) := opB0 fun _ _ _ _ _ _ _ q => ge_int q
theorem nomark (b : Expr) {op : CmpOp} (h : op ≠ .In := by decide) (h2 : op ≠ .NotIn := by decide) : behindInMarks op b = false := by
  have e1 : (op == CmpOp.In) = false := by cases op <;> first | rfl | exact absurd rfl h
  have e2 : (op == CmpOp.NotIn) = false := by cases op <;> first | rfl | exact absurd rfl h2
  cases b <;> simp [behindInMarks, e1, e2]
theorem pe_cmpR {op : CmpOp} {r : R2} (ho : OpR X (compareOp op) r) (ha : PE X a ta) (hb : PE X b tb) (hm : behindInMarks op b = false) : PE X (.Compare a [op] [b] pos) (tOp r ta tb) := by
  intro pins s σ H Q I h
  exact wpAny_Compare1 (binT ha hb I h fun v u s2 x y H2 I2 rx ry q => ho pins s2 σ H2 x y v u Q I2 rx ry q) hm
def tTest (t : TE) : TT := fun σ H Q => t σ H fun x H' => ∃ k, x = .bl k ∧ Q k H'
theorem pt_cmpR {op : CmpOp} {r : R2} (ho : OpR X (compareOp op) r) (ha : PE X a ta) (hb : PE X b tb) (hm : behindInMarks op b = false) : PT X (.Compare a [op] [b] pos) (tTest (tOp r ta tb)) := by
  intro pins s σ H Q I h
  refine wpAny_isTrue_Compare1 (thn (ha pins s σ H _ I h) fun v s1 ⟨x, H1, I1, r1, q1⟩ => thn (hb pins s1 σ H1 _ I1 q1) fun u s2 ⟨y, H2, I2, r2, q2⟩ =>
    thn (ho pins s2 σ H2 x y v u _ I2 r1 r2 q2) fun c s3 ⟨z, H3, I3, r3, k, e, q3⟩ => ?_) hm
  subst e
  cases r3
  exact wpAny_truthy_bool ⟨H3, I3, q3⟩
def tChain (r r' : R2) (ta tb tc : TE) : TE := fun σ H Q => ta σ H fun x H1 => tb σ H1 fun y H2 => r x y H2 fun z H3 => ∃ k, z = .bl k ∧
  (if k = true then tc σ H3 fun w' H4 => r' y w' H4 Q else Q (.bl false) H3)
theorem pe_chain {op op' : CmpOp} {r r' : R2} (ho : OpR X (compareOp op) r) (ho' : OpR X (compareOp op') r') (ha : PE X a ta) (hb : PE X b tb) (hc : PE X c tc)
    (hm : lastMarks [op, op'] [b, c] = false := by with_unfolding_all rfl) : PE X (.Compare a [op, op'] [b, c] pos) (tChain r r' ta tb tc) := by
  intro pins s σ H Q I h
  refine Compare_chain (thn (ha pins s σ H _ I h) fun v s1 ⟨x, H1, I1, r1, q1⟩ => chain_link (thn (hb pins s1 σ H1 _ I1 q1) fun u s2 ⟨y, H2, I2, r2, q2⟩ =>
    thn (ho pins s2 σ H2 x y v u _ I2 r1 r2 q2) fun d s3 ⟨z, H3, I3, r3, k, e, q3⟩ => ?_)) hm
  subst e
  cases r3
  refine wpAny_truthy_bool ?_
  cases k with
  | false => exact ite_ff ⟨.bl false, H3, I3, rfl, q3⟩
  | true => exact ite_tt (chain_last (thn (hc pins s3 σ H3 _ I3 q3) fun w' s4 ⟨z', H4, I4, r4, q4⟩ => ho' pins s4 σ H4 y z' u w' Q I4 r2 r4 q4))
theorem pt_chain {op op' : CmpOp} {r r' : R2} (ho : OpR X (compareOp op) r) (ho' : OpR X (compareOp op') r') (ha : PE X a ta) (hb : PE X b tb) (hc : PE X c tc)
    (hm : lastMarks [op, op'] [b, c] = false := by with_unfolding_all rfl) : PT X (.Compare a [op, op'] [b, c] pos) (tTest (tChain r r' ta tb tc)) := by
  intro pins s σ H Q I h
  refine isTrue_chain (thn (ha pins s σ H _ I h) fun v s1 ⟨x, H1, I1, r1, q1⟩ => test_link (thn (hb pins s1 σ H1 _ I1 q1) fun u s2 ⟨y, H2, I2, r2, q2⟩ =>
    thn (ho pins s2 σ H2 x y v u _ I2 r1 r2 q2) fun d s3 ⟨z, H3, I3, r3, k, e, q3⟩ => ?_)) hm
  subst e
  cases r3
  refine wpAny_truthy_bool ?_
  cases k with
  | false =>
    obtain ⟨k', e', q'⟩ := q3
    cases e'
    exact ite_ff ⟨H3, I3, q'⟩
  | true =>
    refine ite_tt (test_last (thn (hc pins s3 σ H3 _ I3 q3) fun w' s4 ⟨z', H4, I4, r4, q4⟩ => thn (ho' pins s4 σ H4 y z' u w' _ I4 r2 r4 q4) fun d' s5 ⟨z2, H5, I5, r5, k2, e2, q5⟩ => ?_))
    subst e2
    cases r5
    exact wpAny_truthy_bool ⟨H5, I5, q5⟩
theorem line63 : (sizeLine : Nat) < 2 ^ 63 := by rw [sizeLine_eq]; decide
theorem op_add_str : OpR X (binaryOp .Add) (fun x y H Q => ∃ i j, x = .str i ∧ y = .str j ∧ i.length + j.length ≤ sizeLine ∧ Q (.str (i ++ j)) H) := by
  intro pins s σ H x y v u Q I rx ry h
  obtain ⟨i, j, rfl, rfl, hz, q⟩ := h
  obtain ⟨t, rfl⟩ := rx
  obtain ⟨t', rfl⟩ := ry
  exact add_str (fun t' tk => ⟨.str (i ++ j), H, I.tok _, ⟨_, rfl⟩, q⟩) hz
theorem vals1 {x : V} {us : List Value} (r : Vals [x] us) : ∃ u, us = [u] ∧ RelV x u := by
  cases r with
  | cons r1 r2 => cases r2; exact ⟨_, rfl, r1⟩
theorem vals2 {x y : V} {us : List Value} (r : Vals [x, y] us) : ∃ u w', us = [u, w'] ∧ RelV x u ∧ RelV y w' := by
  cases r with
  | cons r1 r2 =>
    cases r2 with
    | cons r3 r4 => cases r4; exact ⟨_, _, rfl, r1, r3⟩
theorem call_abs : CallR X (.builtin "abs") (fun xs H Q => ∃ i, xs = [.int i] ∧ Q (.int (if i < 0 then -i else i)) H) := by
  intro pins s σ H xs us Q I r h
  obtain ⟨i, rfl, q⟩ := h
  obtain ⟨u, rfl, t, rfl⟩ := vals1 r
  exact call_abs_int fun u tk => ⟨.int (if i < 0 then -i else i), H, I.tok _, ⟨_, rfl⟩, q⟩
theorem call_max2 (hc : X.calm = true) : CallR X (.builtin "max") (fun xs H Q => ∃ i j, xs = [.int i, .int j] ∧ Q (.int (if j > i then j else i)) H) := by
  intro pins s σ H xs us Q I r h
  obtain ⟨i, j, rfl, q⟩ := h
  obtain ⟨u, w', rfl, ⟨t, rfl⟩, ⟨t', rfl⟩⟩ := vals2 r
  refine max_two_ints (I.ok.hd hc) fun h' tk k => ⟨_, H, I.kept k, ?_, q⟩
  by_cases hj : j > i
  · rw [if_pos hj, if_pos hj]; exact ⟨_, rfl⟩
  · rw [if_neg hj, if_neg hj]; exact ⟨_, rfl⟩
theorem call_min2 (hc : X.calm = true) : CallR X (.builtin "min") (fun xs H Q => ∃ i j, xs = [.int i, .int j] ∧ Q (.int (if j < i then j else i)) H) := by
  intro pins s σ H xs us Q I r h
  obtain ⟨i, j, rfl, q⟩ := h
  obtain ⟨u, w', rfl, ⟨t, rfl⟩, ⟨t', rfl⟩⟩ := vals2 r
  refine min_two_ints (I.ok.hd hc) fun h' tk k => ⟨_, H, I.kept k, ?_, q⟩
  by_cases hj : j < i
  · rw [if_pos hj, if_pos hj]; exact ⟨_, rfl⟩
  · rw [if_neg hj, if_neg hj]; exact ⟨_, rfl⟩
theorem call_int1 : CallR X (.type "int") (fun xs H Q => (∃ i, xs = [.int i] ∧ Q (.int i) H) ∨ ∃ k, xs = [.bl k] ∧ Q (.int (if k then 1 else 0)) H) := by
  intro pins s σ H xs us Q I r h
  rcases h with ⟨i, rfl, q⟩ | ⟨k, rfl, q⟩
  · obtain ⟨u, rfl, t, rfl⟩ := vals1 r
    exact call_int_int ⟨.int i, H, I, ⟨_, rfl⟩, q⟩
  · obtain ⟨u, rfl, r1⟩ := vals1 r
    cases r1
    exact call_int_bool ⟨.int (if k then 1 else 0), H, I.tok _, ⟨_, rfl⟩, q⟩
end
end L2
namespace L2
open PySem PySem.Spec PyProof.Rows
structure ObjM (h : Heap) (x dx C : Addr) (mA : Str → Option Value) : Prop where
  obj : h.get? x = some (PySem.W.instObj C dx)
  ns : h.Ns1 dx mA
  ne : dx ≠ x
theorem lookIn_ns {h : Heap} {dx : Addr} {mA : Str → Option Value} (n : h.Ns1 dx mA) : ∃ od, h.get? dx = some od ∧ ∀ name, PySem.W.lookIn name od = some (mA name) := by
  obtain ⟨o, es, ep, ho, hd, hk, _, hm⟩ := n
  refine ⟨o, ho, fun name => ?_⟩
  have e := hm name
  unfold nsFind findBy at e
  rw [← Array.find?_toList] at e
  unfold PySem.W.lookIn
  rw [hd]
  dsimp only
  split
  · rename_i y q
    rw [q] at e
    exact congrArg some e
  · rename_i q
    rw [q] at e
    have a : es.toList.any (·.refKey) = false := by
      rw [List.any_eq_false]
      intro y hy
      obtain ⟨z, t, hkey⟩ := hk y (Array.mem_toList_iff.mp hy)
      simp [DictEntry.refKey, hkey]
    have a' : ¬ es.toList.any (·.refKey) = true := by rw [a]; exact Bool.false_ne_true
    rw [if_neg a']
    exact congrArg some e
theorem ObjM.look {h : Heap} {x dx C : Addr} {mA : Str → Option Value} (I : ObjM h x dx C mA) : ∃ od, PySem.W.InstAt h x (PySem.W.instObj C dx) C (some od) ∧ ∀ name, PySem.W.lookIn name od = some (mA name) :=
  let ⟨od, ho, hl⟩ := lookIn_ns I.ns
  ⟨od, ⟨I.obj, rfl, rfl, ho⟩, hl⟩
section
variable {P : Program} {w : World} {H H' : Hp} {h h' : Heap} {a C dx : Addr} {fs fs' : List (Str × V)}
theorem ins_get (hok : HOk P w H h) (e : H a = some (.ins C dx fs)) : ∃ mA, ObjM h a dx C mA ∧ (∀ f, RelO (fs.lookup f) (mA f)) ∧ PySem.Within mA (fs.map (·.1)) ∧ fs.length ≤ 1000 ∧ H dx = some (.own a) := by
  obtain ⟨d, z, ne, ob, mA, n, r, q⟩ := (show ObjOk P w H h a (.ins C dx fs) from hok a _ e)
  exact ⟨mA, ⟨ob, n, ne⟩, r, q, z, d⟩
end
structure Cls (K : PySem.W.Frag) (C : Addr) : Prop where
  pg : PySem.W.plainGet K C Str.empty = true
  hd : PySem.W.hasDictIn K C = true
  po : PySem.W.plainOver K C = true
  sa : PySem.W.findIn K (.ref C) "__setattr__" = some (some (.builtin "object.__setattr__"))
theorem Cls.get {K : PySem.W.Frag} {C : Addr} (c : Cls K C) (f : Str) : PySem.W.plainGet K C f = true := c.pg
section
variable {X : Cx} {pins : List (Addr × Obj)} {σ : St} {H : Hp} {s : Shared} {A : Around} {E : Value → Shared → Prop} {Q : Value → Shared → Prop} {c : Value} {b : Bool}
inductive TyOf (K : PySem.W.Frag) (H : Hp) : V → Value → Prop where
  | non : TyOf K H .non (.type "NoneType")
  | bl (x : Bool) : TyOf K H (.bl x) (.type "bool")
  | int (i : Int) : TyOf K H (.int i) (.type "int")
  | str (x : Str) : TyOf K H (.str x) (.type "str")
  | flt (x : UInt64) : TyOf K H (.flt x) (.type "float")
  | lst {a : Addr} {xs : List V} (e : H a = some (.lst xs)) : TyOf K H (.ref a) (.type "list")
  | frz {a : Addr} {o : Obj} {xs : List V} (e : H a = some (.frz o (.lst xs))) : TyOf K H (.ref a) (.type "list")
  | tup {a : Addr} {xs : List V} (e : H a = some (.tup xs)) : TyOf K H (.ref a) (.type "tuple")
  | dK {a : Addr} {kvs : List (Key × V)} (e : H a = some (.dK kvs)) : TyOf K H (.ref a) (.type "dict")
  | dT {a : Addr} {kvs : List (List Key × V)} (e : H a = some (.dT kvs)) : TyOf K H (.ref a) (.type "dict")
  | ins {a C dx : Addr} {fs : List (Str × V)} (e : H a = some (.ins C dx fs)) (cl : Cls K C) (ha : PySem.W.findIn K (.ref C) "__class__" = some (some (.builtin "object.__class__")))
      (hn : PySem.W.specialIn K (.builtin "object.__class__") "__get__" = some (some (.builtin "getset_descriptor.__get__"))) (htk : PySem.W.takesIn K (.builtin "object.__class__") = some true)
      (hm : PySem.W.mroIn K C (.type "object") = some true) : TyOf K H (.ref a) (.ref C)
theorem isinst_ok {x : V} {u t : Value} (I : Inv X pins σ H s) (rx : RelV x u) (ty : TyOf X.K H x t) (e : PySem.W.kitOne X.K t c = some b) (h : ∀ tk, Q (.bool b) { s with toks := tk }) :
    wpAny (model X.prog X.w) A (call (.builtin "isinstance") [u, c]) Q E s := by
  cases ty with
  | non => cases (show u = Value.none from rx); exact PySem.W.kia_one PySem.W.kitx_none I.kIn True.intro e (fun z => nomatch z) h
  | bl y => cases (show u = Value.bool y from rx); exact PySem.W.kia_one PySem.W.kitx_bool I.kIn True.intro e (fun z => nomatch z) h
  | int i => obtain ⟨t, q⟩ := (show ∃ t, u = Value.int i t from rx); cases q; exact PySem.W.kia_one PySem.W.kitx_int I.kIn True.intro e (fun z => nomatch z) h
  | str y => obtain ⟨t, q⟩ := (show ∃ t, u = Value.str y t from rx); cases q; exact PySem.W.kia_one PySem.W.kitx_str I.kIn True.intro e (fun z => nomatch z) h
  | flt y => obtain ⟨t, q⟩ := (show ∃ t, u = Value.float y t from rx); cases q; exact PySem.W.kia_one PySem.W.kitx_float I.kIn True.intro e (fun z => nomatch z) h
  | @lst a xs ea =>
    cases (show u = Value.ref a from rx)
    obtain ⟨_, _, n, _, h1⟩ := (show ObjOk X.prog X.w H s.heap a (.lst xs) from I.hok a _ ea)
    exact PySem.W.kia_one PySem.W.kitx_list I.kIn ⟨_, h1, rfl⟩ e (fun z => nomatch z) h
  | @frz a ob xs ea =>
    cases (show u = Value.ref a from rx)
    obtain ⟨_, _, _, n, _, h1⟩ := (show ObjOk X.prog X.w H s.heap a (.frz ob (.lst xs)) from I.hok a _ ea)
    exact PySem.W.kia_one PySem.W.kitx_list I.kIn ⟨_, h1, rfl⟩ e (fun z => nomatch z) h
  | @tup a xs ea =>
    cases (show u = Value.ref a from rx)
    obtain ⟨_, _, _, p⟩ := (show ObjOk X.prog X.w H s.heap a (.tup xs) from I.hok a _ ea)
    obtain ⟨o, h1, h2, _⟩ := p
    exact PySem.W.kia_one PySem.W.kitx_tuple I.kIn ⟨o, h1, h2⟩ e (fun z => nomatch z) h
  | @dK a kvs ea =>
    cases (show u = Value.ref a from rx)
    obtain ⟨_, _, vs, _, p⟩ := (show ObjOk X.prog X.w H s.heap a (.dK kvs) from I.hok a _ ea)
    obtain ⟨o, es, ep, h1, h2, _⟩ := p
    exact PySem.W.kia_one PySem.W.kitx_dict I.kIn ⟨o, h1, h2.1⟩ e (fun z => nomatch z) h
  | @dT a kvs ea =>
    cases (show u = Value.ref a from rx)
    obtain ⟨_, _, xs, _, o, es, ep, h1, h2, _⟩ := (show ObjOk X.prog X.w H s.heap a (.dT kvs) from I.hok a _ ea)
    exact PySem.W.kia_one PySem.W.kitx_dict I.kIn ⟨o, h1, h2.1⟩ e (fun z => nomatch z) h
  | @ins a C dx fs ea cl ha hn htk hm =>
    cases (show u = Value.ref a from rx)
    obtain ⟨mA, O, _⟩ := ins_get I.hok ea
    obtain ⟨od, J, _⟩ := O.look
    exact PySem.W.kia_one (PySem.W.kitx_own (cl.get _) cl.hd ha hn htk hm) I.kIn J e (fun z => nomatch z) h
end
end L2
namespace L2
open PySem PySem.Spec PyProof.Rows
structure Room (k : Nat) (A : Around) : Prop where
  hd : A.handled = none
  dp : A.depth + 3 * k + 5 < recursionLimit
  un : A.units + 16 * k + 200 < cLine
  gd : A.guards = some []
theorem Room.mono {j k : Nat} {A : Around} (r : Room k A) (h : j ≤ k) : Room j A := ⟨r.hd, by have := r.dp; omega, by have := r.un; omega, r.gd⟩
theorem Room.deeper {k : Nat} {A : Around} (r : Room (k + 1) A) (env : Env) : Room k (A.deeper env) :=
  ⟨r.hd, by have := r.dp; show A.depth + 1 + 3 * k + 5 < _; omega, by have := r.un; show A.units + 3 + 16 * k + 200 < _; omega, by first | exact r.gd | simp [Around.deeper, r.gd]⟩
theorem Room.depth {k : Nat} {A : Around} (r : Room k A) : A.depth < recursionLimit := by have := r.dp; omega
theorem Room.units {k : Nat} {A : Around} (r : Room k A) : A.units + 64 < cLine := by have := r.un; omega
def tNil : TA := fun _ H Q => Q [] H
def tCons (ta : TE) (tr : TA) : TA := fun σ H Q => ta σ H fun x H1 => tr σ H1 fun xs H2 => Q (x :: xs) H2
section
variable {X : Cx} {e : Expr} {es : List Expr} {te : TE} {t : TA} {pos : Pos}
theorem pa_nil : PA X [] tNil := fun _ _ _ _ H Q I h => Calls.spliced_nil ⟨[], H, I, .nil, h⟩
theorem pa_cons (ha : PE X e te) (hr : PA X es t) (hs : starEach (e :: es) X.env = (false, eval e X.env) :: starEach es X.env := by rfl) : PA X (e :: es) (tCons te t) := by
  intro pos pins s σ H Q I h
  rw [hs]
  show wpAny _ _ (spliced ((false, eval e X.env) :: backTo pos (starEach es X.env))) _ _ s
  refine Calls.spliced_cons (thn (ha pins s σ H _ I h) fun u s1 ⟨x, H1, I1, r1, q1⟩ => ?_)
  exact thn (hr pos pins s1 σ H1 _ I1 q1) fun us s2 ⟨xs, H2, I2, r2, q2⟩ => ⟨x :: xs, H2, I2, .cons r1 r2, q2⟩
def tTup (t : TA) : TE := fun σ H Q => t σ H fun xs H1 => xs.length ≤ sizeLine ∧ ∀ p, H1 p = none → Q (.ref p) (upd H1 p (.tup xs))
def tLst (t : TA) : TE := fun σ H Q => t σ H fun xs H1 => xs.length ≤ sizeLine ∧ ∀ p, H1 p = none → Q (.ref p) (upd H1 p (.lst xs))
theorem pe_tup {x1} (h : PA X es t) : PE X (.Tuple es x1 pos) (tTup t) := by
  intro pins s σ H Q I hq
  refine wpAny_Tuple_spliced (thn (h pos pins s σ H _ I hq) fun us s1 ⟨xs, H1, I1, r, z, q⟩ => ⟨by rw [← r.length]; exact z, ?_⟩)
  have hf : H1 s1.heap.objs.size = none := I1.hok.fresh (Nat.le_refl _)
  refine ⟨.ref s1.heap.objs.size, upd H1 s1.heap.objs.size (.tup xs), I1.laid (t' := s1.toks) (fun b u e => Heap.get?_push_of_some _ e) (Nat.le_refl _) ?_, rfl, q _ hf⟩
  exact ⟨z, us, r, ⟨_, Heap.get?_push_size _ rfl, rfl, _, rfl, rfl⟩⟩
theorem pe_lst (h : PA X es t) : PE X (.List es pos) (tLst t) := by
  intro pins s σ H Q I hq
  refine wpAny_List_spliced (thn (h pos pins s σ H _ I hq) fun us s1 ⟨xs, H1, I1, r, z, q⟩ => ⟨by rw [← r.length]; exact z, ?_⟩)
  have hf : H1 s1.heap.objs.size = none := I1.hok.fresh (Nat.le_refl _)
  refine ⟨.ref s1.heap.objs.size, upd H1 s1.heap.objs.size (.lst xs), I1.laid (t' := s1.toks) (fun b u e => Heap.get?_push_of_some _ e) (Nat.le_refl _) ?_, rfl, q _ hf⟩
  exact ⟨z, us, 0, r, Heap.get?_push_size _ rfl⟩
end
abbrev Sp := List V → Hp → VK → XK → Prop
abbrev CXT := List Env → Hp → Shared → XK → Value → Shared → Prop
structure Env0 (P : Program) (w : World) (K : PySem.W.Frag) (mg : Str → Option Value) (base : Heap) (A : Around) (outer : List Env) (s : Shared) (H : Hp) : Prop where
  frames : A.frames = some outer
  mod : Mod K mg base
  bs : ∀ b o, base.get? b = some o → s.heap.get? b = some o ∧ H b = none
  bsz : base.objs.size ≤ s.heap.objs.size
  funs : s.heap.FunFrames base outer
  frf : ∀ b ∈ frs outer, H b = none
  hok : HOk P w H s.heap
  bare : AllBare s.gens
def CE (outer : List Env) (P : Program) (w : World) (H : Hp) (s : Shared) (Q : VK) (u : Value) (s' : Shared) : Prop :=
  ∃ v H', s'.os = s.os ∧ AllBare s'.gens ∧ Un (frs outer) [] H H' s.heap s'.heap ∧ HOk P w H' s'.heap ∧ RelV v u ∧ Q v H'
def CR (CX : CXT) (outer : List Env) (P : Program) (w : World) (H : Hp) (s : Shared) (Q : VK) (E : XK) (r : Result) (s' : Shared) : Prop :=
  match r with
  | .ok (.ret u) => CE outer P w H s Q u s'
  | .ok _ => False
  | .error e => CX outer H s E e s'
structure FnOk (P : Program) (w : World) (K : PySem.W.Frag) (mg : Str → Option Value) (base : Heap) (CX : CXT) (k : Nat) (f : Addr) (fd : FuncData) (ps : List Str) (sp : Sp) : Prop where
  len : ∀ vs H Q E, sp vs H Q E → vs.length = ps.length
  run : ∀ (A : Around) (outer : List Env) (s : Shared) (H : Hp) (args : Args) (us : List Value) (vs : List V) (Q : VK) (E : XK), Room k A → Env0 P w K mg base A outer s H → BindsTo s fd args (ps.zip us) → Vals vs us → sp vs H Q E →
    codeAny (model P w) A (.call (.ref f) args) (CR CX outer P w H s Q E) s
section
variable {X : Cx} {pins : List (Addr × Obj)} {σ : St} {H : Hp} {s s' : Shared}
theorem Inv.env0 (I : Inv X pins σ H s) : Env0 X.prog X.w X.K X.mg X.base X.A X.stack s H :=
  ⟨I.ok.frames, I.ok.mod, I.bs, Nat.le_trans I.ok.bsz I.sz, I.stack, I.stkFree, I.hok, I.bare⟩
theorem Inv.after {Q : VK} {u : Value} (I : Inv X pins σ H s) (h : CE X.stack X.prog X.w H s Q u s') : EP X pins σ Q u s' := by
  obtain ⟨v, H', os, bare, un, hok, r, q⟩ := h
  obtain ⟨hh, g, d, t, os'⟩ := s'
  obtain rfl : os' = s.os := os
  exact ⟨v, H', I.call (h' := hh) (g' := g) (d' := d) (t' := t) (ch := []) un hok bare (fun b z => absurd z (by simp)), r, q⟩
end
def tCall (sp : Sp) (dvs : List V) (E : XK) (t : TA) : TE := fun σ H Q => t σ H fun vs H1 => sp (vs ++ dvs) H1 Q E
def Binds (K : PySem.W.Frag) (fd : FuncData) (ps : List Str) (ds : List Value) : Prop :=
  ∀ (s : Shared) (us : List Value), K.In s.heap → (us ++ ds).length = ps.length → BindsTo s fd ⟨us, []⟩ (ps.zip (us ++ ds))
theorem Binds.all {K : PySem.W.Frag} {fd : FuncData} {ps : List Str} (h : ∀ us : List Value, us.length = ps.length → bindArgs fd ⟨us, []⟩ = pure (ps.zip us)) : Binds K fd ps [] := fun s us _ hl => by
  rw [List.append_nil] at hl ⊢
  exact .of_eq (h us hl)
def Passes (CX : CXT) (X : Cx) (E : XK) : Prop := ∀ (pins : List (Addr × Obj)) (σ : St) (H : Hp) (s : Shared) (e : Value) (s' : Shared), Inv X pins σ H s → CX X.stack H s E e s' → X.xe e s'
section
variable {X : Cx} {CX : CXT} {k : Nat} {f C : Addr} {fd : FuncData} {ps : List Str} {sp : Sp} {dvs : List V} {ds : List Value} {E : XK} {x m : Str} {p pos apos : Pos} {e o : Expr} {es : List Expr} {ta : TE} {t : TA}
theorem run_fn {pins : List (Addr × Obj)} {σ : St} {H : Hp} {s : Shared} {Q : VK} {us : List Value} {vs : List V} (F : FnOk X.prog X.w X.K X.mg X.base CX k f fd ps sp) (hr : Room k X.A) (hb : Binds X.K fd ps ds) (hd : Vals dvs ds) (hx : Passes CX X E)
    (I : Inv X pins σ H s) (r : Vals vs us) (h : sp (vs ++ dvs) H Q E) : wpAny (model X.prog X.w) X.A (call (.ref f) us) (EP X pins σ Q) X.xe s := by
  have r2 : Vals (vs ++ dvs) (us ++ ds) := r.append hd
  have hl : (us ++ ds).length = ps.length := by rw [← r2.length]; exact F.len _ _ _ _ h
  refine wpAny_call (codeAny_mono (F.run X.A X.stack s H ⟨us, []⟩ (us ++ ds) (vs ++ dvs) Q E hr I.env0 (hb s us I.kIn hl) r2 h) fun r s' hq => ?_)
  cases r with
  | error e => exact hx pins σ H s e s' I hq
  | ok fl =>
    cases fl with
    | ret u => exact I.after hq
    | next => exact False.elim hq
    | brk => exact False.elim hq
    | cont => exact False.elim hq
theorem pe_call (F : FnOk X.prog X.w X.K X.mg X.base CX k f fd ps sp) (hr : Room k X.A) (hg : Gl X x) (hm : X.mg x = some (.ref f)) (hk : PySem.W.keepIn X.K (.ref f) = true) (hb : Binds X.K fd ps ds) (hd : Vals dvs ds) (hx : Passes CX X E)
    (ha : PA X (e :: es) t) (hdb : (x == ("__debug__" : Str)) = false := by decide) (he : starEach (e :: es) X.env = (false, eval e X.env) :: starEach es X.env := by rfl) (hpl : (backTo pos (starEach es X.env)).any (·.1) = false := by rfl) :
    PE X (.Call (.Name x p) (e :: es) [] pos) (tCall sp dvs E t) := by
  intro pins s σ H Q I h
  refine wpAny_Call_Name_kw (ld_glob I hg hm ?_ hdb)
  refine PySem.W.callWith_K (h₀ := X.base) I.ok.mod.kin hk (thn (ha pos pins s σ H _ I h) fun us s1 ⟨vs, H1, I1, r, q⟩ => ⟨I1.kIn, ?_⟩) he hpl
  exact run_fn F hr hb hd hx I1 r q
end
structure FnScope (N P : List Str) (sc : Scope) : Prop where
  kind : sc.kind = .function
  co : sc.isCoroutine = false
  gen : sc.isGenerator = false
  nd : N.Nodup
  pre : N.take P.length = P
  par : ∀ x ∈ P, sc.names.lookup x = some .local ∨ sc.names.lookup x = some .cell
  nofree : ∀ y ∈ sc.names, y.2 ≠ .free
theorem bindL_out {kindOf : Str → Option NameKind} {x : Str} : ∀ {binds : List (Str × Value)} {m : Str → Option Value}, (∀ v, (x, v) ∉ binds) → bindL kindOf binds m x = m x
  | [], _, _ => rfl
  | (n, v) :: r, m, h => by
    unfold bindL
    rw [bindL_out fun w hw => h w (List.mem_cons_of_mem _ hw)]
    split
    · have : x ≠ n := by rintro rfl; exact h v List.mem_cons_self
      simp [this]
    · rfl
theorem bindC_out {kindOf : Str → Option NameKind} {x : Str} : ∀ {binds : List (Str × Value)} {m : Str → Option Value}, (∀ v, (x, v) ∉ binds) → bindC kindOf binds m x = m x
  | [], _, _ => rfl
  | (n, v) :: r, m, h => by
    unfold bindC
    rw [bindC_out fun w hw => h w (List.mem_cons_of_mem _ hw)]
    split
    · rfl
    · have : x ≠ n := by rintro rfl; exact h v List.mem_cons_self
      simp [this]
theorem bindL_get {kindOf : Str → Option NameKind} {x : Str} {v : Value} : ∀ {P : List Str} {vs : List Value} {i : Nat} {m : Str → Option Value}, P.Nodup → P[i]? = some x → vs[i]? = some v → kindOf x = some .local →
    bindL kindOf (P.zip vs) m x = some v
  | [], _, _, _, _, h, _, _ => by simp at h
  | _ :: _, [], _, _, _, _, h, _ => by simp at h
  | p :: P, w :: vs, 0, m, nd, h1, h2, hk => by
    simp at h1 h2; subst h1; subst h2
    show bindL kindOf ((p, w) :: P.zip vs) m p = _
    unfold bindL
    rw [bindL_out fun v hv => (List.nodup_cons.mp nd).1 (List.of_mem_zip hv).1, if_pos hk]
    simp
  | p :: P, w :: vs, i + 1, m, nd, h1, h2, hk => by
    show bindL kindOf ((p, w) :: P.zip vs) m x = _
    unfold bindL
    exact bindL_get (i := i) (List.nodup_cons.mp nd).2 (by simpa using h1) (by simpa using h2) hk
theorem bindC_get {kindOf : Str → Option NameKind} {x : Str} {v : Value} : ∀ {P : List Str} {vs : List Value} {i : Nat} {m : Str → Option Value}, P.Nodup → P[i]? = some x → vs[i]? = some v → kindOf x ≠ some .local →
    bindC kindOf (P.zip vs) m x = some v
  | [], _, _, _, _, h, _, _ => by simp at h
  | _ :: _, [], _, _, _, _, h, _ => by simp at h
  | p :: P, w :: vs, 0, m, nd, h1, h2, hk => by
    simp at h1 h2; subst h1; subst h2
    show bindC kindOf ((p, w) :: P.zip vs) m p = _
    unfold bindC
    rw [bindC_out fun v hv => (List.nodup_cons.mp nd).1 (List.of_mem_zip hv).1, if_neg hk]
    simp
  | p :: P, w :: vs, i + 1, m, nd, h1, h2, hk => by
    show bindC kindOf ((p, w) :: P.zip vs) m x = _
    unfold bindC
    exact bindC_get (i := i) (List.nodup_cons.mp nd).2 (by simpa using h1) (by simpa using h2) hk
def start (N : List Str) (vs : List V) : St := vs.map some ++ List.replicate (N.length - vs.length) none
def cxOf (CX : CXT) (P : Program) (w : World) (K : PySem.W.Frag) (mg : Str → Option Value) (base : Heap) (N : List Str) (qual : Str) (scope : Scope) (f : Addr) (cd : Value) (A : Around) (outer : List Env) (s : Shared) (H : Hp) (E : XK) : Cx where
  prog := P
  w := w
  K := K
  mg := mg
  base := base
  A := A.deeper (envOfC qual scope s.heap.objs.size f cd)
  N := N
  s₀ := s
  H₀ := H
  env := envOfC qual scope s.heap.objs.size f cd
  outer := outer
  stack := envOfC qual scope s.heap.objs.size f cd :: outer
  ex := []
  calm := true
  fn := fun _ => true
  pn := []
  xe := fun e s' => wpAny (model P w) (A.deeper (envOfC qual scope s.heap.objs.size f cd)) (leaving (envOfC qual scope s.heap.objs.size f cd) e) (fun _ s'' => CX outer H s E e s'') (fun e' s'' => CX outer H s E e' s'') s'
theorem cell_has {sc : Scope} {n : Nat} {x : Str} (h : sc.names.lookup x = some .cell) : ∃ c, (cellsFrom n sc.names []).lookup x = some c := by
  have q := PySem.W.cellsFrom_some sc.names n [] (.inl h)
  exact Option.isSome_iff_exists.mp q
theorem inv_start {CX : CXT} {P : Program} {w : World} {K : PySem.W.Frag} {mg : Str → Option Value} {base : Heap} {N ps : List Str} {qual : Str} {scope : Scope} {f : Addr} {cd : Value} {A : Around} {outer : List Env} {s s1 : Shared} {H : Hp} {E : XK} {us : List Value} {vs : List V}
    (S : FnScope N ps scope) (hd : A.handled = none) (e0 : Env0 P w K mg base A outer s H) (hl : vs.length = ps.length) (r : Vals vs us)
    (x : InCallC s s.heap.objs.size (bindL (envOfC qual scope s.heap.objs.size f cd).kindOf (ps.zip us) fun _ => none) (cellsFrom (s.heap.objs.size + 1) scope.names []) (bindC (envOfC qual scope s.heap.objs.size f cd).kindOf (ps.zip us) fun _ => none) s1) :
    Inv (cxOf CX P w K mg base N qual scope f cd A outer s H E) [] (start N vs) H s1 := by
  have hpl : ps.length ≤ N.length := by have := congrArg List.length S.pre; rw [List.length_take] at this; omega
  obtain ⟨h1, tk, rfl, hk⟩ := x.done
  have noA : ∀ b : Addr, b ∉ (cxOf CX P w K mg base N qual scope f cd A outer s H E).ex := fun b z => absurd (show b ∈ ([] : List Addr) from z) (by simp)
  refine ⟨⟨e0.mod, S.kind, rfl, rfl, Nat.le_refl _, fun y z c h1 h2 => ?_, fun y hy => ?_, fun y c _ h => ?_, fun _ => hd, Around.frames_deeper e0.frames, .inr ⟨rfl, rfl⟩, fun b z => absurd z (noA b), e0.bs, e0.bsz, fun b _ _ => noA b, fun b z => absurd z (noA b), e0.funs, e0.frf⟩,
    rfl, e0.bare, Un.kept hk, ⟨_, x.toInCall.ns, fun i y v h1 h2 h3 => ?_⟩, fun y c h => ⟨_, x.cell y c h⟩, e0.hok.fresh (Nat.le_refl _), fun y c h => ?_, fun p hp => absurd (show p ∈ ([] : List (Addr × Obj)) from hp) (by simp), e0.hok.kept hk, ?_⟩
  · exact name_of_addr x.apart (PySem.mem_of_lookup h1) (PySem.mem_of_lookup h2)
  · have hy : scope.names.lookup y = some .cell ∨ scope.names.lookup y = some .free := hy
    rcases hy with hy | hy
    · exact cell_has hy
    · exact absurd rfl (S.nofree _ (PySem.mem_of_lookup hy))
  · exact Nat.le_of_lt (x.above y c (PySem.mem_of_lookup h))
  · have hi : i < vs.length := by
      unfold start at h2
      by_cases hi : i < vs.length
      · exact hi
      · rw [List.getElem?_append_right (by simpa using hi)] at h2
        rw [List.getElem?_replicate] at h2
        split at h2 <;> cases h2
    have ha : vs[i]? = some v := by
      unfold start at h2
      rw [List.getElem?_append_left (by simpa using hi), List.getElem?_map] at h2
      cases e : vs[i]? with
      | none => rw [e] at h2; cases h2
      | some a => rw [e] at h2; cases h2; rfl
    obtain ⟨u, hu, rv⟩ := r.get ha
    have hp : ps[i]? = some y := by
      rw [← S.pre, List.getElem?_take_of_lt (by omega)]; exact h1
    have ndP : ps.Nodup := by rw [← S.pre]; exact S.nd.sublist (List.take_sublist _ _)
    refine ⟨u, rv, ?_⟩
    rcases S.par y (List.mem_of_getElem? hp) with k | k
    · exact .inl ⟨k, bindL_get ndP hp hu k⟩
    · obtain ⟨c, e⟩ := cell_has (n := s.heap.objs.size + 1) k
      refine .inr ⟨.inl k, c, e, ?_⟩
      have q := x.cell y c e
      rw [bindC_get ndP hp hu (by show scope.names.lookup y ≠ _; rw [k]; decide)] at q
      exact q
  · exact e0.hok.fresh (Nat.le_of_lt (x.above y c (PySem.mem_of_lookup h)))
  · unfold start
    show _ = N.length
    rw [List.length_append, List.length_map, List.length_replicate]
    omega
theorem fn_of {CX : CXT} {P : Program} {w : World} {K : PySem.W.Frag} {mg : Str → Option Value} {base : Heap} {k : Nat} {f : Addr} {name qual : Str} {params : Arguments} {body : List Stmt} {scope : Scope} {dV kV doc pm cdv ct oc : Value} {an od : Option Addr}
    {osl : Array (Option Value)} {N ps : List Str} {sp : Sp} (lk : K.lookup f = some ⟨oc, od, .func (PySem.W.fnOf name qual params body scope dV kV doc pm an cdv ct), osl⟩) (hcd : PySem.W.codeIn K cdv qual = true) (S : FnScope N ps scope)
    (len : ∀ vs H Q E, sp vs H Q E → vs.length = ps.length)
    (hbody : ∀ (A : Around) (outer : List Env) (s : Shared) (H : Hp) (vs : List V) (Q : VK) (E : XK), Room k (A.deeper (envOfC qual scope s.heap.objs.size f cdv)) → sp vs H Q E →
      ∃ t, PSs (cxOf CX P w K mg base N qual scope f cdv A outer s H E) body t ∧ t { nx := fun _ H' => Q .non H', rt := Q } (start N vs) H) :
    FnOk P w K mg base CX (k + 1) f (PySem.W.fnOf name qual params body scope dV kV doc pm an cdv ct) ps sp := by
  refine ⟨len, fun A outer s H args us vs Q E hr e0 hb r hsp => ?_⟩
  have hl := len _ _ _ _ hsp
  have KX : K.In s.heap := e0.mod.kin.keeps fun b o e => (e0.bs b o e).1
  have lim : s.heap.NoLimit := e0.mod.nolimit.keeps fun b o e => (e0.bs b o e).1
  have hkind : ∀ y ∈ ps.zip us, scope.names.lookup y.1 = some .local ∨ (scope.names.lookup y.1 = some .cell ∧ ((cellsFrom (s.heap.objs.size + 1) scope.names []).lookup y.1).isSome = true) := fun ⟨n, v⟩ hy => by
    rcases S.par n (List.of_mem_zip hy).1 with q | q
    · exact .inl q
    · exact .inr ⟨q, PySem.W.cellsFrom_some _ _ _ (.inl q)⟩
  refine codeAny_call_function hr.depth (KX _ _ lk) rfl S.co S.gen rfl (PySem.W.codeRec_of KX hcd) (hb _ _ _ _ ?_)
  refine wpAny_newFunctionEnv_cells S.kind hkind fun env he s1 x => ?_
  subst he
  refine ⟨lim.keeps x.toInCall.keep, codeAny_func ?_⟩
  obtain ⟨t, ht, hq⟩ := hbody A outer s H vs Q E (hr.deeper _) hsp
  have I : Inv (cxOf CX P w K mg base N qual scope f cdv A outer s H E) [] (start N vs) H s1 := inv_start S hr.hd e0 hl r x
  refine wpAny_mono (ht [] s1 (start N vs) H _ I hq) (fun fl s' hs => ?_) fun e s' hs => hs
  have fin : ∀ {σ' : St} {H' : Hp} {v : V} {u : Value}, Inv (cxOf CX P w K mg base N qual scope f cdv A outer s H E) [] σ' H' s' → RelV v u → Q v H' → CE outer P w H s Q u s' :=
    fun {σ' H' v u} J rv q => ⟨v, H', J.os, J.bare, J.base, J.hok, rv, q⟩
  cases fl with
  | ret u =>
    obtain ⟨v, σ', H', J, rv, q⟩ := hs
    exact fin J rv q
  | next =>
    obtain ⟨σ', H', J, q⟩ := hs
    exact fin (v := V.non) (u := Value.none) J rfl q
  | brk =>
    obtain ⟨_, _, _, q⟩ := hs
    exact False.elim q
  | cont =>
    obtain ⟨_, _, _, q⟩ := hs
    exact False.elim q
end L2
namespace L2
open PySem PySem.Spec PyProof.Rows
section
variable {X : Cx} {x : Str} {p pos : Pos} {e : Expr} {es : List Expr} {t : TA} {id T : String} {r : List V → Hp → VK → Prop}
def tCB (r : List V → Hp → VK → Prop) (t : TA) : TE := fun σ H Q => t σ H fun vs H1 => r vs H1 Q
theorem pe_callB (hc : CallR X (.builtin id) r) (hg : Gl X x) (hm : X.mg x = none) (hv : bootBuiltins x = some (.builtin id)) (ha : PA X (e :: es) t) (hn : x ≠ "__name__" := by decide) (hdb : (x == ("__debug__" : Str)) = false := by decide)
    (he : starEach (e :: es) X.env = (false, eval e X.env) :: starEach es X.env := by rfl) (hpl : (backTo pos (starEach es X.env)).any (·.1) = false := by rfl) : PE X (.Call (.Name x p) (e :: es) [] pos) (tCB r t) := by
  intro pins s σ H Q I h
  refine wpAny_Call_Name_kw (ld_blt I hg hm hv ?_ hn hdb)
  exact PyProof.Rows.callWith_builtin1 (thn (ha pos pins s σ H _ I h) fun us s1 ⟨vs, H1, I1, r1, q1⟩ => hc pins s1 σ H1 vs us Q I1 r1 q1) he hpl
theorem pe_callTy (hc : CallR X (.type T) r) (hg : Gl X x) (hm : X.mg x = none) (hv : bootBuiltins x = some (.type T)) (ha : PA X (e :: es) t) (hn : x ≠ "__name__" := by decide) (hdb : (x == ("__debug__" : Str)) = false := by decide)
    (he : starEach (e :: es) X.env = (false, eval e X.env) :: starEach es X.env := by rfl) (hpl : (backTo pos (starEach es X.env)).any (·.1) = false := by rfl) : PE X (.Call (.Name x p) (e :: es) [] pos) (tCB r t) := by
  intro pins s σ H Q I h
  refine wpAny_Call_Name_kw (ld_blt I hg hm hv ?_ hn hdb)
  exact PyProof.Rows.callWith_type1 (thn (ha pos pins s σ H _ I h) fun us s1 ⟨vs, H1, I1, r1, q1⟩ => hc pins s1 σ H1 vs us Q I1 r1 q1) he hpl
end
end L2
namespace HT
open PySem PyProof.Rows
section
open PySem.SeqAt
open PySem.AutoSeq1 (wpAny_loadPart')
open PySem.MeetsSeq PySem.MeetsSeq2 PySem.MeetsSeq3
end
section
variable {prog : Program} {w : World} {A : Around} {E : Value → Shared → Prop} {s : Shared}
theorem cat_tup {t b : Addr} {vs ws : List Value} {Q : Value → Shared → Prop} (ht : IsTup s.heap t vs.toArray) (hb : IsTup s.heap b ws.toArray) (hv : vs ≠ [])
    (h1 : ws = [] → Q (.ref t) s) (h2 : ws ≠ [] → Q (.ref s.heap.objs.size) { s with heap := s.heap.push { cls := .type "tuple", data := .seq (vs ++ ws).toArray } })
    (hsz : vs.length + ws.length ≤ sizeLine) : wpAny (model prog w) A (binaryOp .Add (.ref t) (.ref b)) Q E s := by
  obtain ⟨⟨cls, dd, data, sl⟩, ho, hc, n, hd⟩ := id ht
  obtain ⟨⟨cls2, dd2, data2, sl2⟩, ho2, hc2, n2, hd2⟩ := id hb
  simp only at hc hd hc2 hd2
  subst hc hd hc2 hd2
  have e : vs.toArray ++ ws.toArray = (vs ++ ws).toArray := by simp
  by_cases hw : ws = []
  · exact concat_meets ⟨_, ho, rfl⟩ ⟨_, ho2, rfl⟩ noFill_tuple_add seq_tuple_add PySem.F.slot_tuple_add PySem.F.entry_tuple_add (PySem.F.args_tuple_add_2 _ _)
      (tuple_addW1 t b vs.toArray ws.toArray n n2 dd dd2 sl sl2 (by simpa using hv) (by simp [hw])) ⟨ho, ho2, h1 hw⟩
  · refine concat_meets ⟨_, ho, rfl⟩ ⟨_, ho2, rfl⟩ noFill_tuple_add seq_tuple_add PySem.F.slot_tuple_add PySem.F.entry_tuple_add (PySem.F.args_tuple_add_2 _ _)
      (tuple_addW2 t b vs.toArray ws.toArray n n2 dd dd2 sl sl2 (by simpa using hv) (by simpa using hw) (by rw [List.size_toArray, List.size_toArray]; exact hsz)) ⟨ho, ho2, ?_⟩
    rw [e]
    exact h2 hw
def sIx (n d : Nat) : Option Int → Nat
  | none => d
  | some v => if v < 0 then (v + (n : Int)).toNat else min v.toNat n
theorem sIx_none (n d : Nat) : sIx n d none = d := rfl
theorem sIx_nat (n d k : Nat) : sIx n d (some (k : Int)) = min k n := by
  show (if (k : Int) < 0 then ((k : Int) + (n : Int)).toNat else min (k : Int).toNat n) = min k n
  rw [if_neg (by omega), Int.toNat_natCast]
theorem sIx_le (n d : Nat) (hd : d ≤ n) (o : Option Int) : sIx n d o ≤ n := by
  cases o with
  | none => exact hd
  | some v =>
    show (if v < 0 then (v + (n : Int)).toNat else min v.toNat n) ≤ n
    by_cases hv : v < 0
    · rw [if_pos hv]; omega
    · rw [if_neg hv]; exact Nat.min_le_right _ _
theorem clip_eq (v : Int) (n d : Nat) : (if v < 0 then max (v + (n : Int)) 0 else min v (n : Int)) = ((sIx n d (some v) : Nat) : Int) := by
  show (if v < 0 then max (v + (n : Int)) 0 else min v (n : Int)) = (((if v < 0 then (v + (n : Int)).toNat else min v.toNat n) : Nat) : Int)
  by_cases hv : v < 0
  · simp only [if_pos hv]; omega
  · simp only [if_neg hv]; omega
theorem adjust_gen (lo hi : Option Int) (n : Nat) : Builtin.Slice.sliceAdjust lo hi 1 (n : Int) = (((sIx n 0 lo : Nat) : Int), ((sIx n n hi : Nat) : Int)) := by
  have h1 : ¬ ((1 : Int) < 0) := by omega
  unfold Builtin.Slice.sliceAdjust
  simp only [h1, if_false]
  refine Prod.ext ?_ ?_
  · cases lo with
    | none => rfl
    | some v => exact clip_eq v n 0
  · cases hi with
    | none => rfl
    | some v => exact clip_eq v n n
theorem places_gen (i j : Nat) : Builtin.Slice.slicePlaces (i : Int) (j : Int) 1 = j - i := by
  unfold Builtin.Slice.slicePlaces
  have h1 : (1 : Int) > 0 := by omega
  simp only [h1, if_true, Int.ediv_one]
  split <;> omega
theorem slicePart_ {v : Value} {o : Option Int} {Q : Option Int → Shared → Prop} (p : IsPart v o) (h : Q o s) : wpAny (model prog w) A (Builtin.Slice.slicePartIndex v) Q E s := by
  cases p with
  | none => exact slicePart_none h
  | int i t => exact slicePart_int h
theorem sliceApplied_gen {sl : Addr} {vl vu : Value} {lo hi : Option Int} {n : Nat} {Q : Int × Int × Nat → Shared → Prop} (hs : s.heap.IsSliceOf sl vl vu .none) (pl : IsPart vl lo) (pu : IsPart vu hi)
    (h : Q (((sIx n 0 lo : Nat) : Int), 1, sIx n n hi - sIx n 0 lo) s) : wpAny (model prog w) A (Builtin.Slice.sliceApplied (.ref sl) (pure (n : Int))) Q E s := by
  obtain ⟨os, hos, hcs, hds⟩ := id hs
  unfold Builtin.Slice.sliceApplied Builtin.Slice.sliceFields
  refine wpAny_bind (wpAny_bind (wpAny_field hos hds (x := vl) rfl (wpAny_bind (wpAny_field hos hds (x := vu) rfl (wpAny_bind (wpAny_field hos hds (x := .none) rfl (wpAny_pure ?_)))))))
  refine wpAny_bind (slicePart_none ?_)
  show wpAny _ _ (if ((1 : Int) == 0) = true then _ else _) _ _ s
  rw [if_neg (by decide)]
  refine wpAny_bind (slicePart_ pl (wpAny_bind (slicePart_ pu (wpAny_bind (wpAny_pure ?_)))))
  show wpAny _ _ (match Builtin.Slice.sliceAdjust lo hi 1 (n : Int) with | (lo, hi) => pure (lo, (1 : Int), Builtin.Slice.slicePlaces lo hi 1)) _ _ s
  rw [adjust_gen lo hi n]
  show wpAny _ _ (pure (((sIx n 0 lo : Nat) : Int), (1 : Int), Builtin.Slice.slicePlaces ((sIx n 0 lo : Nat) : Int) ((sIx n n hi : Nat) : Int) 1)) _ _ s
  rw [places_gen]
  exact wpAny_pure h
theorem pick_gen (xs : Array Value) (i k : Nat) : ((List.range k).filterMap fun (m : Nat) => xs[((i : Int) + (m : Int) * 1).toNat]?).toArray = ((xs.toList.drop i).take k).toArray := by
  have e : (fun (m : Nat) => xs[((i : Int) + (m : Int) * 1).toNat]?) = fun m => xs[i + m]? := by
    funext m
    have : ((i : Int) + (m : Int) * 1).toNat = i + m := by omega
    rw [this]
  rw [e]
  have := pick_run xs i k
  rw [List.filterMap_map] at this
  have e2 : ((fun x => xs[x]?) ∘ fun x => i + x) = fun m => xs[i + m]? := rfl
  rw [e2] at this
  rw [this]
theorem getItem_tuple_cut {t sl : Addr} {items : Array Value} {vl vu : Value} {lo hi : Option Int} {Q : Value → Shared → Prop} (ht : IsTup s.heap t items) (hs : s.heap.IsSliceOf sl vl vu .none) (pl : IsPart vl lo) (pu : IsPart vu hi)
    (hw : ¬ (sIx items.size 0 lo = 0 ∧ sIx items.size items.size hi = items.size))
    (h : Q (.ref s.heap.objs.size) { s with heap := s.heap.push { cls := .type "tuple", data := .seq ((items.toList.drop (sIx items.size 0 lo)).take (sIx items.size items.size hi - sIx items.size 0 lo)).toArray } })
    (hsz : items.size ≤ sizeLine) : wpAny (model prog w) A (getItem (.ref t) (.ref sl)) Q E s := by
  have htake : sizeOk (.seq ((items.toList.drop (sIx items.size 0 lo)).take (sIx items.size items.size hi - sIx items.size 0 lo)).toArray) := by
    show ((items.toList.drop (sIx items.size 0 lo)).take (sIx items.size items.size hi - sIx items.size 0 lo)).toArray.size ≤ sizeLine
    rw [List.size_toArray, List.length_take, List.length_drop, Array.length_toList]
    omega
  have hj : sIx items.size items.size hi ≤ items.size := sIx_le _ _ (Nat.le_refl _) hi
  obtain ⟨os, hos, hcs, hds⟩ := id hs
  have hTs : s.TypeIs (.ref sl) "slice" := ⟨os, hos, hcs⟩
  unfold getItem
  try with_reducible refine wpAny_holding ?_
  first | refine wpAny_bind (wpAny_pure ?_) | skip
  refine wpAny_bind (wpAny_sequenceKey ht.typeIs (by decide) ?_)
  refine wpAny_bind (wpAny_callSpecial?_slot (name := Str.ofString "__getitem__") ht.typeIs PyProof.Rows.slot_tuple_getitem
    (wpAny_call_entry PyProof.Rows.slot_tuple_getitem ht.typeIs entry_tuple_getitem ?_ (args_tuple_getitem _ _)))
  show wpAny _ _ (Builtin.Tuple.tupleItemsOf (.ref t) >>= _) _ _ s
  refine wpAny_bind (tupleItemsOf_ ht ?_)
  refine wpAny_bind (wpAny_typeOf hTs ?_)
  rw [if_pos (by decide)]
  refine wpAny_bind (sliceApplied_gen hs pl pu ?_)
  have hno : ¬ ((((sIx items.size 0 lo : Nat) : Int) == 0 && (1 : Int) == 1 && (sIx items.size items.size hi - sIx items.size 0 lo) == items.size) = true) := by
    intro q
    rw [Bool.and_eq_true, Bool.and_eq_true] at q
    have q1 : ((sIx items.size 0 lo : Nat) : Int) = 0 := eq_of_beq q.1.1
    have q2 : sIx items.size items.size hi - sIx items.size 0 lo = items.size := eq_of_beq q.2
    exact hw ⟨by omega, by omega⟩
  show wpAny _ _ (if (((sIx items.size 0 lo : Nat) : Int) == 0 && (1 : Int) == 1 && (sIx items.size items.size hi - sIx items.size 0 lo) == items.size) = true then _ else _) _ _ s
  rw [if_neg hno, pick_gen]
  first
    | exact wpAny_bind (m := Builtin.Tuple.tupleExact _) (wpAny_newObj_type (wpAny_pure ⟨_, rfl, wpAny_pure h⟩) htake)
    | exact wpAny_bind (m := Builtin.Tuple.tupleExact _) (wpAny_newObj_type (wpAny_bind (wpAny_pure (wpAny_pure ⟨_, rfl, wpAny_pure h⟩))) htake)
    | exact wpAny_bind (wpAny_bind (m := Builtin.Tuple.tupleExact _) (wpAny_newObj_type (wpAny_pure (wpAny_pure ⟨_, rfl, wpAny_pure h⟩)) htake))
    | exact wpAny_bind (wpAny_bind (m := Builtin.Tuple.tupleExact _) (wpAny_newObj_type (wpAny_pure ⟨_, rfl, wpAny_pure h⟩) htake))
end
end HT
namespace L2
open PySem PySem.Spec PyProof.Rows
abbrev TO := St → Hp → (Option Int → Hp → Prop) → Prop
def PO (X : Cx) (e : Option Expr) (t : TO) : Prop :=
  ∀ (pins : List (Addr × Obj)) (s : Shared) (σ : St) (H : Hp) (Q : Option Int → Hp → Prop), Inv X pins σ H s → t σ H Q →
    wpAny (model X.prog X.w) X.A (evalPart e X.env) (fun u s' => ∃ o H', Inv X pins σ H' s' ∧ IsPart u o ∧ Q o H') X.xe s
def tNoPart : TO := fun _ H Q => Q none H
def tPart (t : TE) : TO := fun σ H Q => t σ H fun x H1 => ∃ i, x = .int i ∧ Q (some i) H1
section
variable {X : Cx} {e : Expr} {te : TE} {lo hi : Option Expr} {tl th : TO} {pos p2 : Pos}
theorem po_none : PO X none tNoPart := by
  intro pins s σ H Q I h
  rw [evalPart_none]
  exact wpAny_pure ⟨none, H, I, .none, h⟩
theorem po_some (h : PE X e te) : PO X (some e) (tPart te) := by
  intro pins s σ H Q I hw
  rw [evalPart_some]
  refine thn (h pins s σ H _ I hw) fun u s1 ⟨x, H1, I1, r1, q1⟩ => ?_
  obtain ⟨i, rfl, q⟩ := q1
  obtain ⟨t, rfl⟩ := r1
  exact ⟨some i, H1, I1, .int i t, q⟩
def SlR (X : Cx) (r : V → Option Int → Option Int → Hp → VK → Prop) : Prop :=
  ∀ (pins : List (Addr × Obj)) (s : Shared) (σ : St) (H : Hp) (x : V) (v vl vu : Value) (lo hi : Option Int) (sl : Addr) (Q : VK), Inv X pins σ H s → RelV x v → s.heap.IsSliceOf sl vl vu .none → IsPart vl lo → IsPart vu hi → r x lo hi H Q →
    ∃ T id, typeLookup (.type T) "__getitem__" = pure (some (.builtin id)) ∧ s.TypeIs v T ∧ wpAny (model X.prog X.w) X.A (getItem v (.ref sl)) (EP X pins σ Q) X.xe s
def tSl (r : V → Option Int → Option Int → Hp → VK → Prop) (te : TE) (tl th : TO) : TE := fun σ H Q => te σ H fun x H1 => tl σ H1 fun l H2 => th σ H2 fun u H3 => r x l u H3 Q
theorem pe_slice {r : V → Option Int → Option Int → Hp → VK → Prop} (hr : SlR X r) (he : PE X e te) (hl : PO X lo tl) (hu : PO X hi th) : PE X (.Subscript e (.Slice lo hi none p2) pos) (tSl r te tl th) := by
  intro pins s σ H Q I h
  refine Subscript_ (thn (he pins s σ H _ I h) fun v s1 ⟨x, H1, I1, r1, q1⟩ => ?_)
  refine wpAny_Slice (thn (hl pins s1 σ H1 _ I1 q1) fun vl s2 ⟨l, H2, I2, pl, q2⟩ => thn (hu pins s2 σ H2 _ I2 q2) fun vu s3 ⟨u, H3, I3, pu, q3⟩ => ?_)
  rw [evalPart_none]
  refine wpAny_pure ?_
  have I4 : Inv X pins σ H3 { s3 with heap := s3.heap.push { cls := .type "slice", data := .fields #[vl, vu, .none] } } := I3.kept (t' := s3.toks) fun b ob q => Heap.get?_push_of_some _ q
  obtain ⟨T, id, hT, ht, hg⟩ := hr pins { s3 with heap := s3.heap.push { cls := .type "slice", data := .fields #[vl, vu, .none] } } σ H3 x v vl vu l u s3.heap.objs.size Q I4 r1 (Heap.IsSliceOf.new ..) pl pu q3
  show wpAny (model X.prog X.w) X.A (subscriptTail e (.Slice lo hi none p2) v (.ref s3.heap.objs.size)) (EP X pins σ Q) X.xe { s3 with heap := s3.heap.push { cls := .type "slice", data := .fields #[vl, vu, .none] } }
  exact tail_any (ops := [.ref s3.heap.objs.size, v]) ht hT hg (by with_unfolding_all rfl)
def cutV (xs : List V) (lo hi : Option Int) : List V := (xs.drop (HT.sIx xs.length 0 lo)).take (HT.sIx xs.length xs.length hi - HT.sIx xs.length 0 lo)
theorem cutV_length (xs : List V) (lo hi : Option Int) : (cutV xs lo hi).length ≤ xs.length := by
  unfold cutV
  rw [List.length_take, List.length_drop]
  omega
def rSlT (K : PySem.W.Frag) : V → Option Int → Option Int → Hp → VK → Prop := fun x lo hi H Q => ∃ a xs, x = .ref a ∧ SqT K H a xs ∧
  ¬ (HT.sIx xs.length 0 lo = 0 ∧ HT.sIx xs.length xs.length hi = xs.length) ∧ ∀ p, H p = none → Q (.ref p) (upd H p (.tup (cutV xs lo hi)))
theorem sl_tup : SlR X (rSlT X.K) := by
  intro pins s σ H x v vl vu lo hi sl Q I rx hs pl pu h
  obtain ⟨a, xs, rfl, hx, hw, q⟩ := h
  cases rx
  obtain ⟨its, r, ht, hz⟩ := I.tuple hx
  have hlen : its.toArray.size = xs.length := by rw [List.size_toArray]; exact r.length.symm
  refine ⟨"tuple", _, PyProof.Rows.slot_tuple_getitem.lookup, ht.typeIs, ?_⟩
  refine HT.getItem_tuple_cut ht hs pl pu (by rw [hlen]; exact hw) ?_ (by rw [hlen]; exact hz)
  rw [hlen]
  refine ⟨.ref s.heap.objs.size, _, I.laid (t' := s.toks) (o := .tup (cutV xs lo hi)) (fun b ob q => Heap.get?_push_of_some _ q) (Nat.le_refl _) ?_, rfl, q _ (I.hok.fresh (Nat.le_refl _))⟩
  exact ⟨Nat.le_trans (cutV_length xs lo hi) hz, _, (r.drop (HT.sIx xs.length 0 lo)).take (HT.sIx xs.length xs.length hi - HT.sIx xs.length 0 lo), TupN.new _ _⟩
def rCatT (K : PySem.W.Frag) : R2 := fun x y H Q => ∃ a b xs ys, x = .ref a ∧ y = .ref b ∧ SqT K H a xs ∧ SqT K H b ys ∧ xs ≠ [] ∧ xs.length + ys.length ≤ sizeLine ∧
  (ys = [] → Q (.ref a) H) ∧ (ys ≠ [] → ∀ p, H p = none → Q (.ref p) (upd H p (.tup (xs ++ ys))))
theorem Vals.nil_iff {xs : List V} {us : List Value} (r : Vals xs us) : us = [] ↔ xs = [] := by
  cases r with
  | nil => simp
  | cons _ _ => simp
theorem op_catT : OpR X (binaryOp .Add) (rCatT X.K) := by
  intro pins s σ H x y v u Q I rx ry h
  obtain ⟨a, b, xs, ys, rfl, rfl, ha, hb, hx, hz, q1, q2⟩ := h
  cases rx
  cases ry
  obtain ⟨its, r1, p1, _⟩ := I.tuple ha
  obtain ⟨its2, r2, p2, _⟩ := I.tuple hb
  refine HT.cat_tup p1 p2 (fun z => hx (r1.nil_iff.mp z)) (fun z => ⟨.ref a, H, I, rfl, q1 (r2.nil_iff.mp z)⟩) (fun z => ?_) (by rw [← r1.length, ← r2.length]; exact hz)
  refine ⟨.ref s.heap.objs.size, _, I.laid (t' := s.toks) (o := .tup (xs ++ ys)) (fun b ob q => Heap.get?_push_of_some _ q) (Nat.le_refl _) ?_, rfl, q2 (fun w => z (r2.nil_iff.mpr w)) _ (I.hok.fresh (Nat.le_refl _))⟩
  exact ⟨by rw [List.length_append]; exact hz, _, r1.append r2, TupN.new _ _⟩
end
end L2
namespace L2
open PySem PySem.Spec PyProof.Rows
def ixN (n : Nat) (i : Int) : Option Nat := if 0 ≤ i then (if i < n then some i.toNat else none) else if -(n : Int) ≤ i then some (i + n).toNat else none
def atI {α : Type} (xs : List α) (i : Int) : Option α := (ixN xs.length i).bind fun j => xs[j]?
theorem ixN_seq {n : Nat} {i : Int} {j : Nat} (h : ixN n i = some j) : seqIndex? i n = some j ∧ j < n ∧ -(n : Int) ≤ i ∧ i < n := by
  unfold ixN at h
  by_cases h0 : 0 ≤ i
  · rw [if_pos h0] at h
    by_cases h1 : i < n
    · rw [if_pos h1] at h
      have e : i.toNat = j := Option.some.inj h
      exact ⟨by rw [seqIndex_of h0 h1, e], by omega, by omega, h1⟩
    · rw [if_neg h1] at h; cases h
  · rw [if_neg h0] at h
    by_cases h1 : -(n : Int) ≤ i
    · rw [if_pos h1] at h
      have e : (i + n).toNat = j := Option.some.inj h
      exact ⟨by rw [seqIndex_neg (by omega) h1, e], by omega, h1, by omega⟩
    · rw [if_neg h1] at h; cases h
theorem atI_get {α : Type} {xs : List α} {i : Int} {v : α} (h : atI xs i = some v) : ∃ j, seqIndex? i xs.length = some j ∧ xs[j]? = some v ∧ j < xs.length ∧ -(xs.length : Int) ≤ i ∧ i < xs.length := by
  unfold atI at h
  cases e : ixN xs.length i with
  | none => rw [e] at h; cases h
  | some j =>
    rw [e] at h
    obtain ⟨h1, h2, h3, h4⟩ := ixN_seq e
    exact ⟨j, h1, h, h2, h3, h4⟩
theorem atI_nat {α : Type} {xs : List α} {j : Nat} {v : α} (h : xs[j]? = some v) : atI xs (j : Int) = some v := by
  have hj : j < xs.length := (List.getElem?_eq_some_iff.mp h).1
  have e : ixN xs.length (j : Int) = some j := by
    unfold ixN
    rw [if_pos (by omega), if_pos (by omega)]; simp
  unfold atI; rw [e]; exact h
def PlainIx (b : Expr) : Prop := ∀ o i, subscripted b false o i = operate [o, i] (getItem o i)
def IxR (X : Cx) (r : R2) : Prop :=
  ∀ (value slice : Expr) (pins : List (Addr × Obj)) (s : Shared) (σ : St) (H : Hp) (x y : V) (v u : Value) (Q : VK), Inv X pins σ H s → RelV x v → RelV y u → r x y H Q →
    subscripted slice false v u = operate [v, u] (getItem v u) → wpAny (model X.prog X.w) X.A (subscriptTail value slice v u) (EP X pins σ Q) X.xe s
def MtR (X : Cx) (id : String) (r : V → List V → Hp → VK → Prop) : Prop :=
  ∀ (pins : List (Addr × Obj)) (s : Shared) (σ : St) (H : Hp) (x : V) (xs : List V) (v : Value) (us : List Value) (Q : VK), Inv X pins σ H s → RelV x v → Vals xs us → r x xs H Q →
    wpAny (model X.prog X.w) X.A (call (.builtin id) (v :: us)) (EP X pins σ Q) X.xe s
section
variable {X : Cx} {a b : Expr} {ta tb : TE} {pos : Pos}
theorem pe_ix {r : R2} (hr : IxR X r) (ha : PE X a ta) (hb : PE X b tb) (hs : PlainIx b) : PE X (.Subscript a b pos) (tOp r ta tb) := by
  intro pins s σ H Q I h
  exact Subscript_ (binT ha hb I h fun v u s2 x y H2 I2 rx ry q => hr a b pins s2 σ H2 x y v u Q I2 rx ry q (hs _ _))
def rIxL (K : PySem.W.Frag) : R2 := fun x y H Q => ∃ p xs i v, x = .ref p ∧ y = .int i ∧ SqL K H p xs ∧ atI xs i = some v ∧ Q v H
def rIxT (K : PySem.W.Frag) : R2 := fun x y H Q => ∃ p xs i v, x = .ref p ∧ y = .int i ∧ SqT K H p xs ∧ atI xs i = some v ∧ Q v H
def rIxS : R2 := fun x y H Q => ∃ z i c, x = .str z ∧ y = .int i ∧ z.length ≤ sizeLine ∧ atI z.cps.toList i = some c ∧ Q (.str ⟨#[c]⟩) H
theorem ix_list : IxR X (rIxL X.K) := by
  intro value slice pins s σ H x y v u Q I rx ry h hs
  obtain ⟨p, xs, i, z, rfl, rfl, hq, he, q⟩ := h
  cases rx
  obtain ⟨t, rfl⟩ := ry
  obtain ⟨its, r, pl, hz⟩ := I.list hq
  obtain ⟨j, h1, h2, h3, h4, h5⟩ := atI_get he
  obtain ⟨w, ew, rw'⟩ := r.get h2
  have hl := r.length
  have hn := line63
  have fin : EP X pins σ Q w s := ⟨z, H, I, rw', q⟩
  by_cases h0 : 0 ≤ i
  · have hj : i.toNat = j := by
      rw [seqIndex_of h0 h5] at h1
      exact Option.some.inj h1
    exact item_listR pl.isList h0 (by omega) (by rw [hj]; simpa using ew) fin hs
  · have hj : (i + (its.toArray.size : Int)).toNat = j := by
      rw [seqIndex_neg (by omega) h4] at h1
      rw [List.size_toArray, ← hl]
      exact Option.some.inj h1
    exact subscriptTail_builtinR (x := w) pl.isList.typeIs slot_list_getitem.lookup
      (wpAny_getItem_list_neg (Q := fun r s' => r = w ∧ EP X pins σ Q r s') pl.isList (by omega) (by rw [List.size_toArray] <;> omega) (by omega) (by rw [hj]; simpa using ew) ⟨rfl, fin⟩) hs
theorem ix_tup : IxR X (rIxT X.K) := by
  intro value slice pins s σ H x y v u Q I rx ry h hs
  obtain ⟨p, xs, i, z, rfl, rfl, hq, he, q⟩ := h
  cases rx
  obtain ⟨t, rfl⟩ := ry
  obtain ⟨its, r, pl, hz⟩ := I.tuple hq
  obtain ⟨j, h1, h2, h3, h4, h5⟩ := atI_get he
  obtain ⟨w, ew, rw'⟩ := r.get h2
  have hl := r.length
  have hn := line63
  have fin : EP X pins σ Q w s := ⟨z, H, I, rw', q⟩
  exact subscriptTail_builtinR (x := w) pl.typeIs slot_tuple_getitem.lookup
    (getItem_tuple (j := j) (Q := fun r s' => r = w ∧ EP X pins σ Q r s') pl (by omega) (by omega) (by rw [List.size_toArray, ← hl]; exact h1) (by simpa using ew) ⟨rfl, fin⟩) hs
theorem ix_str : IxR X rIxS := by
  intro value slice pins s σ H x y v u Q I rx ry h hs
  obtain ⟨z, i, c, rfl, rfl, hz, he, q⟩ := h
  obtain ⟨t, rfl⟩ := rx
  obtain ⟨t', rfl⟩ := ry
  obtain ⟨j, h1, h2, h3, h4, h5⟩ := atI_get he
  have hl : z.cps.toList.length = z.length := by simp [Str.length]
  rw [hl] at h1 h4 h5
  have hn := line63
  exact tail_any (typeIs_str s z t) slot_str_getitem.lookup (getItem_str (c := c) (by
    have e1 : decide (i < -(2 ^ 63 : Int)) = false := decide_eq_false (by omega)
    have e2 : decide (i ≥ 2 ^ 63) = false := decide_eq_false (by omega)
    rw [e1, e2, Bool.or_false]) (by rw [h1]; simpa using h2) ⟨.str ⟨#[c]⟩, H, I.tok _, ⟨_, rfl⟩, q⟩) hs
theorem mapSeq_set (its : List Value) (n j : Nat) (u : Value) : Obj.mapSeq (·.setIfInBounds j u) { cls := .type "list", data := .seq its.toArray n } = { cls := .type "list", data := .seq (its.set j u).toArray n } := by
  simp [Obj.mapSeq]
theorem Inv.lst {pins : List (Addr × Obj)} {σ : St} {H : Hp} {s : Shared} {p : Addr} {xs : List V} (I : Inv X pins σ H s) (h : H p = some (.lst xs)) :
    ∃ (its : List Value) (n : Nat), Vals xs its ∧ s.heap.get? p = some { cls := .type "list", data := .seq its.toArray n } ∧ xs.length ≤ sizeLine := by
  obtain ⟨z, its, n, r, e⟩ := I.hok p _ h
  exact ⟨its, n, r, e, z⟩
theorem Inv.lstUpd {pins : List (Addr × Obj)} {σ : St} {H : Hp} {s : Shared} {p : Addr} {xs ys : List V} {its its' : List Value} {n n' : Nat} {f : Obj → Obj} (I : Inv X pins σ H s) (h : H p = some (.lst xs))
    (ho : s.heap.get? p = some { cls := .type "list", data := .seq its.toArray n }) (hf : f { cls := .type "list", data := .seq its.toArray n } = { cls := .type "list", data := .seq its'.toArray n' }) (r : Vals ys its') (hz : ys.length ≤ sizeLine) (t : Nat) :
    Inv X pins σ (upd H p (.lst ys)) { s with heap := s.heap.update p f, toks := t } := by
  have e : (s.heap.update p f).get? p = some { cls := .type "list", data := .seq its'.toArray n' } := by
    rw [Heap.get?_update_self f ho (by rw [hf] <;> rfl), hf]
  refine I.write (x := p) (e := p) (by rw [h]; trivial) (.inl rfl) (fun b u hb q => (Heap.get?_update_other _ _ (Ne.symm hb)).trans q) ⟨_, e⟩ ?_
  exact ⟨hz, its', n', r, e⟩
def rSetL : V → V → V → Hp → (Hp → Prop) → Prop := fun o i v H Q => ∃ p xs k j, o = .ref p ∧ i = .int k ∧ H p = some (.lst xs) ∧ ixN xs.length k = some j ∧ Q (upd H p (.lst (xs.set j v)))
theorem set_list : PSet X rSetL := by
  intro pins s σ H o i v ov iv u Q I ro ri rv h
  obtain ⟨p, xs, k, j, rfl, rfl, hp, hj, q⟩ := h
  cases ro
  obtain ⟨t, rfl⟩ := ri
  obtain ⟨its, n, r, ho, hz⟩ := I.lst hp
  obtain ⟨h1, h2, h3, h4⟩ := ixN_seq hj
  have hl := r.length
  have hn := line63
  have I' : Inv X pins σ (upd H p (.lst (xs.set j v))) { s with heap := s.heap.update p (Obj.mapSeq (·.setIfInBounds j u)) } :=
    I.lstUpd hp ho (mapSeq_set its n j u) (r.set rv j) (by rw [List.length_set]; exact hz) s.toks
  by_cases h0 : 0 ≤ k
  · have hk : k.toNat = j := by
      rw [seqIndex_of h0 h4] at h1
      exact Option.some.inj h1
    exact PySem.W.ki_setAt ho h0 (by omega) (by rw [List.size_toArray, ← hl]; exact h4) (by rw [hk]; exact ⟨_, I', q⟩)
  · have hk : (k + (its.toArray.size : Int)).toNat = j := by
      rw [seqIndex_neg (by omega) h3] at h1
      rw [List.size_toArray, ← hl]
      exact Option.some.inj h1
    exact PySem.W.ki_setBack ho (by omega) (by rw [List.size_toArray, ← hl]; exact h3) (by omega) (by rw [hk]; exact ⟨_, I', q⟩)
theorem slice_bounds (lo hi : Option Int) (n : Nat) : (sliceBounds lo hi none n).1 = ((HT.sIx n 0 lo : Nat) : Int) ∧ (sliceBounds lo hi none n).2.1 = ((HT.sIx n n hi : Nat) : Int) ∧ (sliceBounds lo hi none n).2.2 = 1 := by
  refine ⟨?_, ?_, rfl⟩
  · cases lo with
    | none => simp [sliceBounds, HT.sIx]
    | some i =>
      simp only [sliceBounds, HT.sIx, Option.getD_none, show (1 : Int) > 0 by decide, if_true]
      by_cases h : i < 0
      · simp only [h, if_true] <;> omega
      · simp only [h, if_false] <;> omega
  · cases hi with
    | none => simp [sliceBounds, HT.sIx]
    | some i =>
      simp only [sliceBounds, HT.sIx, Option.getD_none, show (1 : Int) > 0 by decide, if_true]
      by_cases h : i < 0
      · simp only [h, if_true] <;> omega
      · simp only [h, if_false] <;> omega
theorem slicePick_cut (its : List Value) (lo hi : Option Int) : slicePick its.toArray lo hi none = ((its.drop (HT.sIx its.length 0 lo)).take (HT.sIx its.length its.length hi - HT.sIx its.length 0 lo)).toArray := by
  obtain ⟨h1, h2, h3⟩ := slice_bounds lo hi its.toArray.size
  unfold slicePick
  rw [h1, h2, h3]
  simp only [sliceRange_one, pick_run, List.size_toArray] <;> rfl
def rSlL (K : PySem.W.Frag) : V → Option Int → Option Int → Hp → VK → Prop := fun x lo hi H Q => ∃ a xs, x = .ref a ∧ SqL K H a xs ∧ ∀ p, H p = none → Q (.ref p) (upd H p (.lst (cutV xs lo hi)))
theorem sl_list : SlR X (rSlL X.K) := by
  intro pins s σ H x v vl vu lo hi sl Q I rx hs pl pu h
  obtain ⟨a, xs, rfl, hx, q⟩ := h
  cases rx
  obtain ⟨its, r, ht, hz⟩ := I.list hx
  have hlen := r.length
  refine ⟨"list", _, slot_list_getitem.lookup, ht.isList.typeIs, ?_⟩
  refine wpAny_getItem_list_slice ht.isList hs pl pu .none (by simp) ?_ (by rw [List.size_toArray] <;> omega)
  rw [slicePick_cut, ← hlen]
  refine ⟨.ref s.heap.objs.size, _, I.laid (t' := s.toks) (o := .lst (cutV xs lo hi)) (fun b ob q => Heap.get?_push_of_some _ q) (Nat.le_refl _) ?_, rfl, q _ (I.hok.fresh (Nat.le_refl _))⟩
  exact ⟨Nat.le_trans (cutV_length xs lo hi) hz, _, 0, (r.drop (HT.sIx xs.length 0 lo)).take (HT.sIx xs.length xs.length hi - HT.sIx xs.length 0 lo), Heap.get?_push_size _ rfl⟩
def flatV : V → Bool
  | .non => true
  | .bl _ => true
  | .int _ => true
  | .str _ => true
  | _ => false
def eqV : V → V → Bool
  | .non, .non => true
  | .bl a, .bl b => a == b
  | .bl a, .int b => (if a then 1 else 0) == b
  | .int a, .bl b => a == (if b then 1 else 0)
  | .int a, .int b => a == b
  | .str a, .str b => a == b
  | _, _ => false
theorem eqAt_V {A : Around} {s : Shared} {y x : V} {u v : Value} (ry : RelV y u) (rx : RelV x v) (fy : flatV y = true) (fx : flatV x = true) : SeqAt.EqAt A s u v (eqV y x) := by
  cases y with
  | non =>
    cases ry
    cases x with
    | non => cases rx; exact SeqAt.EqAt.same _
    | bl b => cases rx; exact SeqAt.EqAt.none_bool b
    | int b => obtain ⟨t, rfl⟩ := rx; exact SeqAt.EqAt.none_int b t
    | str b => obtain ⟨t, rfl⟩ := rx; exact SeqAt.EqAt.none_str b t
    | _ => exact absurd (show false = true from fx) Bool.false_ne_true
  | bl a =>
    cases ry
    cases x with
    | non => cases rx; exact SeqAt.EqAt.bool_none a
    | bl b => cases rx; exact SeqAt.EqAt.bool_bool a b
    | int b => obtain ⟨t, rfl⟩ := rx; exact SeqAt.EqAt.bool_int a b t
    | str b => obtain ⟨t, rfl⟩ := rx; exact SeqAt.EqAt.bool_str a b t
    | _ => exact absurd (show false = true from fx) Bool.false_ne_true
  | int a =>
    obtain ⟨t', rfl⟩ := ry
    cases x with
    | non => cases rx; exact SeqAt.EqAt.int_none a t'
    | bl b => cases rx; exact SeqAt.EqAt.int_bool a t' b
    | int b => obtain ⟨t, rfl⟩ := rx; exact SeqAt.EqAt.int_int a t' b t
    | str b => obtain ⟨t, rfl⟩ := rx; exact SeqAt.EqAt.int_str a t' b t
    | _ => exact absurd (show false = true from fx) Bool.false_ne_true
  | str a =>
    obtain ⟨t', rfl⟩ := ry
    cases x with
    | non => cases rx; exact SeqAt.EqAt.str_none a t'
    | bl b => cases rx; exact SeqAt.EqAt.str_bool a t' b
    | int b => obtain ⟨t, rfl⟩ := rx; exact SeqAt.EqAt.str_int a t' b t
    | str b => obtain ⟨t, rfl⟩ := rx; exact SeqAt.EqAt.str_str a t' b t
    | _ => exact absurd (show false = true from fx) Bool.false_ne_true
  | _ => exact absurd (show false = true from fy) Bool.false_ne_true
def eqU (x : V) (u : Value) : Bool := match u with
  | .none => eqV .non x
  | .bool b => eqV (.bl b) x
  | .int i _ => eqV (.int i) x
  | .str z _ => eqV (.str z) x
  | _ => false
theorem eqU_of {x y : V} {u : Value} (r : RelV y u) (f : flatV y = true) : eqU x u = eqV y x := by
  cases y with
  | non => cases r; rfl
  | bl b => cases r; rfl
  | int i => obtain ⟨t, rfl⟩ := r; rfl
  | str z => obtain ⟨t, rfl⟩ := r; rfl
  | _ => exact absurd (show false = true from f) Bool.false_ne_true
theorem any_eqU {x : V} : ∀ {xs : List V} {us : List Value}, Vals xs us → xs.all flatV = true → us.any (eqU x) = xs.any fun y => eqV y x
  | _, _, .nil, _ => rfl
  | y :: xs, u :: us, .cons r t, f => by
    rw [List.all_cons, Bool.and_eq_true] at f
    rw [List.any_cons, List.any_cons, eqU_of r f.1, any_eqU t f.2]
theorem mem_eqAt {A : Around} {s : Shared} {x : V} {v : Value} (rx : RelV x v) (fx : flatV x = true) : ∀ {xs : List V} {us : List Value}, Vals xs us → xs.all flatV = true → ∀ u ∈ us, SeqAt.EqAt A s u v (eqU x u)
  | _, _, .nil, _ => fun u hu => by cases hu
  | y :: xs, u :: us, .cons r t, f => fun u' hu => by
    rw [List.all_cons, Bool.and_eq_true] at f
    rcases List.mem_cons.mp hu with rfl | hu
    · rw [eqU_of r f.1]; exact eqAt_V r rx f.1 fx
    · exact mem_eqAt rx fx t f.2 u' hu
def inV (x : V) (xs : List V) : Bool := xs.any fun y => eqV y x
def rIn (K : PySem.W.Frag) (neg : Bool) : R2 := fun x y H Q => ∃ p xs, y = .ref p ∧ (SqL K H p xs ∨ SqT K H p xs) ∧ flatV x = true ∧ xs.all flatV = true ∧ Q (.bl (if neg then !inV x xs else inV x xs)) H
theorem op_in_seq : OpR X (compareOp .In) (rIn X.K false) := by
  intro pins s σ H x y v u Q I rx ry h
  obtain ⟨p, xs, rfl, hq, fx, fs, q⟩ := h
  cases ry
  rcases hq with hq | hq
  · obtain ⟨its, r, pl, hz⟩ := I.list hq
    refine SeqAt.in_listAt (eqU x) pl.isList (fun w hw => mem_eqAt rx fx r fs w (by simpa using hw)) ⟨.bl _, H, I, rfl, ?_⟩
    rw [show its.toArray.any (eqU x) = its.any (eqU x) by simp, any_eqU r fs]
    exact q
  · obtain ⟨its, r, pl, hz⟩ := I.tuple hq
    refine SeqAt.in_tupleAt (eqU x) pl (fun w hw => mem_eqAt rx fx r fs w (by simpa using hw)) ⟨.bl _, H, I, rfl, ?_⟩
    rw [show its.toArray.any (eqU x) = its.any (eqU x) by simp, any_eqU r fs]
    exact q
theorem op_notIn_seq : OpR X (compareOp .NotIn) (rIn X.K true) := by
  intro pins s σ H x y v u Q I rx ry h
  obtain ⟨p, xs, rfl, hq, fx, fs, q⟩ := h
  cases ry
  rcases hq with hq | hq
  · obtain ⟨its, r, pl, hz⟩ := I.list hq
    refine SeqAt.notIn_listAt (eqU x) pl.isList (fun w hw => mem_eqAt rx fx r fs w (by simpa using hw)) ⟨.bl _, H, I, rfl, ?_⟩
    rw [show its.toArray.any (eqU x) = its.any (eqU x) by simp, any_eqU r fs]
    exact q
  · obtain ⟨its, r, pl, hz⟩ := I.tuple hq
    refine SeqAt.notIn_tupleAt (eqU x) pl (fun w hw => mem_eqAt rx fx r fs w (by simpa using hw)) ⟨.bl _, H, I, rfl, ?_⟩
    rw [show its.toArray.any (eqU x) = its.any (eqU x) by simp, any_eqU r fs]
    exact q
theorem call_len_seq : CallR X (.builtin "len") (fun xs H Q => ∃ p ys, xs = [.ref p] ∧ (SqL X.K H p ys ∨ SqT X.K H p ys) ∧ Q (.int ys.length) H) := by
  intro pins s σ H xs us Q I r h
  obtain ⟨p, ys, rfl, hq, q⟩ := h
  obtain ⟨u, rfl, rx⟩ := vals1 r
  cases rx
  have hn := line63
  rcases hq with hq | hq
  · obtain ⟨its, r', pl, hz⟩ := I.list hq
    have hlen := r'.length
    exact Calls.call_len_list pl.isList (by simp only [List.size_toArray] <;> omega) ⟨.int ys.length, H, I.tok _, ⟨s.toks + 1, by rw [List.size_toArray, hlen]⟩, q⟩
  · obtain ⟨its, r', pl, hz⟩ := I.tuple hq
    have hlen := r'.length
    exact len_tuple pl (by simp only [List.size_toArray] <;> omega) ⟨.int ys.length, H, I.tok _, ⟨s.toks + 1, by rw [List.size_toArray, hlen]⟩, q⟩
theorem call_len_str : CallR X (.builtin "len") (fun xs H Q => ∃ z, xs = [.str z] ∧ z.length ≤ sizeLine ∧ Q (.int z.length) H) := by
  intro pins s σ H xs us Q I r h
  obtain ⟨z, rfl, hz, q⟩ := h
  obtain ⟨u, rfl, t, rfl⟩ := vals1 r
  have hn := line63
  exact len_str (by omega) ⟨.int z.length, H, I.tok _, ⟨_, rfl⟩, q⟩
theorem call_list_of : CallR X (.type "list") (fun xs H Q => ∃ p ys, xs = [.ref p] ∧ (SqL X.K H p ys ∨ SqT X.K H p ys) ∧ ∀ l, H l = none → Q (.ref l) (upd H l (.lst ys))) := by
  intro pins s σ H xs us Q I r h
  obtain ⟨p, ys, rfl, hq, q⟩ := h
  obtain ⟨u, rfl, rx⟩ := vals1 r
  cases rx
  have fin : ∀ (its : List Value), Vals ys its → ys.length ≤ sizeLine → ∀ (h' : Heap) (c' : Nat), (∀ b o', s.heap.get? b = some o' → h'.get? b = some o') →
      h'.get? s.heap.objs.size = some { cls := .type "list", dict := none, data := .seq its.toArray c', slots := #[] } → EP X pins σ Q (.ref s.heap.objs.size) { s with heap := h' } := fun its r' hz h' c' kp e =>
    ⟨.ref s.heap.objs.size, _, I.laid (t' := s.toks) kp (Nat.le_refl _) (show ObjOk X.prog X.w _ h' _ (.lst ys) from ⟨hz, its, c', r', e⟩), rfl, q _ (I.hok.fresh (Nat.le_refl _))⟩
  rcases hq with hq | hq
  · obtain ⟨its, r', pl, hz⟩ := I.list hq
    have hlen := r'.length
    obtain ⟨o, ho, hc, n, hd⟩ := pl.isList
    exact call_list_seq p (.inl rfl) ho hc hd (fun h' c' kp e => fin its r' hz h' c' kp e) (by simp only [List.size_toArray] <;> omega)
  · obtain ⟨its, r', pl, hz⟩ := I.tuple hq
    have hlen := r'.length
    obtain ⟨o, ho, hc, n, hd⟩ := pl
    exact call_list_seq p (.inr rfl) ho hc hd (fun h' c' kp e => fin its r' hz h' c' kp e) (by simp only [List.size_toArray] <;> omega)
theorem call_tuple_of : CallR X (.type "tuple") (fun xs H Q => ∃ p ys, xs = [.ref p] ∧ ((SqL X.K H p ys ∧ ∀ l, H l = none → Q (.ref l) (upd H l (.tup ys))) ∨ (SqT X.K H p ys ∧ Q (.ref p) H))) := by
  intro pins s σ H xs us Q I r h
  obtain ⟨p, ys, rfl, h⟩ := h
  obtain ⟨u, rfl, rx⟩ := vals1 r
  cases rx
  rcases h with ⟨hq, q⟩ | ⟨hq, q⟩
  · obtain ⟨its, r', pl, hz⟩ := I.list hq
    have hlen := r'.length
    refine call_tuple_list pl.isList (fun h' kp => ?_) (by simp only [List.size_toArray] <;> omega)
    have I1 : Inv X pins σ H { s with heap := h' } := I.kept (t' := s.toks) kp
    have I2 : Inv X pins σ (upd H h'.objs.size (.tup ys)) { s with heap := h'.push { cls := .type "tuple", data := .seq its.toArray } } :=
      I1.laid (t' := s.toks) (fun b o e => Heap.get?_push_of_some _ e) (Nat.le_refl _) (show ObjOk X.prog X.w _ _ _ (.tup ys) from ⟨hz, its, r', TupN.new _ _⟩)
    exact ⟨.ref h'.objs.size, _, I2, rfl, q _ (I1.hok.fresh (Nat.le_refl _))⟩
  · obtain ⟨its, r', pl, hz⟩ := I.tuple hq
    exact call_tuple_same pl ⟨.ref p, H, I, rfl, q⟩
def tyV (K : PySem.W.Frag) (T : String) (x : V) (H : Hp) : Prop := match x with
  | .str _ => T = "str"
  | .int _ => T = "int"
  | .ref p => (T = "list" ∧ ∃ xs, SqL K H p xs) ∨ (T = "tuple" ∧ ∃ o, K.lookup p = some o ∧ o.cls = .type "tuple" ∧ o.dict = none) ∨
      (T = "dict" ∧ ((∃ kvs, H p = some (.dK kvs)) ∨ ∃ kvs, H p = some (.dT kvs))) ∨ (T = "set" ∧ ∃ S n, H p = some (.set S n)) ∨ (T = "tuple" ∧ ∃ xs, Rd H p (.tup xs))
  | _ => False
theorem tyV_is {pins : List (Addr × Obj)} {σ : St} {H : Hp} {s : Shared} {T : String} {x : V} {v : Value} (I : Inv X pins σ H s) (r : RelV x v) (ty : tyV X.K T x H) :
    s.TypeIs v T ∧ ∀ a, v = .ref a → ∃ ob, s.heap.get? a = some ob ∧ ob.dict = none := by
  cases x with
  | str z =>
    obtain ⟨t, rfl⟩ := r
    cases (show T = "str" from ty)
    exact ⟨typeIs_str s z t, fun _ e => nomatch e⟩
  | int i =>
    obtain ⟨t, rfl⟩ := r
    cases (show T = "int" from ty)
    exact ⟨typeIs_int s i t, fun _ e => nomatch e⟩
  | ref p =>
    cases r
    rcases ty with ⟨rfl, xs, hq⟩ | ⟨rfl, o, hk, hc, hd⟩ | ⟨rfl, hk⟩ | ⟨rfl, S, n, hk⟩ | ⟨rfl, xs, hq⟩
    · obtain ⟨its, _, pl, _⟩ := I.list hq
      refine ⟨pl.isList.typeIs, fun a e => ?_⟩
      cases e
      obtain ⟨o, n, e, c, hd, _⟩ := pl
      exact ⟨o, e, hd⟩
    · refine ⟨⟨o, I.kIn p o hk, hc⟩, fun a e => ?_⟩
      cases e
      exact ⟨o, I.kIn _ o hk, hd⟩
    · have z : ∃ o, s.heap.get? p = some o ∧ o.ExactDict := by
        rcases hk with ⟨kvs, hk⟩ | ⟨kvs, hk⟩
        · obtain ⟨_, _, _, _, o, _, _, e, ex, _⟩ := I.hok p _ hk
          exact ⟨o, e, ex⟩
        · obtain ⟨_, _, _, _, o, _, _, e, ex, _⟩ := I.hok p _ hk
          exact ⟨o, e, ex⟩
      obtain ⟨o, e, ex⟩ := z
      refine ⟨⟨o, e, ex.1⟩, fun a e2 => ?_⟩
      cases e2
      exact ⟨o, e, ex.2.1⟩
    · obtain ⟨o, _, _, _, e, ex, _⟩ := I.hok p _ hk
      refine ⟨⟨o, e, ex.1⟩, fun a e2 => ?_⟩
      cases e2
      exact ⟨o, e, ex.2.1⟩
    · obtain ⟨_, _, _, o, e, c, _, _, hd⟩ := hq.ok I.hok
      refine ⟨⟨o, e, c⟩, fun a e2 => ?_⟩
      cases e2
      exact ⟨o, e, hd⟩
  | _ => exact False.elim ty
def tBM (K : PySem.W.Frag) (T : String) (r : V → List V → Hp → VK → Prop) (to : TE) (t : TA) : TE := fun σ H Q => to σ H fun x H1 => tyV K T x H1 ∧ t σ H1 fun xs H2 => r x xs H2 Q
variable {o e : Expr} {es : List Expr} {to : TE} {t : TA} {name : Str} {apos cpos : Pos} {T id : String} {r : V → List V → Hp → VK → Prop}
theorem pe_bm (pa : PlainAttrs T) (slot : Slot T name id) (hty : typeOf (.builtin id) = pure (.type "method_descriptor")) (hm : MtR X id r) (ho : PE X o to) (ha : PA X (e :: es) t)
    (hbase : attributeBase o name X.env (eval o X.env) = eval o X.env := by rfl)
    (hfew : ((backTo cpos (starEach (e :: es) X.env)).all (fun x => !x.1) && (backToKw cpos (keywordEach [] X.env)).all (fun x => x.1.isSome)
      && decide ((e :: es).length + ([] : List Keyword).length + (if ([] : List Keyword).isEmpty then 0 else 1) < 30)) = true := by rfl)
    (hline : (apos.endLine == cpos.line) = true := by rfl) (hs : starEach (e :: es) X.env = (false, eval e X.env) :: starEach es X.env := by rfl) (hplain : (backTo cpos (starEach es X.env)).any (·.1) = false := by rfl) :
    PE X (.Call (.Attribute o name apos) (e :: es) [] cpos) (tBM X.K T r to t) := by
  intro pins s σ H Q I h
  refine wpAny_Call_method_late hbase hfew hline rfl (thn (ho pins s σ H _ I h) fun v s1 ⟨x, H1, I1, r1, ty, q1⟩ => ?_)
  obtain ⟨h1, h2⟩ := tyV_is I1 r1 ty
  refine ⟨T, id, pa, slot, hty, h1, h2, ?_⟩
  have hA := ha cpos pins s1 σ H1 _ I1 q1
  rw [hs] at hA ⊢
  refine Calls.callWith_builtin (by show (false || (backTo cpos (starEach es X.env)).any (·.1)) = false; rw [hplain] <;> rfl) (Calls.evalArgs_plain ?_)
  exact thn hA fun us s2 ⟨vs, H2, I2, r2, q2⟩ => hm pins s2 σ H2 x vs v us Q I2 r1 r2 q2
end
end L2
namespace L2
open PySem PySem.Spec PyProof.Rows
def MtM (X : Cx) (id : String) (r : V → List V → Hp → VK → Prop) : Prop :=
  ∀ (pins : List (Addr × Obj)) (s : Shared) (σ : St) (H : Hp) (x : V) (xs : List V) (v : Value) (us : List Value) (Q : VK), Inv X pins σ H s → RelV x v → Vals xs us → r x xs H Q →
    wpAny (model X.prog X.w) X.A (call (.builtin id) (v :: us)) (EP X pins σ Q) X.xe s
theorem Vals.one : ∀ {x : V} {us : List Value}, Vals [x] us → ∃ u, us = [u] ∧ RelV x u
  | _, _, .cons r .nil => ⟨_, rfl, r⟩
theorem Vals.two : ∀ {x y : V} {us : List Value}, Vals [x, y] us → ∃ u v, us = [u, v] ∧ RelV x u ∧ RelV y v
  | _, _, _, .cons r (.cons q .nil) => ⟨_, _, rfl, r, q⟩
theorem Vals.eraseIdx : ∀ {xs : List V} {us : List Value} (i : Nat), Vals xs us → Vals (xs.eraseIdx i) (us.eraseIdx i)
  | _, _, _, .nil => .nil
  | _, _, 0, .cons _ t => t
  | _, _, i + 1, .cons r t => .cons r (Vals.eraseIdx i t)
theorem len_erase {α : Type} : ∀ (l : List α) (i : Nat), (l.eraseIdx i).length ≤ l.length
  | [], _ => Nat.le_refl _
  | _ :: _, 0 => Nat.le_succ _
  | _ :: r, i + 1 => Nat.succ_le_succ (len_erase r i)
section
variable {X : Cx} {pins : List (Addr × Obj)} {σ : St} {H : Hp} {s : Shared} {l b : Addr} {xs ys zs : List V}
theorem Inv.lset {its its' : List Value} {n : Nat} {f : Array Value → Array Value} {t' : Nat} (I : Inv X pins σ H s) (hH : H l = some (.lst xs))
    (e : s.heap.get? l = some { cls := .type "list", data := .seq its.toArray n }) (hf : f its.toArray = its'.toArray) (hv : Vals ys its') (hz : ys.length ≤ sizeLine) :
    Inv X pins σ (upd H l (.lst ys)) { s with heap := s.heap.update l (Obj.mapSeq f), toks := t' } := by
  have q := PySem.IsL.update e f
  rw [hf] at q
  refine I.write (x := l) (e := l) (by rw [hH]; exact trivial) (.inl rfl) (fun b' u hb hu => (Heap.get?_update_other s.heap (Obj.mapSeq f) (Ne.symm hb)).trans hu) ⟨_, q⟩ ?_
  exact ⟨hz, its', _, hv, q⟩
theorem Inv.lnew {its : List Value} {t' : Nat} (I : Inv X pins σ H s) (hv : Vals ys its) (hz : ys.length ≤ sizeLine) :
    Inv X pins σ (upd H s.heap.objs.size (.lst ys)) { s with heap := s.heap.push { cls := .type "list", data := .seq its.toArray }, toks := t' } :=
  I.laid (fun _ _ q => Heap.get?_push_of_some _ q) (Nat.le_refl _) ⟨hz, its, 0, hv, Heap.get?_push_size _ rfl⟩
theorem Inv.fresh (I : Inv X pins σ H s) : H s.heap.objs.size = none := I.hok.fresh (Nat.le_refl _)
theorem Inv.lstM (I : Inv X pins σ H s) (hH : H l = some (.lst xs)) : xs.length ≤ sizeLine ∧ ∃ (its : List Value) (n : Nat), Vals xs its ∧ xs.length = its.length ∧ s.heap.get? l = some { cls := .type "list", data := .seq its.toArray n } := by
  obtain ⟨z, its, n, r, e⟩ := I.hok l _ hH
  exact ⟨z, its, n, r, r.length, e⟩
end
section
variable {X : Cx}
def rAppend : V → List V → Hp → VK → Prop := fun x vs H Q => ∃ l xs y, x = .ref l ∧ vs = [y] ∧ H l = some (.lst xs) ∧ xs.length < sizeLine ∧ Q .non (upd H l (.lst (xs ++ [y])))
theorem mt_append : MtM X "list.append" rAppend := by
  intro pins s σ H x vs v us Q I rx rv h
  obtain ⟨l, xs, y, rfl, rfl, hH, hz, q⟩ := h
  cases rx
  obtain ⟨u, rfl, ru⟩ := rv.one
  obtain ⟨z, its, n, r, hl, e⟩ := I.lstM hH
  refine call_meets F.slot_list_append ⟨_, e, rfl⟩ F.entry_list_append (F.args_list_append_2 _ _) (PySem.list_append l its.toArray n u (by rw [List.size_toArray]; omega)) ⟨e, ?_⟩
  refine ⟨.non, _, I.lset (its' := its ++ [u]) hH e (by simp) (r.append (.cons ru .nil)) ?_, rfl, q⟩
  rw [List.length_append, List.length_singleton]
  omega
def rPopAt : V → List V → Hp → VK → Prop := fun x vs H Q => ∃ l xs i k y, x = .ref l ∧ vs = [.int i] ∧ H l = some (.lst xs) ∧ -(2 ^ 63) ≤ i ∧ i < 2 ^ 63 ∧ seqIndex? i xs.length = some k ∧ xs[k]? = some y ∧ Q y (upd H l (.lst (xs.eraseIdx k)))
theorem mt_popAt : MtM X "list.pop" rPopAt := by
  intro pins s σ H x vs v us Q I rx rv h
  obtain ⟨l, xs, i, k, y, rfl, rfl, hH, h1, h2, hk, hy, q⟩ := h
  cases rx
  obtain ⟨u, rfl, ru⟩ := rv.one
  obtain ⟨t, rfl⟩ := ru
  obtain ⟨z, its, n, r, hl, e⟩ := I.lstM hH
  obtain ⟨w, hw, rw'⟩ := r.get hy
  refine call_meets F.slot_list_pop ⟨_, e, rfl⟩ F.entry_list_pop (F.args_list_pop_2 _ _)
    (MeetsSeq.list_pop_at l its.toArray n i t k w (fitsIndex_both h1 h2) (by rw [List.size_toArray, ← hl]; exact hk) (by rw [← Array.getElem?_toList]; exact hw) (by rw [List.size_toArray]; omega)) ⟨e, ?_⟩
  refine ⟨y, _, I.lset (its' := its.eraseIdx k) hH e ?_ (r.eraseIdx k) ?_, rw', q⟩
  · show its.toArray.eraseIdxIfInBounds k = (its.eraseIdx k).toArray
    rw [List.eraseIdxIfInBounds_toArray]
  · have := len_erase xs k
    omega
def rCat : R2 := fun x y H Q => ∃ l b xs zs, x = .ref l ∧ y = .ref b ∧ H l = some (.lst xs) ∧ H b = some (.lst zs) ∧ xs.length + zs.length ≤ sizeLine ∧ ∀ p, H p = none → Q (.ref p) (upd H p (.lst (xs ++ zs)))
theorem op_cat : OpR X (binaryOp .Add) rCat := by
  intro pins s σ H x y v u Q I rx ry h
  obtain ⟨l, b, xs, zs, rfl, rfl, hH, hB, hz, q⟩ := h
  cases rx
  cases ry
  obtain ⟨z, its, n, r, hl, e⟩ := I.lstM hH
  obtain ⟨z2, its2, n2, r2, hl2, e2⟩ := I.lstM hB
  refine PySem.P.add_list e e2 ?_ (by rw [List.size_toArray, List.size_toArray]; omega)
  have ea : its.toArray ++ its2.toArray = (its ++ its2).toArray := by simp
  rw [ea]
  exact ⟨.ref _, _, I.lnew (t' := s.toks) (r.append r2) (by rw [List.length_append]; omega), rfl, q _ I.fresh⟩
end
section
variable {prog : Program} {w : World} {A : Around} {E : Value → Shared → Prop} {s : Shared}
set_option maxRecDepth 100000 in
end
end L2
namespace Att
open PySem PySem.W PySem.Calls PyProof.Rows
theorem ints_of_wellAll {P : Params} {h : Heap} : ∀ (ns : List Int) (vs : List Value), WellAll P h vs (ns.map WData.int) → IntsAre vs ns := by
  intro ns
  induction ns with
  | nil =>
    intro vs w
    rw [List.map_nil] at w
    cases w
    exact .nil
  | cons n ns ih =>
    intro vs w
    rw [List.map_cons] at w
    cases w with
    | cons a b =>
      cases a
      exact .cons _ _ (ih _ b)
theorem script_of {l : OpenLaw} {n : Nat} (hn : l.most = some n) {P : Params} {h : Heap} {args : List WData} {vals : List Value}
    (hpre : l.row.toRowW.claim.pre args = true) (hwl : WellAll P h vals args) :
    ∃ a vs ns, vals = [Value.ref a] ∧ args = [WData.list (ns.map WData.int)] ∧ h.get? a = some { cls := .type "list", data := .seq vs.toArray } ∧ IntsAre vs ns ∧ ns.length ≤ n := by
  have hsh : WShape.hasAll [] args [.list .int] = true := (pre_splitW hpre).1
  have hc : l.pre.holds [] { args := args } = true := (pre_splitW hpre).2
  obtain ⟨d, r, rfl, h1, h2⟩ := hasAllW_cons hsh
  obtain rfl := hasAllW_nil h2
  obtain ⟨xs, rfl, h3⟩ := hasW_list h1
  obtain ⟨ns, rfl⟩ := items_int h3
  have hlen : ns.length ≤ n := by
    unfold OpenLaw.pre at hc
    have h4 : (WTm.not (.lt (.lit (.int (n : Int))) (.len (.arg 0)))).holds [] { args := [.list (ns.map .int)] } = true := by
      have h4 := (holds_andW hc).1
      rw [hn] at h4
      exact h4
    have h5 := condW_of h4 (w_not (w_lt w_lit (w_len_list (w_arg rfl))))
    rw [List.length_map] at h5
    refine Nat.le_of_not_lt fun q => ?_
    have q' : (n : Int) < ((ns.length : Nat) : Int) := by omega
    first
      | (rw [decide_eq_true q'] at h5; exact absurd h5 (by decide))
      | (simp at h5; omega)
  cases hwl with
  | cons w1 w2 =>
    cases w2
    cases w1 with
    | list ho hall => exact ⟨_, _, ns, rfl, rfl, ho, ints_of_wellAll ns _ hall, hlen⟩
theorem post_true (l : OpenLaw) (args : List WData) : l.row.toRowW.claim.post args (.bool true) args = true :=
  postW_of (r := l.row.toRowW) (X := (true == true))
    (show WShape.has [] (.bool true) .bool = true by first | rfl | decide | simp [WShape.has, WShape.arms, WShape.armsAll])
    (show (WTm.eq .res (.lit (.bool true))).value [] { args := args, res := some (.bool true), after := args } = some (.bool (true == true)) from w_eq_bool (w_res rfl) w_lit) rfl
theorem attach_call {l : OpenLaw} {n : Nat} {q : Program} {loose : List Str} {XP : (Str → Option Value) → Heap → Prop} {YP : World → Heap → Prop} {d : DefRec}
    (hn : l.most = some n) (hdf : d.params.defaults = [])
    (call : ∀ (w : World) (s₀ s₁ : Shared) (mg mb : Str → Option Value) (fa : Addr) (o : Obj) (pm cd doc : Value) (a : Addr) (vs : List Value) (ns : List Int),
      Ground q loose [] XP w s₀ mg mb s₁.heap → YP w s₁.heap →
      s₁.heap.get? fa = some o → o.data = .func (docDef d.name d.params d.body d.scope pm cd doc) → s₁.heap.CodeRec cd d.name → mg d.name = some (.ref fa) →
      s₁.heap.get? a = some { cls := .type "list", data := .seq vs.toArray } → IntsAre vs ns → ns.length ≤ n → s₁.gens = #[] →
      codeAny (model l.prog w) callerA (.call (.ref fa) ⟨[.ref a], []⟩) (fun r s' => r = .ok (.ret (.bool true)) ∧ OldK s₁.heap s'.heap ∧ s'.os = s₁.os ∧ AllBare s'.gens) s₁) :
    WalkO q loose XP YP l.row.toRowW d [] (fun f vs => PySem.call f vs) := by
  intro w s₀ s₁ mg mb G Y fa o pm cd doc dV kV ho hd hcd hD hmg hg args vals as hpre hlay hrd hwl hlo
  obtain rfl : dV = .none := Dflts.none hD hdf
  obtain rfl : kV = .none := Dflts.noKw hD
  obtain ⟨a, vs, ns, rfl, rfl, hobj, hints, hlen⟩ := script_of hn hpre hwl
  refine enter_call (codeAny_mono (call w s₀ s₁ mg mb fa o pm cd doc a vs ns G Y ho (fd_plain hd) hcd hmg hobj hints hlen hg) fun r s' hq => ?_)
  obtain ⟨rfl, h2, h3, h4⟩ := hq
  exact ⟨.inl ⟨.bool true, .bool true, [], rfl, fun _ => rfl, .bool true, post_true l _, fun _ => ⟨List.Pairwise.nil, fun _ hm => (nomatch hm)⟩⟩, h2, h3, h4⟩
end Att
namespace L2
open PySem PySem.Spec PyProof.Rows
theorem vals_ints : ∀ {vs : List Value} {ns : List Int}, IntsAre vs ns → Vals (ns.map V.int) vs
  | _, _, .nil => .nil
  | _, _, .cons n t h => .cons ⟨t, rfl⟩ (vals_ints h)
def Only (H : Hp) : Prop := ∀ b, H b = none ∨ ∃ o xs, H b = some (.frz o (.lst xs))
theorem law_call {P : Program} {w : World} {K : PySem.W.Frag} {mg mb : Str → Option Value} {CX : CXT} {k : Nat} {fa a : Addr} {fd : FuncData} {x : Str} {sp : Sp} {s₁ : Shared} {vs : List Value} {ns : List Int}
    (KX : K.In s₁.heap) (hns : s₁.heap.Ns mainGlobals mg) (hb : s₁.heap.Ns builtinsNs mb) (hbb : ∀ x : Str, x ≠ "__name__" → mb x = bootBuiltins x) (hlim : s₁.heap.NoLimit) (hg : s₁.gens = #[])
    (ha : s₁.heap.get? a = some { cls := .type "list", data := .seq vs.toArray }) (hi : IntsAre vs ns) (hl : ns.length ≤ sizeLine) (hr : Room k callerA)
    (F : ∀ base : Heap, K.In base → base.Ns mainGlobals mg → FnOk P w K mg base CX k fa fd [x] sp) (hbind : ∀ (s : Shared) (u : Value), BindsTo s fd ⟨[u], []⟩ [(x, u)])
    (hsp : ∀ H : Hp, Only H → SqL K H a (ns.map V.int) → sp [.ref a] H (fun v _ => v = .bl true) fun _ _ _ => False)
    (hCX : ∀ H e s', CX [] H s₁ (fun _ _ _ => False) e s' → False) :
    codeAny (model P w) callerA (.call (.ref fa) ⟨[.ref a], []⟩) (fun r s' => r = .ok (.ret (.bool true)) ∧ OldK s₁.heap s'.heap ∧ s'.os = s₁.os ∧ AllBare s'.gens) s₁ := by
  have rv := vals_ints hi
  have lenV := hi.length
  have core : ∀ H : Hp, Only H → SqL K H a (ns.map V.int) → HOk P w H s₁.heap → (∀ b, H b ≠ none → b = a) → (H a ≠ none → K.lookup a = none) →
      codeAny (model P w) callerA (.call (.ref fa) ⟨[.ref a], []⟩) (fun r s' => r = .ok (.ret (.bool true)) ∧ OldK s₁.heap s'.heap ∧ s'.os = s₁.os ∧ AllBare s'.gens) s₁ := by
    intro H hO hS hok hA hK
    have base_of : ∀ {b : Addr} {o : Obj}, s₁.heap.get? b = some o → H b = none → (hidT s₁.heap H).get? b = some o := fun e n => hidT_get e n
    have noA : ∀ {b : Addr} {o : Obj} {es : Array DictEntry} {ep : Nat}, s₁.heap.get? b = some o → o.data = .dict es ep → H b = none := fun {b o es ep} e d => by
      cases q : H b with
      | none => rfl
      | some u =>
        have e' : b = a := hA b (by rw [q]; simp)
        subst e'
        rw [ha] at e; cases e
        have d' : Data.seq vs.toArray _ = Data.dict es ep := d
        cases d'
    have nsK : ∀ {b : Addr} {m : Str → Option Value}, s₁.heap.Ns b m → (hidT s₁.heap H).Ns b m := fun {b m} ⟨o, es, ep, e, d, r⟩ => ⟨o, es, ep, base_of e (noA e d), d, r⟩
    have hKb : K.In (hidT s₁.heap H) := fun b o e => base_of (KX b o e) (by
      cases q : H b with
      | none => rfl
      | some u =>
        have e' : b = a := hA b (by rw [q]; simp)
        subst e'
        rw [hK (by rw [q]; simp)] at e; cases e)
    have hM : Mod K mg (hidT s₁.heap H) := ⟨hKb, nsK hns, ⟨mb, nsK hb, hbb⟩, let ⟨mc, h1, h2⟩ := hlim; ⟨mc, nsK h1, h2⟩⟩
    have e0 : Env0 P w K mg (hidT s₁.heap H) callerA [] s₁ H := ⟨rfl, hM, fun b o e => of_hidT e, Nat.le_of_eq (hidT_size _ _), trivial, fun b hb => absurd (show b ∈ ([] : List Addr) from hb) (by simp), hok, .of_eq hg⟩
    refine codeAny_mono ((F _ hKb (nsK hns)).run callerA [] s₁ H ⟨[.ref a], []⟩ [.ref a] [.ref a] _ _ hr e0 (hbind s₁ (.ref a)) (.cons rfl .nil) (hsp H hO hS)) fun r s' h => ?_
    cases r with
    | error e => exact (hCX H e s' h).elim
    | ok fl =>
      cases fl with
      | next => exact False.elim h
      | brk => exact False.elim h
      | cont => exact False.elim h
      | ret u =>
        obtain ⟨v, H', os, bare, un, hok', r', q⟩ := h
        have q' : v = .bl true := q
        subst q'
        obtain rfl : u = Value.bool true := r'
        refine ⟨rfl, OldK.of_keep fun b o e => ?_, os, bare⟩
        cases q : H b with
        | none => exact un.keep b o e q (by intro z; exact absurd (show b ∈ ([] : List Addr) from z) (by simp)) (by simp)
        | some u =>
          rcases hO b with z | ⟨ob, xs, z⟩
          · rw [q] at z; cases z
          · have z2 := un.frzs b ob _ z
            obtain ⟨e1, _⟩ := hok b _ z
            obtain ⟨e2, _⟩ := hok' b _ z2
            rw [e] at e1; cases e1
            exact e2
  cases hk : K.lookup a with
  | some o =>
    have e := KX a o hk
    rw [ha] at e
    cases e
    refine core (fun _ => none) (fun _ => .inl rfl) (.inr ⟨_, vs.toArray, _, hk, rfl, rfl, rfl, by rw [List.size_toArray, lenV]; exact hl, by simpa using rv⟩) (fun b u z => by have z' : (none : Option HO) = some u := z; cases z') (fun b z => absurd rfl z) fun z => absurd rfl z
  | none =>
    refine core (fun b => if b = a then some (.frz { cls := .type "list", data := .seq vs.toArray } (.lst (ns.map V.int))) else none) (fun b => ?_) (.inl (.inr ⟨{ cls := .type "list", data := .seq vs.toArray }, if_pos rfl⟩)) (fun b u z => ?_) (fun b z => ?_) fun _ => hk
    · by_cases hb : b = a
      · exact .inr ⟨_, _, if_pos hb⟩
      · exact .inl (if_neg hb)
    · by_cases hb : b = a
      · have z' := (if_pos hb).symm.trans z
        cases z'
        subst hb
        exact ⟨ha, by rw [List.length_map]; exact hl, vs, _, rv, ha⟩
      · have z' := (if_neg hb).symm.trans z
        cases z'
    · by_cases hb : b = a
      · exact hb
      · exact absurd (if_neg hb) z
end L2
namespace L2
open PySem PySem.Spec PyProof.Rows
theorem walk_of {l : PySem.W.OpenLaw} {n k : Nat} {q : Program} {loose : List Str} {XP : (Str → Option Value) → Heap → Prop} {YP : World → Heap → Prop} {d : DefRec} {K : Params → PySem.W.Frag} {CX : World → CXT} {sp : World → Sp} {x : Str}
    (hn : l.most = some n) (hn2 : n ≤ sizeLine) (hdf : d.params.defaults = []) (hr : Room k callerA)
    (hY : ∀ (w : World) (h : Heap), YP w h → (K w.params).In h)
    (F : ∀ (w : World) (mg : Str → Option Value) (fa : Addr) (h : Heap), (K w.params).In h → h.Ns mainGlobals mg → mg d.name = some (.ref fa) →
      ∃ fd : FuncData, (∀ (s : Shared) (u : Value), BindsTo s fd ⟨[u], []⟩ [(x, u)]) ∧
        ∀ base : Heap, (K w.params).In base → base.Ns mainGlobals mg → FnOk l.prog w (K w.params) mg base (CX w) k fa fd [x] (sp w))
    (hsp : ∀ (w : World) (H : Hp) (a : Addr) (ns : List Int), ns.length ≤ n → Only H → SqL (K w.params) H a (ns.map V.int) → sp w [.ref a] H (fun v _ => v = .bl true) fun _ _ _ => False)
    (hCX : ∀ (w : World) (H : Hp) (s : Shared) (e : Value) (s' : Shared), CX w [] H s (fun _ _ _ => False) e s' → False) :
    PySem.W.WalkO q loose XP YP l.row.toRowW d [] (fun f vs => PySem.call f vs) := by
  refine Att.attach_call hn hdf fun w s₀ s₁ mg mb fa o pm cd doc a vs ns G Y ho hd hcd hmg hobj hints hlen hg => ?_
  have KX := hY w _ Y
  obtain ⟨fd, hb, hF⟩ := F w mg fa _ KX G.T.g hmg
  exact law_call KX G.T.g G.T.b G.T.builtins G.T.nolimit hg hobj hints (Nat.le_trans hlen hn2) hr hF hb (fun H hO hS => hsp w H a ns hlen hO hS) fun H e s' => hCX w H s₁ e s'
end L2
namespace L2
open PySem PySem.Spec PyProof.Rows
def defArgs (s : Stmt) : Arguments := match s with
  | .FunctionDef _ a _ _ _ _ _ _ _ _ => a
  | _ => { posonlyargs := [], args := [], vararg := none, kwonlyargs := [], kw_defaults := [], kwarg := none, defaults := [] }
def defBody (s : Stmt) : List Stmt := match s with
  | .FunctionDef _ _ b _ _ _ _ _ _ _ => b
  | _ => []
def defScope (s : Stmt) : Scope := match s with
  | .FunctionDef _ _ _ _ _ _ sc _ _ _ => sc
  | _ => { kind := .function, names := [], isGenerator := false, isCoroutine := false }
abbrev CX0 : CXT := fun _ _ _ _ _ _ => False
abbrev E0 : XK := fun _ _ _ => False
theorem pass0 {X : Cx} : Passes CX0 X E0 := fun _ _ _ _ _ _ _ h => h.elim
structure Fun (K : PySem.W.Frag) (x qual : Str) (st : Stmt) (f : Addr) (fd : FuncData) : Prop where
  ex : ∃ (oc : Value) (od : Option Addr) (kV doc pm : Value) (an : Option Addr) (cdv ct : Value) (osl : Array (Option Value)),
    fd = PySem.W.fnOf x qual (defArgs st) (defBody st) (defScope st) .none kV doc pm an cdv ct ∧ K.lookup f = some ⟨oc, od, .func fd, osl⟩ ∧ PySem.W.codeIn K cdv qual = true
  kp : PySem.W.keepIn K (.ref f) = true
section
variable {P : Program} {w : World} {K : PySem.W.Frag} {mg : Str → Option Value} {base : Heap}
theorem Fun.ok {x qual : Str} {st : Stmt} {f : Addr} {fd : FuncData} {N ps : List Str} {k : Nat} {sp : Sp} (F : Fun K x qual st f fd) (S : FnScope N ps (defScope st)) (len : ∀ vs H Q E, sp vs H Q E → vs.length = ps.length)
    (hbody : ∀ (cdv : Value) (A : Around) (outer : List Env) (s : Shared) (H : Hp) (vs : List V) (Q : VK) (E : XK), Room k (A.deeper (envOfC qual (defScope st) s.heap.objs.size f cdv)) → sp vs H Q E →
      ∃ t, PSs (cxOf CX0 P w K mg base N qual (defScope st) f cdv A outer s H E).nox (defBody st) t ∧ t { nx := fun _ H' => Q .non H', rt := Q } (start N vs) H) : FnOk P w K mg base CX0 (k + 1) f fd ps sp := by
  obtain ⟨oc, od, kV, doc, pm, an, cdv, ct, osl, rfl, lk, hcd⟩ := F.ex
  refine fn_of lk hcd S len fun A outer s H vs Q E hr hsp => ?_
  obtain ⟨t, h, q⟩ := hbody cdv A outer s H vs Q E hr hsp
  exact ⟨t, h.nox, q⟩
theorem Fun.binds {x qual : Str} {st : Stmt} {f : Addr} {fd : FuncData} {ps : List Str} (F : Fun K x qual st f fd)
    (h : ∀ (kV doc pm : Value) (an : Option Addr) (cdv ct : Value) (us : List Value), us.length = ps.length → bindArgs (PySem.W.fnOf x qual (defArgs st) (defBody st) (defScope st) .none kV doc pm an cdv ct) ⟨us, []⟩ = pure (ps.zip us)) : Binds K fd ps [] := by
  obtain ⟨oc, od, kV, doc, pm, an, cdv, ct, osl, rfl, lk, hcd⟩ := F.ex
  exact .all (h kV doc pm an cdv ct)
theorem fun_mk {x qual : Str} {st : Stmt} {f : Addr} {oc : Value} {od an : Option Addr} {osl : Array (Option Value)} {kV doc pm cdv ct : Value} (l : K.lookup f = some ⟨oc, od, .func (PySem.W.fnOf x qual (defArgs st) (defBody st) (defScope st) .none kV doc pm an cdv ct), osl⟩)
    (c : PySem.W.codeIn K cdv qual = true) (k : PySem.W.keepIn K (.ref f) = true) : Fun K x qual st f (PySem.W.fnOf x qual (defArgs st) (defBody st) (defScope st) .none kV doc pm an cdv ct) := ⟨⟨oc, od, kV, doc, pm, an, cdv, ct, osl, rfl, l, c⟩, k⟩
end
section
variable {X : Cx}
theorem pv (i : Nat) {x : Str} {pos : Pos} (hN : X.N[i]? = some x := by rfl) (hv : Vis X.env.scope x := by first | exact Or.inl rfl | exact Or.inr (Or.inl rfl) | exact Or.inr (Or.inr rfl)) (hd : (x == ("__debug__" : Str)) = false := by decide)
    (hcd : (x == ("__classdict__" : Str)) = false := by decide) : PE X (.Name x pos) (tVar i) := pe_var hN hv hd hcd
end
theorem ite2 {c A B : Prop} [Decidable c] (h1 : c → A) (h2 : ¬ c → B) : if c then A else B := by
  by_cases h : c
  · rw [if_pos h]
    exact h1 h
  · rw [if_neg h]
    exact h2 h
def Same (H H' : Hp) : Prop := ∀ b o, H b = some o → H' b = some o
theorem Same.refl (H : Hp) : Same H H := fun _ _ h => h
theorem Same.trans {H H1 H2 : Hp} (a : Same H H1) (b : Same H1 H2) : Same H H2 := fun c o h => b c o (a c o h)
theorem Same.free {H H' : Hp} (e : Same H H') {l : Addr} (h : H' l = Option.none) : H l = Option.none := by
  cases q : H l with
  | none => rfl
  | some o =>
    rw [e l o q] at h
    cases h
end L2
namespace L2
open PySem PySem.Spec PyProof.Rows
def closL (cells : List (Str × Addr)) : List (Str × NameKind) → List (Str × Addr) → List (Str × Addr)
  | [], acc => acc
  | (n, k) :: r, acc => if k == .free then closL cells r ((n, (cells.lookup n).getD 0) :: acc) else closL cells r acc
theorem closureFor_eq {env : Env} {scope : Scope} (h : ∀ n, (n, NameKind.free) ∈ scope.names → ∃ c, env.cells.lookup n = some c) :
    closureFor scope env = pure (closL env.cells scope.names []) := by
  have key : ∀ (names : List (Str × NameKind)) (acc : List (Str × Addr)), (∀ n, (n, NameKind.free) ∈ names → ∃ c, env.cells.lookup n = some c) →
      (forIn (m := Sem) names acc fun x r => match x with | (name, kind) => if (kind == NameKind.free) = true then (do let a ← cellOf env name; pure (ForInStep.yield ((name, a) :: r))) else pure (ForInStep.yield r)) = pure (closL env.cells names acc) := by
    intro names
    induction names with
    | nil => intro acc _; rfl
    | cons x r ih =>
      intro acc hx
      obtain ⟨n, k⟩ := x
      rw [List.forIn_cons]
      unfold closL
      by_cases hk : k = .free
      · subst hk
        obtain ⟨c, hc⟩ := hx n List.mem_cons_self
        simp only [beq_self_eq_true, if_true]
        have e : cellOf env n = pure c := by unfold cellOf; rw [hc]
        rw [e, hc]
        exact ih _ fun m hm => hx m (List.mem_cons_of_mem _ hm)
      · have hb : (k == NameKind.free) = false := by simpa using hk
        simp only [hb, Bool.false_eq_true, if_false]
        exact ih _ fun m hm => hx m (List.mem_cons_of_mem _ hm)
  unfold closureFor
  have := key scope.names [] h
  show ((forIn (m := Sem) scope.names [] fun x r => match x with | (name, kind) => if (kind == NameKind.free) = true then (do let a ← cellOf env name; pure (ForInStep.yield ((name, a) :: r))) else pure (ForInStep.yield r)) >>= fun cs => pure cs) = _
  rw [this]
  rfl
theorem cellsFrom_app : ∀ (names : List (Str × NameKind)) (n : Nat) (acc : List (Str × Addr)), cellsFrom n names acc = cellsFrom n names [] ++ acc
  | [], _, _ => rfl
  | (name, kind) :: r, n, acc => by
    unfold cellsFrom
    split
    · rw [cellsFrom_app r (n + 1) ((name, n) :: acc), cellsFrom_app r (n + 1) [(name, n)], List.append_assoc]; rfl
    · exact cellsFrom_app r n acc
theorem closL_lookup {cells : List (Str × Addr)} : ∀ (names : List (Str × NameKind)) (acc : List (Str × Addr)) (x : Str) (c : Addr), (closL cells names acc).lookup x = some c →
    (acc.lookup x = some c) ∨ ((x, NameKind.free) ∈ names ∧ c = (cells.lookup x).getD 0)
  | [], acc, x, c, h => .inl h
  | (n, k) :: r, acc, x, c, h => by
    unfold closL at h
    split at h
    · rename_i hk
      have hk' : k = .free := by simpa using hk
      subst hk'
      rcases closL_lookup r _ x c h with z | ⟨z, e⟩
      · rw [List.lookup_cons] at z
        cases hb : x == n with
        | true => rw [hb] at z; cases z; rw [beq_iff_eq.mp hb]; exact .inr ⟨List.mem_cons_self, rfl⟩
        | false => rw [hb] at z; exact .inl z
      · exact .inr ⟨List.mem_cons_of_mem _ z, e⟩
    · rcases closL_lookup r _ x c h with z | ⟨z, e⟩
      · exact .inl z
      · exact .inr ⟨List.mem_cons_of_mem _ z, e⟩
theorem closL_acc {cells : List (Str × Addr)} : ∀ (names : List (Str × NameKind)) (acc : List (Str × Addr)) (x : Str), (∃ c, acc.lookup x = some c) → ∃ c, (closL cells names acc).lookup x = some c
  | [], acc, x, h => h
  | (n, k) :: r, acc, x, h => by
    unfold closL
    split
    · refine closL_acc r _ x ?_
      obtain ⟨c, h⟩ := h
      rw [List.lookup_cons]
      cases hb : x == n with
      | true => exact ⟨_, rfl⟩
      | false => exact ⟨c, h⟩
    · exact closL_acc r _ x h
theorem closL_has {cells : List (Str × Addr)} : ∀ (names : List (Str × NameKind)) (acc : List (Str × Addr)) (x : Str), (x, NameKind.free) ∈ names → ∃ c, (closL cells names acc).lookup x = some c
  | [], acc, x, h => by simp at h
  | (n, k) :: r, acc, x, h => by
    unfold closL
    rcases List.mem_cons.mp h with e | h
    · cases e
      simp only [beq_self_eq_true, if_true]
      exact closL_acc r _ _ ⟨(cells.lookup n).getD 0, by rw [List.lookup_cons]; simp⟩
    · split
      · exact closL_has r _ x h
      · exact closL_has r _ x h
theorem cellsFrom_mem : ∀ (names : List (Str × NameKind)) (n : Nat) (acc : List (Str × Addr)) (x : Str) (c : Addr), (x, c) ∈ cellsFrom n names acc → (x, c) ∈ acc ∨ (x, NameKind.cell) ∈ names
  | [], _, _, _, _, h => .inl h
  | (name, kind) :: r, n, acc, x, c, h => by
    unfold cellsFrom at h
    split at h
    · rename_i hk
      have hk' : kind = .cell := by simpa using hk
      subst hk'
      rcases cellsFrom_mem r _ _ x c h with z | z
      · rcases List.mem_cons.mp z with e | z
        · cases e; exact .inr List.mem_cons_self
        · exact .inl z
      · exact .inr (List.mem_cons_of_mem _ z)
    · rcases cellsFrom_mem r _ _ x c h with z | z
      · exact .inl z
      · exact .inr (List.mem_cons_of_mem _ z)
structure CompScope (N : List Str) (sc0 : Scope) (N' : List Str) (ixs : List (Option Nat)) (sc : Scope) : Prop where
  kind : sc.kind = .function
  keys : (sc.names.map (·.1)).Nodup
  nd : N'.Nodup
  len : ixs.length = N'.length
  fv : ∀ (j i : Nat), ixs[j]? = some (some i) → ∃ x, N[i]? = some x ∧ N'[j]? = some x ∧ sc.names.lookup x = some .free
  free : ∀ p ∈ sc.names, p.2 = .free → sc0.names.lookup p.1 = some .cell ∨ sc0.names.lookup p.1 = some .free
theorem lookup_of_mem {α : Type} : ∀ {l : List (Str × α)}, (l.map (·.1)).Nodup → ∀ {x : Str} {k : α}, (x, k) ∈ l → l.lookup x = some k
  | (n, v) :: r, hn, x, k, h => by
    obtain ⟨h1, h2⟩ := List.nodup_cons.mp hn
    rw [List.lookup_cons]
    rcases List.mem_cons.mp h with e | hm
    · cases e; simp
    · have : (x == n) = false := by
        rw [beq_eq_false_iff_ne]
        intro e
        exact h1 (List.mem_map.mpr ⟨_, hm, e⟩)
      rw [this]
      exact lookup_of_mem h2 hm
def compEnv2 (scope : Scope) (L : Addr) (env : Env) : Env :=
  { scope := relabel scope env, locals := L, globals := env.globals, cells := cellsFrom (L + 1) scope.names (closL env.cells scope.names []), qual := env.qual, func := none, code := env.code, frame := env.frame, builtins := env.builtins }
theorem newEnv_comp {M : Model} {A : Around} {E : Value → Shared → Prop} {s : Shared} {scope : Scope} {globals : Addr} {cl : List (Str × Addr)} {qual : Str} {env : Env} {Q : Env → Shared → Prop}
    (hQ : ∀ h', h'.Ns s.heap.objs.size (fun _ => none) → (∀ b o, s.heap.get? b = some o → h'.get? b = some o) → (∀ x c, (x, c) ∈ cellsFrom (s.heap.objs.size + 1) scope.names [] → h'.IsCell c none ∧ s.heap.objs.size < c) →
      ((cellsFrom (s.heap.objs.size + 1) scope.names []).Pairwise fun x y => x.2 ≠ y.2) →
      Q { scope := scope, locals := s.heap.objs.size, globals := globals, cells := cellsFrom (s.heap.objs.size + 1) scope.names cl, qual := qual, func := none, code := env.code, frame := env.frame, builtins := env.builtins } { s with heap := h' }) :
    wpAny M A (newFunctionEnv scope globals cl [] qual none .none (some env)) Q E s := by
  simp only [newFunctionEnv, Option.isSome_some, if_true]
  refine wpAny_bind (wpAny_alloc ?_)
  refine wpAny_bind (wpAny_layCells _ (fun name kind cells => by cases hkc : kind == NameKind.cell <;> simp [hkc]) _ _ _ _ ?_)
  have ok := cellsFrom_ok scope.names (s.heap.push { cls := .type "dict", data := .dict #[] }) (s.heap.objs.size + 1) [] ⟨fun _ _ hm => (nomatch hm), List.Pairwise.nil⟩ (by rw [Heap.size_push]; exact Nat.le_refl _)
  rw [Heap.size_push] at ok
  rw [show ({ s with heap := s.heap.push { cls := .type "dict", data := .dict #[] } } : Shared).heap.objs.size = s.heap.objs.size + 1 from Heap.size_push ..]
  rw [List.forIn_nil]
  refine wpAny_bind (wpAny_pure (wpAny_pure ?_))
  exact hQ _ ((Heap.Ns.new s.heap (.type "dict")).keeps (pushCells_keeps _ _)) (fun b o e => pushCells_keeps _ _ b o (Heap.get?_push_of_some _ e)) (fun x c hm => ⟨(ok.empty x c hm).1, (ok.empty x c hm).2⟩) ok.apart
def cxComp (X : Cx) (N' : List Str) (scope : Scope) (s2 : Shared) (H2 : Hp) (fp : List Addr) : Cx :=
  { X with N := N', s₀ := s2, H₀ := H2, env := compEnv2 scope s2.heap.objs.size X.env, outer := X.stack, stack := X.stack, ex := fp, fn := fun x => scope.names.lookup x == some .cell, pn := [], xe := fun _ _ => False }
theorem lookup_relabel {env : Env} : ∀ {names : List (Str × NameKind)} {x : Str} {k : NameKind},
    (names.map fun (n, k) => if (k == NameKind.free && env.scope.kind == .function && env.kindOf n == some .cell) then (n, NameKind.cell) else (n, k)).lookup x = some k →
    ∃ k0, names.lookup x = some k0 ∧ (k = k0 ∨ (k0 = .free ∧ k = .cell))
  | [], _, _, h => by simp at h
  | (n, k0) :: r, x, k, h => by
    have ih := @lookup_relabel env r x k
    have h' : List.lookup x ((if (k0 == NameKind.free && env.scope.kind == .function && env.kindOf n == some .cell) = true then (n, NameKind.cell) else (n, k0)) :: _) = some k := h
    rw [List.lookup_cons]
    by_cases hc : (k0 == NameKind.free && env.scope.kind == .function && env.kindOf n == some .cell) = true
    · rw [if_pos hc, List.lookup_cons] at h'
      cases hx : x == n with
      | true =>
        rw [hx] at h'; cases h'
        have : k0 = .free := by
          have z := hc
          rw [Bool.and_eq_true, Bool.and_eq_true] at z
          simpa using z.1.1
        exact ⟨k0, rfl, .inr ⟨this, rfl⟩⟩
      | false => rw [hx] at h'; exact ih h'
    · rw [if_neg hc, List.lookup_cons] at h'
      cases hx : x == n with
      | true => rw [hx] at h'; cases h'; exact ⟨k0, rfl, .inl rfl⟩
      | false => rw [hx] at h'; exact ih h'
theorem lookup_relabel_of {env : Env} : ∀ {names : List (Str × NameKind)} {x : Str}, names.lookup x = some .free →
    (names.map fun (n, k) => if (k == NameKind.free && env.scope.kind == .function && env.kindOf n == some .cell) then (n, NameKind.cell) else (n, k)).lookup x = some .cell ∨
    (names.map fun (n, k) => if (k == NameKind.free && env.scope.kind == .function && env.kindOf n == some .cell) then (n, NameKind.cell) else (n, k)).lookup x = some .free
  | [], _, h => by simp at h
  | (n, k0) :: r, x, h => by
    have ih := @lookup_relabel_of env r x
    show List.lookup x ((if (k0 == NameKind.free && env.scope.kind == .function && env.kindOf n == some .cell) = true then (n, NameKind.cell) else (n, k0)) :: _) = _ ∨ List.lookup x ((if (k0 == NameKind.free && env.scope.kind == .function && env.kindOf n == some .cell) = true then (n, NameKind.cell) else (n, k0)) :: _) = _
    rw [List.lookup_cons] at h
    cases hx : x == n with
    | true =>
      rw [hx] at h; cases h
      by_cases hc : (NameKind.free == NameKind.free && env.scope.kind == .function && env.kindOf n == some .cell) = true
      · rw [if_pos hc, List.lookup_cons, hx]; exact .inl rfl
      · rw [if_neg hc, List.lookup_cons, hx]; exact .inr rfl
    | false =>
      rw [hx] at h
      by_cases hc : (k0 == NameKind.free && env.scope.kind == .function && env.kindOf n == some .cell) = true
      · rw [if_pos hc, List.lookup_cons, hx]; exact ih h
      · rw [if_neg hc, List.lookup_cons, hx]; exact ih h
def pick (ixs : List (Option Nat)) (σ : St) : St := ixs.map fun o => o.bind fun i => (σ[i]?).join
section
variable {X : Cx} {pins : List (Addr × Obj)} {σ : St} {H : Hp} {s2 : Shared} {N' : List Str} {ixs : List (Option Nat)} {scope : Scope} {fp : List Addr} {h' : Heap}
theorem comp_free (I : Inv X pins σ H s2) (S : CompScope X.N X.env.scope N' ixs scope) {x : Str} (hx : (x, NameKind.free) ∈ scope.names) : ∃ c, X.env.cells.lookup x = some c :=
  I.ok.has x (S.free _ hx rfl)
theorem comp_cells (I : Inv X pins σ H s2) (S : CompScope X.N X.env.scope N' ixs scope) {n : Nat} {x : Str} {c : Addr} (h : (cellsFrom n scope.names (closL X.env.cells scope.names [])).lookup x = some c) :
    ((x, c) ∈ cellsFrom n scope.names [] ∧ (x, NameKind.cell) ∈ scope.names) ∨ ((x, NameKind.free) ∈ scope.names ∧ X.env.cells.lookup x = some c) := by
  rw [cellsFrom_app, List.lookup_append] at h
  cases e : (cellsFrom n scope.names []).lookup x with
  | some d =>
    rw [e] at h
    have z : d = c := by simpa using h
    subst z
    have m := PySem.mem_of_lookup e
    rcases cellsFrom_mem _ _ _ _ _ m with z | z
    · simp at z
    · exact .inl ⟨m, z⟩
  | none =>
    rw [e] at h
    have h' : (closL X.env.cells scope.names []).lookup x = some c := by simpa using h
    rcases closL_lookup _ _ _ _ h' with z | ⟨z, e2⟩
    · simp at z
    · obtain ⟨c0, h0⟩ := comp_free I S z
      rw [h0] at e2
      exact .inr ⟨z, by rw [h0, e2]; rfl⟩
theorem inv_comp (I : Inv X pins σ H s2) (S : CompScope X.N X.env.scope N' ixs scope) (hfp : ∀ b ∈ fp, FpOk X pins H b) (hfo : ∀ b ∈ fp, ∃ o, s2.heap.get? b = some o)
    (hn : h'.Ns s2.heap.objs.size (fun _ => none)) (hk : ∀ b o, s2.heap.get? b = some o → h'.get? b = some o)
    (hc : ∀ x c, (x, c) ∈ cellsFrom (s2.heap.objs.size + 1) scope.names [] → h'.IsCell c none ∧ s2.heap.objs.size < c) (hp : (cellsFrom (s2.heap.objs.size + 1) scope.names []).Pairwise fun x y => x.2 ≠ y.2) :
    Inv (cxComp X N' scope s2 H fp) [] (pick ixs σ) H { s2 with heap := h' } := by
  have old : ∀ {x : Str} {c : Addr}, X.env.cells.lookup x = some c → c < s2.heap.objs.size := fun {x c} e => let ⟨_, q⟩ := I.cell x c e; q.lt
  have cc : ∀ {x : Str} {c : Addr}, (cxComp X N' scope s2 H fp).env.cells.lookup x = some c → ((x, c) ∈ cellsFrom (s2.heap.objs.size + 1) scope.names [] ∧ (x, NameKind.cell) ∈ scope.names) ∨ ((x, NameKind.free) ∈ scope.names ∧ X.env.cells.lookup x = some c) :=
    fun {x c} e => comp_cells I S e
  have isc : ∀ {x : Str} {c : Addr}, (cxComp X N' scope s2 H fp).env.cells.lookup x = some c → ∃ v, h'.IsCell c v := fun {x c} e => by
    rcases cc e with ⟨m, _⟩ | ⟨_, e0⟩
    · exact ⟨_, (hc x c m).1⟩
    · obtain ⟨v, q⟩ := I.cell x c e0
      exact ⟨v, q.keeps hk⟩
  have flt : ∀ b ∈ fp, b < s2.heap.objs.size := fun b hb => let ⟨_, e⟩ := hfo b hb; Heap.lt_size e
  refine ⟨⟨I.ok.mod, S.kind, I.ok.glob, I.ok.blt, Nat.le_refl _, fun x y c e1 e2 => ?_, fun x hx => ?_, fun x c hx e => ?_, I.ok.hd, I.ok.frames, .inl rfl, fun b hb => ⟨Nat.ne_of_lt (flt b hb), fun x c e z => ?_⟩, I.bs, ?_, fun b o e hb => ?_, fun b hb hb2 => ?_, I.stack, I.stkFree⟩,
    rfl, I.bare, Un.kept hk, ⟨_, hn, fun j x v e1 e2 e3 => ?_⟩, fun x c e => isc e, I.hok.fresh (Nat.le_refl _), fun x c e => ?_, fun p hp => absurd (show p ∈ ([] : List (Addr × Obj)) from hp) (by simp), I.hok.kept hk, ?_⟩
  · rcases cc e1 with ⟨m1, _⟩ | ⟨_, o1⟩ <;> rcases cc e2 with ⟨m2, _⟩ | ⟨_, o2⟩
    · exact name_of_addr hp m1 m2
    · exact absurd (Nat.lt_trans (hc _ _ m1).2 (old o2)) (Nat.lt_irrefl _)
    · exact absurd (Nat.lt_trans (hc _ _ m2).2 (old o1)) (Nat.lt_irrefl _)
    · exact I.ok.inj x y c o1 o2
  · have hk0 : ∃ k0, scope.names.lookup x = some k0 ∧ (k0 = .cell ∨ k0 = .free) := by
      rcases hx with hx | hx
      · obtain ⟨k0, e, z⟩ := lookup_relabel (env := X.env) hx
        refine ⟨k0, e, ?_⟩
        rcases z with z | z
        · exact .inl z.symm
        · exact .inr z.1
      · obtain ⟨k0, e, z⟩ := lookup_relabel (env := X.env) hx
        refine ⟨k0, e, ?_⟩
        rcases z with z | z
        · exact .inr z.symm
        · exact .inr z.1
    obtain ⟨k0, e, z⟩ := hk0
    show ∃ c, (cellsFrom (s2.heap.objs.size + 1) scope.names (closL X.env.cells scope.names [])).lookup x = some c
    rw [cellsFrom_app, List.lookup_append]
    rcases z with rfl | rfl
    · obtain ⟨c, hc'⟩ := cell_has (n := s2.heap.objs.size + 1) e
      exact ⟨c, by rw [hc']; rfl⟩
    · cases q : (cellsFrom (s2.heap.objs.size + 1) scope.names []).lookup x with
      | some d => exact ⟨d, rfl⟩
      | none =>
        obtain ⟨c, hc'⟩ := closL_has (cells := X.env.cells) scope.names [] x (PySem.mem_of_lookup e)
        exact ⟨c, by rw [hc']; rfl⟩
  · have hx' : scope.names.lookup x = some .cell := by simpa [cxComp] using hx
    rcases cc e with ⟨m, _⟩ | ⟨m, _⟩
    · exact Nat.le_of_lt (hc _ _ m).2
    · rw [lookup_of_mem S.keys m] at hx'; cases hx'
  · rcases cc e with ⟨m, _⟩ | ⟨_, o1⟩
    · have := flt b hb
      rw [← z] at this
      exact absurd (Nat.lt_trans (hc _ _ m).2 this) (Nat.lt_irrefl _)
    · exact (hfp b hb).2.2.2.2.1 x c o1 z
  · exact Nat.le_trans I.ok.bsz I.sz
  · rcases (hfp b hb).2.2.2.1 with z | z
    · exact I.ok.noex b o e z
    · exact absurd (Nat.lt_of_lt_of_le (Heap.lt_size (I.ok.bs b o e).1) z) (Nat.lt_irrefl _)
  · have := I.stkSub b hb2
    rcases List.mem_cons.mp this with z | z
    · exact (hfp b hb).2.1 z
    · exact (hfp b hb).2.2.1 z
  · -- the names around
    have e2' : (ixs[j]?).bind (fun o => some (o.bind fun i => (σ[i]?).join)) = some (some v) := by
      have e2a : (ixs.map fun o => o.bind fun i => (σ[i]?).join)[j]? = some (some v) := e2
      rw [List.getElem?_map] at e2a
      cases q : ixs[j]? with
      | none => rw [q] at e2a; cases e2a
      | some o => rw [q] at e2a; exact e2a
    cases q : ixs[j]? with
    | none => rw [q] at e2'; cases e2'
    | some o =>
      rw [q] at e2'
      cases o with
      | none => simp at e2'
      | some i =>
        have e3' : (σ[i]?).join = some v := by simpa using e2'
        have e4 : σ[i]? = some (some v) := by
          cases q2 : σ[i]? with
          | none => rw [q2] at e3'; cases e3'
          | some z => rw [q2] at e3'; rw [show z = some v from e3']
        obtain ⟨y, hy1, hy2, hy3⟩ := S.fv j i q
        have exy : x = y := by
          have e1' : N'[j]? = some x := e1
          rw [hy2] at e1'; exact (Option.some.inj e1').symm
        subst exy
        obtain ⟨m, hm, hl⟩ := I.loc
        have hf := S.free _ (PySem.mem_of_lookup hy3) rfl
        obtain ⟨u, r, lk⟩ := hl i x v hy1 e4 (by rcases hf with z | z; exact .inr (.inl z); exact .inr (.inr z))
        refine ⟨u, r, .inr ⟨lookup_relabel_of hy3, ?_⟩⟩
        rcases lk with ⟨k, _⟩ | ⟨_, c, ec, ic⟩
        · have k' : X.env.scope.names.lookup x = some .local := k
          rcases hf with z | z <;> (rw [z] at k'; cases k')
        · refine ⟨c, ?_, ic.keeps hk⟩
          show (cellsFrom (s2.heap.objs.size + 1) scope.names (closL X.env.cells scope.names [])).lookup x = some c
          rw [cellsFrom_app, List.lookup_append]
          cases q3 : (cellsFrom (s2.heap.objs.size + 1) scope.names []).lookup x with
          | some d =>
            rcases cellsFrom_mem _ _ _ _ _ (PySem.mem_of_lookup q3) with z | z
            · simp at z
            · rw [lookup_of_mem S.keys z] at hy3; cases hy3
          | none =>
            obtain ⟨c', hc'⟩ := closL_has (cells := X.env.cells) scope.names [] x (PySem.mem_of_lookup hy3)
            rcases closL_lookup _ _ _ _ hc' with z | ⟨_, e5⟩
            · simp at z
            · rw [ec] at e5
              rw [hc', e5]; rfl
  · rcases cc e with ⟨m, _⟩ | ⟨_, o1⟩
    · exact I.hok.fresh (Nat.le_of_lt (hc _ _ m).2)
    · exact I.freeC x c o1
  · show (ixs.map _).length = N'.length
    rw [List.length_map, S.len]
end
end L2
namespace L2
open PySem PySem.Spec PyProof.Rows
def PIfs (X : Cx) (ifs : List Expr) (t : TT) : Prop :=
  ∀ (pins : List (Addr × Obj)) (s : Shared) (σ : St) (H : Hp) (Q : Bool → Hp → Prop), Inv X pins σ H s → t σ H Q →
    wpAny (model X.prog X.w) X.A (forIn ifs true fun c r => if r = true then do let ok ← isTrue c X.env (eval c X.env); pure (ForInStep.yield ok) else pure (ForInStep.yield r)) (TP X pins σ Q) X.xe s
def tTrue : TT := fun _ H Q => Q true H
section
variable {X : Cx}
theorem pifs_nil : PIfs X [] tTrue := fun _ _ _ H _ I h => wpAny_tests_nil ⟨H, I, h⟩
theorem pifs_one {c : Expr} {t : TT} (h : PT X c t) : PIfs X [c] t := fun pins s σ H Q I hw => wpAny_tests_one (h pins s σ H Q I hw)
end
theorem codeAny_compLoop2 {prog : Program} {w : World} {A : Around} {R : Result → Shared → Prop} {s : Shared} {elt target iter : Expr} {ifs : List Expr} {scope : Scope} {pos : Pos} {it acc : Value} {env : Env} (I : Nat → Shared → Prop)
    (turn : ∀ n s, I n s → wpAny (model prog w) A (pyNext it) (fun r s1 => match r with
      | none => R (.ok .next) s1
      | some v => wpAny (model prog w) A (letOwnedTupleGo target it v) (fun _ s2 => wpAny (model prog w) A (assign target env v) (fun _ s3 =>
          wpAny (model prog w) A (forIn ifs true fun c r => if r = true then do let ok ← isTrue c env (eval c env); pure (ForInStep.yield ok) else pure (ForInStep.yield r)) (fun ok s4 =>
            if ok = true then wpAny (model prog w) A (eval elt env) (fun x s5 =>
              wpAny (model prog w) A (call (.builtin "list.append") [acc, x]) (fun _ s6 => ∃ m, m < n ∧ I m s6) (fun _ _ => False) s5) (fun _ _ => False) s4
            else ∃ m, m < n ∧ I m s4) (fun _ _ => False) s3) (fun _ _ => False) s2) (fun _ _ => False) s1) (fun _ _ => False) s)
    (n : Nat) (h : I n s) :
    codeAny (model prog w) A (.compLoop (.ListComp elt [⟨target, iter, ifs, 0⟩] scope pos) 0 it acc env) R s := by
  refine codeAny_loop rfl I (fun n s hI => ?_) n h
  show wpAny _ A ((compTurn (.ListComp elt [⟨target, iter, ifs, 0⟩] scope pos) 0 it acc env).onRaise (fun x => do noteFrame x env; theTreesLotGoes x)) _ _ s
  refine wpAny_noted (wpAny_noRaise ?_)
  rw [compTurn_list]
  refine wpAny_bind (wpAny_standAt (wpAny_bind (thn (turn n s hI) fun r s1 h1 => ?_)))
  cases r with
  | none => exact wpAny_pure h1
  | some v =>
    refine wpAny_bind (thn h1 fun _ s2 h2 => wpAny_bind (thn h2 fun _ s3 h3 => wpAny_bind (thn h3 fun ok s4 h4 => ?_)))
    cases ok with
    | false => exact wpAny_pure ⟨rfl, h4⟩
    | true => exact wpAny_bind (wpAny_bind (thn h4 fun x s5 h5 => wpAny_bind (thn h5 fun _ s6 h6 => wpAny_pure (wpAny_pure ⟨rfl, h6⟩))))
def CompW (J : It) (g : TG) (ti : TT) (te : TE) (τ0 : St) (Q : VK) (p : Addr) (H1 : Hp) : Prop :=
  ∃ W : Nat → Nat → List V → St → Hp → Prop, (∃ m, W 0 m [] τ0 (upd H1 p (.lst []))) ∧ ∀ i m ys τ H2, W i m ys τ H2 → H2 p = some (.lst ys) ∧
    ((J.stop i H2 ∧ Q (.ref p) H2) ∨ (J.go i H2 ∧ ∀ x H3, J.yld i H2 x H3 → g x τ H3 fun τ4 H4 => ti τ4 H4 fun b H5 =>
      if b = true then te τ4 H5 fun y H6 => H6 p = some (.lst ys) ∧ ys.length < sizeLine ∧ ∃ m', m' < m ∧ W (i + 1) m' (ys ++ [y]) τ4 (upd H6 p (.lst (ys ++ [y])))
      else ∃ m', m' < m ∧ W (i + 1) m' ys τ4 H5))
def tComp (wi : TI) (ixs : List (Option Nat)) (g : TG) (ti : TT) (te : TE) : TE := fun σ H Q => wi σ H fun J H1 => ∀ p, H1 p = none → CompW J g ti te (pick ixs σ) Q p H1
section
variable {X : Cx} {pins : List (Addr × Obj)} {σ : St} {H2 : Hp} {s2 : Shared} {N' : List Str} {ixs : List (Option Nat)} {scope : Scope} {tg elt iter : Expr} {ifs : List Expr} {pos : Pos}
def CompEnd (X : Cx) (pins : List (Addr × Obj)) (σ : St) (Q : VK) (acc : Value) (C : Addr) (s' : Shared) : Prop :=
  ∃ (p : Addr) (H' : Hp), acc = .ref p ∧ Inv X pins σ H' s' ∧ FpOk X pins H' C ∧ (∃ m, s'.heap.Ns C m) ∧ Q (.ref p) H'
theorem comp_core {J : It} {fp : List Addr} {it : Addr} {tn : Nat → Heap → Prop} {g : TG} {ti : TT} {te : TE} {Q : VK} {E : Value → Shared → Prop} {RR : Value → Addr → Result → Shared → Prop} (hc : X.calm = true) (S : CompScope X.N X.env.scope N' ixs scope)
    (I2 : Inv X pins σ H2 s2) (T : Turn X.prog X.w X.K tg J fp it tn) (st : tn 0 s2.heap) (hf : ∀ b ∈ fp, FpOk X pins H2 b)
    (hb : ∀ s H fp, PG (cxComp X N' scope s H fp) tg g ∧ PIfs (cxComp X N' scope s H fp) ifs ti ∧ PE (cxComp X N' scope s H fp) elt te)
    (hw : ∀ p, H2 p = none → CompW J g ti te (pick ixs σ) Q p H2) (hR : ∀ acc C s', CompEnd X pins σ Q acc C s' → RR acc C (.ok .next) s') :
    wpAny (model X.prog X.w) X.A (newList []) (fun acc s3 => wpAny (model X.prog X.w) X.A (newFunctionEnv scope X.env.globals (closL X.env.cells scope.names []) [] X.env.qual none .none (some X.env)) (fun cenv s4 =>
      codeAny (model X.prog X.w) X.A (.compStart (.ListComp elt [⟨tg, iter, ifs, 0⟩] scope pos) 0 (.ref it) acc { cenv with scope := relabel scope X.env }) (RR acc cenv.locals) s4) E s3) E s2 := by
  refine wpAny_newObj_type ?_
  have I3 : Inv X pins σ (upd H2 s2.heap.objs.size (.lst [])) { s2 with heap := s2.heap.push { cls := .type "list", data := .seq ([] : List Value).toArray } } :=
    I2.lnew (its := []) (t' := s2.toks) .nil (Nat.zero_le _)
  have hp := hw s2.heap.objs.size I2.fresh
  generalize e3 : ({ s2 with heap := s2.heap.push { cls := .type "list", data := .seq ([] : List Value).toArray } } : Shared) = s3 at I3 ⊢
  generalize eH : upd H2 s2.heap.objs.size (.lst []) = H3 at I3 hp
  have flt : ∀ b ∈ fp, b < s2.heap.objs.size := fun b hb => let ⟨_, e, _⟩ := T.obj _ _ st b hb; Heap.lt_size e
  have get3 : ∀ b o, s2.heap.get? b = some o → s3.heap.get? b = some o := fun b o e => by rw [← e3]; exact Heap.get?_push_of_some _ e
  have st3 : tn 0 s3.heap := T.keep _ _ _ st fun b _ o e => get3 b o e
  have hf3 : ∀ b ∈ fp, FpOk X pins H3 b := fun b hb => ⟨by rw [← eH, upd_ne (Nat.ne_of_lt (flt b hb))]; exact (hf b hb).1, (hf b hb).2⟩
  have ho3 : ∀ b ∈ fp, ∃ o, s3.heap.get? b = some o := fun b hb => let ⟨o, e, _⟩ := T.obj _ _ st3 b hb; ⟨o, e⟩
  refine newEnv_comp fun h4 hn hk hcl hpw => ?_
  have I4 : Inv (cxComp X N' scope s3 H3 fp) [] (pick ixs σ) H3 { s3 with heap := h4 } := inv_comp I3 S hf3 ho3 hn hk hcl hpw
  have st4 : tn 0 ({ s3 with heap := h4 } : Shared).heap := T.keep _ _ _ st3 fun b _ o e => hk b o e
  obtain ⟨hG, hI, hE⟩ := hb s3 H3 fp
  obtain ⟨W, ⟨m0, w0⟩, turn⟩ := hp
  rw [eH] at w0
  have stat : ∀ {H' : Hp}, (∀ b ∈ fp, H' b = none) → ∀ b ∈ fp, FpOk (cxComp X N' scope s3 H3 fp) [] H' b := fun hn b hb =>
    ⟨hn b hb, (I4.ok.exf b hb).1, I4.ok.exfs b hb, .inl hb, fun x c e => (I4.ok.exf b hb).2 x c e, fun p hp => absurd (show p ∈ ([] : List (Addr × Obj)) from hp) (by simp)⟩
  have loop : codeAny (model X.prog X.w) X.A (.compLoop (.ListComp elt [⟨tg, iter, ifs, 0⟩] scope pos) 0 (.ref it) (.ref s2.heap.objs.size) (compEnv2 scope s3.heap.objs.size X.env))
      (RR (.ref s2.heap.objs.size) s3.heap.objs.size) { s3 with heap := h4 } := by
    refine codeAny_compLoop2 (fun n s' => ∃ i ys τ H', Inv (cxComp X N' scope s3 H3 fp) [] τ H' s' ∧ tn i s'.heap ∧ (∀ b ∈ fp, H' b = none) ∧ W i n ys τ H') ?_ m0 ⟨0, [], _, H3, I4, st4, fun b hb => (hf3 b hb).1, w0⟩
    rintro n s5 ⟨i, ys, τ, H5, I5, st5, fr5, w5⟩
    obtain ⟨hp5, w5⟩ := turn i n ys τ H5 w5
    rcases w5 with ⟨stop, qn⟩ | ⟨go, step⟩
    · refine thn (T.done (cxComp X N' scope s3 H3 fp) rfl rfl rfl hc i [] s5 τ H5 _ I5 (stat fr5) st5 stop) fun r s6 ⟨hr, I6⟩ => ?_
      subst hr
      refine hR _ _ _ ⟨_, H5, rfl, ?_, ?_, ?_, qn⟩
      · exact I3.call' (s' := s6) (ch := fp) I6.os I6.base I6.hok I6.bare fun b hb => ⟨(hf3 b hb).2.2.2.1, (hf3 b hb).2.1, (hf3 b hb).2.2.2.2.1, (hf3 b hb).2.2.2.2.2⟩
      · exact I3.fpOk (Nat.le_refl _) I6.free
      · obtain ⟨m, hm, _⟩ := I6.loc
        exact ⟨m, hm⟩
    · refine thn (T.item (cxComp X N' scope s3 H3 fp) rfl rfl rfl hc i [] s5 τ H5 _ I5 (stat fr5) st5 go) fun r s6 ⟨u, hr, h6⟩ => ?_
      subst hr
      refine thn h6 fun _ s7 ⟨x, H7, I7, r7, y7, st7, fr7⟩ => ?_
      have I7' := I7.pinned (stat fr7) (T.obj _ _ st7)
      refine thn (hG _ s7 τ H7 x u _ I7' r7 (step x H7 y7)) fun _ s8 ⟨τ8, H8, I8, q8⟩ => ?_
      refine thn (hI _ s8 τ8 H8 _ I8 q8) fun b s9 ⟨H9, I9, q9⟩ => ?_
      have again : ∀ {τ' : St} {H' : Hp} {s' : Shared} {ys' : List V} {m' : Nat}, Inv (cxComp X N' scope s3 H3 fp) ([] ++ pinsAt fp s7.heap) τ' H' s' → m' < n → W (i + 1) m' ys' τ' H' →
          ∃ m, m < n ∧ ∃ i ys τ H', Inv (cxComp X N' scope s3 H3 fp) [] τ H' s' ∧ tn i s'.heap ∧ (∀ b ∈ fp, H' b = none) ∧ W i m ys τ H' := fun {τ' H' s' ys' m'} I' hm w' => by
        refine ⟨m', hm, i + 1, ys', τ', H', I'.unpinned, T.keep _ _ _ st7 fun b hb o e => (I'.pin (b, o) (List.mem_append_right _ (List.mem_append_right _ (mem_pinsAt hb e)))).1, fun b hb => ?_, w'⟩
        obtain ⟨o, e, d⟩ := T.obj _ _ st7 b hb
        exact (I'.pin (b, o) (List.mem_append_right _ (List.mem_append_right _ (mem_pinsAt hb e)))).2.1
      cases b with
      | false =>
        obtain ⟨m', hm, w'⟩ := q9
        exact again I9 hm w'
      | true =>
        refine thn (hE _ s9 τ8 H9 _ I9 q9) fun y s10 ⟨z, H10, I10, r10, hp10, hz10, m', hm, w'⟩ => ?_
        refine thn (mt_append _ s10 τ8 H10 (.ref s2.heap.objs.size) [z] (.ref s2.heap.objs.size) [y] (fun _ H' => H' = upd H10 s2.heap.objs.size (.lst (ys ++ [z]))) I10 rfl (.cons r10 .nil) ⟨_, _, _, rfl, rfl, hp10, hz10, rfl⟩) fun _ s11 ⟨_, H11, I11, _, e11⟩ => ?_
        subst e11
        exact again I11 hm w'
  exact codeAny_compStart_list loop (T.self X.A 0 _ _ _ st4 loop)
theorem pe_comp {wi : TI} {g : TG} {ti : TT} {te : TE} (hc : X.calm = true) (S : CompScope X.N X.env.scope N' ixs scope) (hi : PI X tg iter wi)
    (hb : ∀ s H fp, PG (cxComp X N' scope s H fp) tg g ∧ PIfs (cxComp X N' scope s H fp) ifs ti ∧ PE (cxComp X N' scope s H fp) elt te)
    (hs : ∀ x, foldedSetIterable iter X.env x = pure x := by intro _; rfl) : PE X (.ListComp elt [⟨tg, iter, ifs, 0⟩] scope pos) (tComp wi ixs g ti te) := by
  intro pins s σ H Q I h
  rw [eval_ListComp]
  refine wpAny_comprehension_free (use := none) rfl hs (closureFor_eq fun n hn => comp_free I S hn) S.kind (fun x hx hl => lookup_of_mem S.keys (by rw [← hl]; exact hx)) ?_
  refine thn (hi pins s σ H _ I h) fun v s1 h1 => thn h1 fun itv s2 h2 => ?_
  obtain ⟨it, fp, tn, J, H2, e, I2, T, st2, f2, hw⟩ := h2
  subst e
  refine comp_core (RR := fun acc C => compPost (model X.prog X.w) X.A X.xe none (EP X pins σ Q) acc C) hc S I2 T st2 f2 hb hw ?_
  rintro acc C s' ⟨p, H', rfl, I', fC, ⟨m, hm⟩, q⟩
  refine ⟨m, hm, fun h' hs' => ⟨.ref p, H', ?_, rfl, q⟩⟩
  exact I'.turned (it := C) (t' := s'.toks) (fun b o hb e => (hs'.2 b hb).trans e) fC.1 fC.2.1 fC.2.2.2.1 fC.2.2.2.2.1 fC.2.2.2.2.2
theorem ps_setComp {wi : TI} {g : TG} {ti : TT} {te : TE} {i : Nat} {x : Str} {pos' spos : Pos} (hc : X.calm = true) (S : CompScope X.N X.env.scope N' ixs scope) (hN : X.N.Nodup) (hx : X.N[i]? = some x) (hl : X.env.scope.names.lookup x = some .local) (hi : PI X tg iter wi)
    (hb : ∀ s H fp, PG (cxComp X N' scope s H fp) tg g ∧ PIfs (cxComp X N' scope s H fp) ifs ti ∧ PE (cxComp X N' scope s H fp) elt te)
    (hsw : swapsWith (.ListComp elt [⟨tg, iter, ifs, 0⟩] scope pos) (some (.Name x pos')) spos.line X.env = pure true := by rfl)
    (hs : ∀ x, foldedSetIterable iter X.env x = pure x := by intro _; rfl) : PS X (.Assign [.Name x pos'] (.ListComp elt [⟨tg, iter, ifs, 0⟩] scope pos) spos) (tAsg (tComp wi ixs g ti te) (gName i)) := by
  intro pins s σ H D I h
  rw [exec_Assign_Name_used _ _ _ _ hsw]
  refine wpAny_bind (wpAny_standAt (wpAny_bind ?_))
  show wpAny _ X.A (do let _ ← comprehension (.ListComp elt [⟨tg, iter, ifs, 0⟩] scope pos) scope X.env _ (newList []) false (eval iter X.env) (some (assign (.Name x pos') X.env))) _ _ s
  refine wpAny_bind (thn (wpAny_comprehension_free (use := some (assign (.Name x pos') X.env)) (Q := fun _ s' => SP X pins D .next s') rfl hs (closureFor_eq fun n hn => comp_free I S hn) S.kind (fun x hx hl => lookup_of_mem S.keys (by rw [← hl]; exact hx)) ?_) fun _ s' hq => wpAny_pure (wpAny_pure hq))
  refine thn (hi pins s σ H _ I h) fun v s1 h1 => thn h1 fun itv s2 h2 => ?_
  obtain ⟨it, fp, tn, J, H2, e, I2, T, st2, f2, hw⟩ := h2
  subst e
  refine comp_core (Q := fun v H' => D.nx (σ.set i (some v)) H') (RR := fun acc C => compPost (model X.prog X.w) X.A X.xe (some (assign (.Name x pos') X.env)) (fun _ s' => SP X pins D .next s') acc C) hc S I2 T st2 f2 hb hw ?_
  rintro acc C s' ⟨p, H', rfl, I', fC, ⟨m, hm⟩, q⟩
  show wpAny (model X.prog X.w) X.A (assign (.Name x pos') X.env (.ref p)) _ _ s'
  refine wpAny_assign_Name (store_ok2 (v := .ref p) I' hN hx (.inl hl) rfl (fun s'' I'' ⟨a, hsb, ha⟩ => ?_) (.inr hl))
  have hCa : C ≠ a := by
    rcases ha with ha | ha
    · rw [ha]; exact fC.2.1
    · exact fun z => fC.2.2.2.2.1 _ _ ha z.symm
  refine ⟨m, hm.sameBut hsb hCa, fun h' hs' => ⟨_, H', ?_, q⟩⟩
  exact I''.turned (it := C) (t' := s''.toks) (fun b o hb e => (hs'.2 b hb).trans e) fC.1 fC.2.1 fC.2.2.2.1 fC.2.2.2.2.1 fC.2.2.2.2.2
end
end L2
namespace L2
open PySem PySem.Spec PyProof.Rows PySem.W PySem.Builtin.ObjectAttr
abbrev bmV : List Value := [.type "ValueError", .type "Exception", .type "BaseException", .type "object"]
def excInI (K : Frag) (C : Addr) (i : Option Value) : Bool :=
  match K.lookup C with
  | some ⟨.type "type", _, .cls cls, slots⟩ =>
    (match cls.mro, slots.toList with
     | .ref C' :: up, [_, _, _, _, some (.builtin n), _] => C' == C && (n == "ValueError.__new__" && (!cls.hasDel && (tailIn K bmV up && (nsOkIn K cls.ns && nsIn K cls.ns "__init__" == some i))))
     | _, _ => false)
  | _ => false
def overE : List Value → Bool
  | .ref _ :: r => overE r
  | l => l == bmV
structure XCls (K : Frag) (C : Addr) : Prop where
  ga : findIn K (.ref C) "__getattribute__" = some (some (.builtin "BaseException.__getattribute__"))
  gh : findIn K (.ref C) "__getattr__" = some none
  sa : findIn K (.ref C) "__setattr__" = some (some (.builtin "object.__setattr__"))
  hd : hasDictIn K C = true
  ov : ((clsIn K C).any fun cd => overE cd.mro) = true
  be : mroIn K C (.type "BaseException") = some true
  ve : mroIn K C (.type "ValueError") = some true
  ob : mroIn K C (.type "object") = some true
  ka : findIn K (.ref C) "__class__" = some (some (.builtin "object.__class__"))
  kn : specialIn K (.builtin "object.__class__") "__get__" = some (some (.builtin "getset_descriptor.__get__"))
  kt : takesIn K (.builtin "object.__class__") = some true
section
variable {prog : Program} {w : World} {A : Around} {E : Value → Shared → Prop} {s : Shared} {K : Frag} {x C : Addr} {ox : Obj} {od : Option Obj} {name : Str}
theorem exc_getBy {tk : Tok} {fill expr : Bool} {Q : Value → Shared → Prop} (X : K.In s.heap) (I : InstAt s.heap x ox C od) (c : XCls K C)
    (h : wpAny (model prog w) A.in1 (Builtin.«object.__getattribute__» ⟨[.ref x, .str name tk], []⟩) (fun fin s' => match fin with | .done (.ret v) => wpAny (model prog w) A (handedOut v) Q E s' | _ => False) (fun _ _ => False) s) :
    wpAny (model prog w) A (getAttrBy (.ref x) (.str name tk) fill expr) Q E s := by
  have L0 := I.type (M := model prog w)
  have L1 := looks_findIn (M := model prog w) X c.ga
  have L2 := looks_findIn (M := model prog w) X c.gh
  have sub : Looks (model prog w) s.heap (isInstance (.ref x) (.type "BaseException")) true := I.type.andThen (looks_mroIn X c.be)
  have hx2 : (Value.builtin "BaseException.__getattribute__" == Value.builtin "object.__getattribute__") = false := by decide +kernel
  have hx1 : (onTheHeap (Value.ref C) && Value.builtin "BaseException.__getattribute__" == Value.builtin "object.__getattribute__") = false := by rw [hx2]; rfl
  have hk : builtinKind "BaseException.__getattribute__" = some .slot := by decide +kernel
  have hsplit : splitId "BaseException.__getattribute__" = some ("BaseException", "__getattribute__") := by decide +kernel
  unfold getAttrBy
  refine wpAny_holding (wpAny_bind (L0.here (wpAny_bind (L1.here ?_))))
  dsimp only
  rw [hx1]
  show wpAny _ _ (getAttrByItsOwn _ _ _ _ _ _) _ _ _
  unfold getAttrByItsOwn hookBefore
  refine wpAny_bind ?_
  rw [if_pos (show onTheHeap (Value.ref C) = true from rfl)]
  refine L2.here (wpAny_bind (wpAny_attempt (wpAny_holding ?_)))
  unfold callGetattribute
  rw [if_neg (show ¬ (expr && onTheHeap (Value.builtin "BaseException.__getattribute__")) = true by cases expr <;> decide)]
  unfold boundAndCalled
  rw [PySem.F.attrBase_ValueError.ga.bind]
  refine wpAny_bind (wpAny_pure (wpAny_call (codeAny_call_builtin PySem.F.attrBase_ValueError.ga.plain PySem.F.entry_bexc_ga (@check_slot (model prog w) _ _ s "BaseException.__getattribute__" "BaseException" "__getattribute__" (.ref x) [.str name tk] [] _ hk hsplit sub (PySem.F.args_bexc_ga _ _) ?_))))
  refine wpAny_mono h (fun fin s' z => ?_) fun _ _ z => z.elim
  rcases fin with (_ | _ | _ | _) | _ <;> first | exact z | exact z.elim
theorem exc_class {Q : Option Value → Shared → Prop} (X : K.In s.heap) (I : InstAt s.heap x ox C od) (c : XCls K C) (h : Q (some (.ref C)) { s with toks := s.toks + 1 }) : wpAny (model prog w) A (getAttr? (.ref x) "__class__") Q E s := by
  have hf : findObj K C od "__class__" = some (.bind (.builtin "getset_descriptor.__get__") (.builtin "object.__class__")) := by
    obtain ⟨cd, hc, _⟩ := any_some c.hd
    unfold findObj
    rw [hc, Option.bind_some, c.ka, Option.bind_some]
    dsimp only
    rw [c.kn, Option.bind_some]
    dsimp only
    rw [c.kt, Option.bind_some]
  unfold getAttr? getAttrBy?
  refine wpAny_bind (wpAny_mkText (wpAny_bind (wpAny_attempt ?_)))
  have L0 := I.type (M := model prog w)
  have L1 := looks_find (M := model prog w) X I hf
  refine exc_getBy (s := { s with toks := s.toks + 1 }) X I c ?_
  refine wpAny_bind (wpAny_pure (wpAny_bind (wpAny_pure (wpAny_bind (Looks.here (s := { s with toks := s.toks + 1 }) L0 (wpAny_bind (Looks.here (s := { s with toks := s.toks + 1 }) L1 ?_)))))))
  show wpAny _ _ (holding [.builtin "object.__class__"] (call (.builtin "getset_descriptor.__get__") [.builtin "object.__class__", .ref x, .ref C]) >>= ret) _ _ _
  refine wpAny_bind (wpAny_holding (wpAny_call (class_get (s := { s with toks := s.toks + 1 }) (ox := ox) (od := od) X I c.ob ?_)))
  exact wpAny_pure (handed_on rfl (wpAny_pure h))
theorem cls_isType {M : Model} {h : Heap} (X : K.In h) (c : XCls K C) : Looks M h (isType (.ref C)) true := by
  obtain ⟨cls, ic, _⟩ := any_some c.hd
  unfold clsIn at ic
  split at ic
  next at_ =>
    intro A' Q' E' s' k q
    exact wpAny_bind (wpAny_loadPart (part := some headPart) (k _ _ (X _ _ at_)) (wpAny_pure q))
  next => cases ic
theorem kitx_exc (c : XCls K C) : KitX K (.ref x) (.ref C) (fun h => InstAt h x ox C od) where
  ty := fun _ _ _ I => I.type
  it := fun _ _ X _ => cls_isType X c
  ne := fun h tp _ _ _ _ X tup => by
    obtain ⟨cls, ic, _⟩ := any_some c.hd
    cases q : (Value.ref C == .ref tp) with
    | false => rfl
    | true =>
      have e : C = tp := Value.ref.inj (beq_iff_eq.mp q)
      unfold clsIn at ic
      split at ic
      next at_ =>
        have two := (X _ _ at_).symm
        rw [e, tup] at two
        cases two
      next => cases ic
  ca := fun X I k => exc_class X I c k
end
end L2
namespace L2
open PySem PySem.Spec PyProof.Rows PySem.W PySem.Builtin.ObjectAttr
def ExcO (C : Addr) (dx : Option Addr) (a : Addr) : HO := .ext fun h => ∃ t, h.get? a = some { cls := .ref C, dict := dx, data := .fields #[.ref t, .none, .none, .none, .bool false, .none] }
def ExcD (d : Addr) (fs : List (Str × V)) : HO := .ext fun h => fs.length ≤ 100 ∧ ∃ mA, h.Ns1 d mA ∧ (∀ f, RelO (fs.lookup f) (mA f)) ∧ PySem.Within mA (fs.map (·.1))
section
variable {X : Cx} {pins : List (Addr × Obj)} {σ : St} {H : Hp} {s : Shared} {A : Around} {E : Value → Shared → Prop} {a d C : Addr} {dx : Option Addr} {fs : List (Str × V)} {f : Str}
theorem Inv.excAt (I : Inv X pins σ H s) (e : H a = some (ExcO C dx a)) : ∃ t, s.heap.get? a = some { cls := .ref C, dict := dx, data := .fields #[.ref t, .none, .none, .none, .bool false, .none] } := (I.hok a _ e).1
theorem Inv.excDict (I : Inv X pins σ H s) (e : H d = some (ExcD d fs)) : fs.length ≤ 100 ∧ ∃ mA, s.heap.Ns1 d mA ∧ (∀ f, RelO (fs.lookup f) (mA f)) ∧ PySem.Within mA (fs.map (·.1)) := (I.hok d _ e).1
end
end L2
namespace L2
open PySem PySem.Spec PyProof.Rows PySem.W
mutual
inductive Rep (H : Hp) : V → PyData → Prop where
  | non : Rep H .non .none
  | bl (b : Bool) : Rep H (.bl b) (.bool b)
  | int (i : Int) : Rep H (.int i) (.int i)
  | str (x : Str) : Rep H (.str x) (.str x)
  | lst {a : Addr} {xs : List V} {ds : List PyData} : H a = some (.lst xs) → RepAll H xs ds → Rep H (.ref a) (.list ds)
  | tup {a : Addr} {xs : List V} {ds : List PyData} : H a = some (.tup xs) → RepAll H xs ds → Rep H (.ref a) (.tuple ds)
inductive RepAll (H : Hp) : List V → List PyData → Prop where
  | nil : RepAll H [] []
  | cons {x : V} {d : PyData} {xs : List V} {ds : List PyData} : Rep H x d → RepAll H xs ds → RepAll H (x :: xs) (d :: ds)
end
section
variable {X : Cx} {pins : List (Addr × Obj)} {σ : St} {H H' : Hp} {s : Shared}
mutual
theorem Rep.reads (I : Inv X pins σ H s) : ∀ {v : V} {d : PyData} {u : Value}, Rep H v d → RelV v u → ∃ as, Reads s.heap u d as
  | _, _, _, .non, r => by cases r; exact ⟨_, .none⟩
  | _, _, _, .bl b, r => by cases r; exact ⟨_, .bool b⟩
  | _, _, _, .int i, r => by obtain ⟨t, rfl⟩ := r; exact ⟨_, .int i t⟩
  | _, _, _, .str x, r => by obtain ⟨t, rfl⟩ := r; exact ⟨_, .str x t⟩
  | _, _, _, .lst (a := a) (xs := xs) e rs, r => by
    cases r
    obtain ⟨_, its, n, rv, at_⟩ := (show ObjOk X.prog X.w H s.heap a (.lst xs) from I.hok a _ e)
    obtain ⟨as, ra⟩ := RepAll.reads I rs rv
    exact ⟨_, .list at_ rfl rfl ra⟩
  | _, _, _, .tup (a := a) (xs := xs) e rs, r => by
    cases r
    obtain ⟨_, its, rv, ob, at_, hc, n, hd, _⟩ := (show ObjOk X.prog X.w H s.heap a (.tup xs) from I.hok a _ e)
    obtain ⟨as, ra⟩ := RepAll.reads I rs rv
    exact ⟨_, .tuple at_ hc hd ra⟩
theorem RepAll.reads (I : Inv X pins σ H s) : ∀ {vs : List V} {ds : List PyData} {us : List Value}, RepAll H vs ds → Vals vs us → ∃ as, ReadsAll s.heap us ds as
  | _, _, _, .nil, r => by cases r; exact ⟨_, .nil⟩
  | _, _, _, .cons r rs, rv => by
    cases rv with
    | cons q qs =>
      obtain ⟨as, h1⟩ := Rep.reads I r q
      obtain ⟨bs, h2⟩ := RepAll.reads I rs qs
      exact ⟨_, .cons h1 h2⟩
end
mutual
theorem Rep.same : ∀ {v : V} {d : PyData}, Rep H v d → Same H H' → Rep H' v d
  | _, _, .non, _ => .non
  | _, _, .bl b, _ => .bl b
  | _, _, .int i, _ => .int i
  | _, _, .str x, _ => .str x
  | _, _, .lst e rs, k => .lst (k _ _ e) (RepAll.same rs k)
  | _, _, .tup e rs, k => .tup (k _ _ e) (RepAll.same rs k)
theorem RepAll.same : ∀ {vs : List V} {ds : List PyData}, RepAll H vs ds → Same H H' → RepAll H' vs ds
  | _, _, .nil, _ => .nil
  | _, _, .cons r rs, k => .cons (Rep.same r k) (RepAll.same rs k)
end
end
section
variable {X : Cx}
def rEqD : R2 := fun x y H Q => ∃ da db, Rep H x da ∧ Rep H y db ∧ da.canLay0 = true ∧ db.canLay0 = true ∧ da.depth ≤ 60 ∧ Q (.bl (PyData.eqv da db)) H
def rNeD : R2 := fun x y H Q => ∃ da db, Rep H x da ∧ Rep H y db ∧ da.canLay0 = true ∧ db.canLay0 = true ∧ da.depth ≤ 60 ∧ Q (.bl (!PyData.eqv da db)) H
theorem op_eqD (hu : X.A.units + 64 < cLine) : OpR X (compareOp .Eq) rEqD := by
  intro pins s σ H x y v u Q I rx ry h
  obtain ⟨da, db, r1, r2, l1, l2, dp, q⟩ := h
  obtain ⟨as, h1⟩ := r1.reads I rx
  obtain ⟨bs, h2⟩ := r2.reads I ry
  exact SeqAt.compareEq_reads h1 h2 l1 l2 (by omega) ⟨.bl _, H, I, rfl, q⟩
theorem op_neD (hu : X.A.units + 64 < cLine) : OpR X (compareOp .NotEq) rNeD := by
  intro pins s σ H x y v u Q I rx ry h
  obtain ⟨da, db, r1, r2, l1, l2, dp, q⟩ := h
  obtain ⟨as, h1⟩ := r1.reads I rx
  obtain ⟨bs, h2⟩ := r2.reads I ry
  exact SeqAt.compareNe_reads h1 h2 l1 l2 (by omega) ⟨.bl _, H, I, rfl, q⟩
end
end L2
namespace L2
open PySem PySem.Spec PyProof.Rows PySem.W
section
variable {X : Cx} {o value e : Expr} {f : Str} {pos pos' : Pos} {ta tv : TE}
def rIsi (K : Frag) : List V → Hp → VK → Prop := fun xs H Q => ∃ x c t cv b, xs = [x, c] ∧ RelV c cv ∧ (TyOf K H x t ∨ ∃ a C dx, x = .ref a ∧ t = .ref C ∧ H a = some (ExcO C dx a) ∧ XCls K C ∧ (∀ d, dx = some d → ∃ fs, H d = some (ExcD d fs))) ∧ kitOne K t cv = some b ∧ Q (.bl b) H
theorem call_isi : CallR X (.builtin "isinstance") (fun xs H Q => (∃ x, (∃ C, xs = [x, .ref C]) ∨ (∃ T, xs = [x, .ty T])) ∧ rIsi X.K xs H Q) := by
  intro pins s σ H xs us Q I r h
  obtain ⟨hx, x, c, t, cv, b, rfl, rc, ty, e, q⟩ := h
  obtain ⟨u, w', rfl, ru, rw'⟩ := r.two
  have ecv : w' = cv := by
    obtain ⟨x', ⟨C, z⟩ | ⟨T, z⟩⟩ := hx
    · cases z; cases rc; cases rw'; rfl
    · cases z; cases rc; cases rw'; rfl
  subst ecv
  rcases ty with ty | ⟨a, C, dx, rfl, rfl, ea, c, hd⟩
  · exact isinst_ok I ru ty e fun tk => ⟨.bl b, H, I.tok _, rfl, q⟩
  · cases ru
    obtain ⟨t, at_⟩ := I.excAt ea
    cases dx with
    | none =>
      have J : InstAt s.heap a _ C none := ⟨at_, rfl, rfl, True.intro⟩
      exact kia_one (kitx_exc c) I.kIn J e (fun z => nomatch z) fun tk => ⟨.bl b, H, I.tok _, rfl, q⟩
    | some d =>
      obtain ⟨fs, ed⟩ := hd d rfl
      obtain ⟨_, mA, n, _⟩ := I.excDict ed
      obtain ⟨od, hod, _⟩ := lookIn_ns n
      have J : InstAt s.heap a _ C (some od) := ⟨at_, rfl, rfl, hod⟩
      exact kia_one (kitx_exc c) I.kIn J e (fun z => nomatch z) fun tk => ⟨.bl b, H, I.tok _, rfl, q⟩
end
end L2
namespace L2
open PySem PySem.Spec PyProof.Rows PySem.W
section
variable {X : Cx}
theorem strsAre_of : ∀ {ys : List Str} {us : List Value}, Vals (ys.map V.str) us → StrsAre us ys := by
  intro ys
  induction ys with
  | nil => intro us r; cases r; exact .nil
  | cons y ys ih =>
    intro us r
    cases r with
    | cons q qs =>
      obtain ⟨t, rfl⟩ := q
      exact .cons _ _ (ih qs)
def rJoin (K : Frag) : V → List V → Hp → VK → Prop := fun x vs H Q => ∃ (z : Str) (p : Addr) (ys : List Str), x = .str z ∧ vs = [.ref p] ∧ (SqL K H p (ys.map V.str) ∨ SqT K H p (ys.map V.str)) ∧ (ys.map (·.length)).sum + ys.length * z.length ≤ 1000000 ∧ Q (.str (Txt.join z ys)) H
theorem mt_join : MtR X "str.join" (rJoin X.K) := by
  intro pins s σ H x xs v us Q I rx rv h
  obtain ⟨z, p, ys, rfl, rfl, hp, hz, q⟩ := h
  obtain ⟨t, rfl⟩ := rx
  obtain ⟨u, rfl, ru⟩ := rv.one
  cases ru
  rcases hp with hp | hp
  · obtain ⟨its, r, pl, _⟩ := I.list hp
    exact join_list pl.isList (by simpa using strsAre_of r) (by omega) fun t' k => ⟨.str _, H, I.tok _, ⟨_, rfl⟩, q⟩
  · obtain ⟨its, r, pl, _⟩ := I.tuple hp
    exact join_tuple pl (by simpa using strsAre_of r) (by omega) fun t' k => ⟨.str _, H, I.tok _, ⟨_, rfl⟩, q⟩
def rSlS : V → Option Int → Option Int → Hp → VK → Prop := fun x lo hi H Q => ∃ z : Str, x = .str z ∧ z.length ≤ 1000000 ∧ Q (.str (Txt.slice z lo hi)) H
theorem sl_str : SlR X rSlS := by
  intro pins s σ H x v vl vu lo hi sl Q I rx hs pl pu h
  obtain ⟨z, rfl, hz, q⟩ := h
  obtain ⟨t, rfl⟩ := rx
  have fz : (Txt.slice z lo hi).length ≤ sizeLine := Nat.le_trans (Txt.slice_le z _ _) (by rw [sizeLine_eq]; omega)
  refine ⟨"str", _, PySem.F.slot_str_getitem.lookup, typeIs_str _ _ _, ?_⟩
  cases pl with
  | none =>
    cases pu with
    | none => exact wpAny_getItem_str_slice (l := none) (u := none) (st := none) hs rfl (post_val_or_str ⟨fz, fun t' k => ⟨.str _, H, I.tok _, ⟨_, rfl⟩, q⟩⟩)
    | int j tj => exact wpAny_getItem_str_slice (l := none) (u := some (j, tj)) (st := none) hs rfl (post_val_or_str ⟨fz, fun t' k => ⟨.str _, H, I.tok _, ⟨_, rfl⟩, q⟩⟩)
  | int i ti =>
    cases pu with
    | none => exact wpAny_getItem_str_slice (l := some (i, ti)) (u := none) (st := none) hs rfl (post_val_or_str ⟨fz, fun t' k => ⟨.str _, H, I.tok _, ⟨_, rfl⟩, q⟩⟩)
    | int j tj => exact wpAny_getItem_str_slice (l := some (i, ti)) (u := some (j, tj)) (st := none) hs rfl (post_val_or_str ⟨fz, fun t' k => ⟨.str _, H, I.tok _, ⟨_, rfl⟩, q⟩⟩)
end
def CW (Pv : Nat → List V → St → Hp → Prop) (n i m : Nat) (ys : List V) (τ : St) (H : Hp) : Prop := m = n - i ∧ i ≤ n ∧ Pv i ys τ H
theorem cw_next {Pv : Nat → List V → St → Hp → Prop} {n i : Nat} {ys : List V} {τ : St} {H : Hp} (h : i < n) (p : Pv (i + 1) ys τ H) : ∃ m', m' < n - i ∧ CW Pv n (i + 1) m' ys τ H := ⟨n - (i + 1), by omega, rfl, h, p⟩
theorem comp_range {lo : Int} {n : Nat} {g : TG} {ti : TT} {te : TE} {τ0 : St} {Q : VK} {p : Addr} {H1 : Hp} (Pv : Nat → List V → St → Hp → Prop) (h0 : Pv 0 [] τ0 (upd H1 p (.lst []))) (hl : ∀ i ys τ H, Pv i ys τ H → H p = some (.lst ys))
    (hs : ∀ i ys τ H, i < n → Pv i ys τ H → g (.int (lo + i)) τ H fun τ4 H4 => ti τ4 H4 fun b H5 => if b = true then te τ4 H5 fun y H6 => H6 p = some (.lst ys) ∧ ys.length < sizeLine ∧ ∃ m', m' < n - i ∧ CW Pv n (i + 1) m' (ys ++ [y]) τ4 (upd H6 p (.lst (ys ++ [y]))) else ∃ m', m' < n - i ∧ CW Pv n (i + 1) m' ys τ4 H5)
    (hd : ∀ ys τ H, Pv n ys τ H → Q (.ref p) H) : CompW (Itr lo n) g ti te τ0 Q p H1 := by
  refine ⟨CW Pv n, ⟨n, by simp, Nat.zero_le _, h0⟩, ?_⟩
  rintro i m ys τ H ⟨rfl, hi, pv⟩
  refine ⟨hl i ys τ H pv, ?_⟩
  by_cases hlt : i < n
  · refine .inr ⟨hlt, fun x H3 y3 => ?_⟩
    obtain ⟨e3, ex⟩ := y3
    subst e3 ex
    exact hs i ys τ _ hlt pv
  · have e : i = n := by omega
    subst e
    exact .inl ⟨Nat.le_refl _, hd ys τ H pv⟩
theorem comp_list {K : Frag} {a : Addr} {xs : List V} {g : TG} {ti : TT} {te : TE} {τ0 : St} {Q : VK} {p : Addr} {H1 : Hp} (Pv : Nat → List V → St → Hp → Prop) (h0 : Pv 0 [] τ0 (upd H1 p (.lst []))) (hl : ∀ i ys τ H, Pv i ys τ H → H p = some (.lst ys) ∧ SqL K H a xs)
    (hs : ∀ i x ys τ H, xs[i]? = some x → Pv i ys τ H → g x τ H fun τ4 H4 => ti τ4 H4 fun b H5 => if b = true then te τ4 H5 fun y H6 => H6 p = some (.lst ys) ∧ ys.length < sizeLine ∧ ∃ m', m' < xs.length - i ∧ CW Pv xs.length (i + 1) m' (ys ++ [y]) τ4 (upd H6 p (.lst (ys ++ [y]))) else ∃ m', m' < xs.length - i ∧ CW Pv xs.length (i + 1) m' ys τ4 H5)
    (hd : ∀ ys τ H, Pv xs.length ys τ H → Q (.ref p) H) : CompW (Itl K a) g ti te τ0 Q p H1 := by
  refine ⟨CW Pv xs.length, ⟨xs.length, by simp, Nat.zero_le _, h0⟩, ?_⟩
  rintro i m ys τ H ⟨rfl, hi, pv⟩
  obtain ⟨hp, hq⟩ := hl i ys τ H pv
  refine ⟨hp, ?_⟩
  by_cases hlt : i < xs.length
  · refine .inr ⟨⟨xs, xs[i], hq, by simp [hlt]⟩, fun x H3 y3 => ?_⟩
    obtain ⟨e3, ex⟩ := y3
    subst e3
    exact hs i x ys τ _ (ex xs hq) pv
  · have e : i = xs.length := by omega
    subst e
    exact .inl ⟨⟨xs, hq, Nat.le_refl _⟩, hd ys τ H pv⟩
theorem comp_tup {K : Frag} {a : Addr} {xs : List V} {g : TG} {ti : TT} {te : TE} {τ0 : St} {Q : VK} {p : Addr} {H1 : Hp} (Pv : Nat → List V → St → Hp → Prop) (h0 : Pv 0 [] τ0 (upd H1 p (.lst []))) (hl : ∀ i ys τ H, Pv i ys τ H → H p = some (.lst ys) ∧ SqT K H a xs)
    (hs : ∀ i x ys τ H, xs[i]? = some x → Pv i ys τ H → g x τ H fun τ4 H4 => ti τ4 H4 fun b H5 => if b = true then te τ4 H5 fun y H6 => H6 p = some (.lst ys) ∧ ys.length < sizeLine ∧ ∃ m', m' < xs.length - i ∧ CW Pv xs.length (i + 1) m' (ys ++ [y]) τ4 (upd H6 p (.lst (ys ++ [y]))) else ∃ m', m' < xs.length - i ∧ CW Pv xs.length (i + 1) m' ys τ4 H5)
    (hd : ∀ ys τ H, Pv xs.length ys τ H → Q (.ref p) H) : CompW (Itt K a) g ti te τ0 Q p H1 := by
  refine ⟨CW Pv xs.length, ⟨xs.length, by simp, Nat.zero_le _, h0⟩, ?_⟩
  rintro i m ys τ H ⟨rfl, hi, pv⟩
  obtain ⟨hp, hq⟩ := hl i ys τ H pv
  refine ⟨hp, ?_⟩
  by_cases hlt : i < xs.length
  · refine .inr ⟨⟨xs, xs[i], hq, by simp [hlt]⟩, fun x H3 y3 => ?_⟩
    obtain ⟨e3, ex⟩ := y3
    subst e3
    exact hs i x ys τ _ (ex xs hq) pv
  · have e : i = xs.length := by omega
    subst e
    exact .inl ⟨⟨xs, hq, Nat.le_refl _⟩, hd ys τ H pv⟩
def fvOk (N N' : List Str) (ixs : List (Option Nat)) (sc : Scope) : Bool := (List.range ixs.length).all fun j => match ixs[j]? with
  | some (some i) => (match N[i]? with | some x => N'[j]? == some x && sc.names.lookup x == some .free | none => false)
  | _ => true
theorem fv_of {N N' : List Str} {ixs : List (Option Nat)} {sc : Scope} (h : fvOk N N' ixs sc = true) (j i : Nat) (e : ixs[j]? = some (some i)) : ∃ x, N[i]? = some x ∧ N'[j]? = some x ∧ sc.names.lookup x = some .free := by
  have hj : j < ixs.length := (List.getElem?_eq_some_iff.mp e).1
  have z := List.all_eq_true.mp h j (List.mem_range.mpr hj)
  rw [e] at z
  dsimp only at z
  split at z
  · rename_i x q
    obtain ⟨z1, z2⟩ := Bool.and_eq_true_iff.mp z
    exact ⟨x, q, beq_iff_eq.mp z1, beq_iff_eq.mp z2⟩
  · cases z
structure Nm (x : Str) : Prop where
  lo : 1 ≤ x.length
  hi : x.length ≤ 8
  az : ∀ c ∈ x.cps.toList, 97 ≤ c ∧ c ≤ 122
def sign (c : Nat) : Str := ⟨#[c]⟩
theorem fold_signs : ∀ (cs : List Nat) (acc : Array Nat), (cs.map sign).foldl (fun acc p => acc ++ ("" : Str).cps ++ p.cps) acc = acc ++ cs.toArray
  | [], acc => by simp
  | c :: cs, acc => by
    rw [List.map_cons, List.foldl_cons, fold_signs cs]
    have e : ("" : Str).cps = #[] := rfl
    rw [e]
    apply Array.toList_inj.mp
    simp [sign]
theorem join_signs (cs : List Nat) : Txt.join ("" : Str) (cs.map sign) = ⟨cs.toArray⟩ := by
  unfold Txt.join Builtin.Str.glued
  cases cs with
  | nil => rfl
  | cons c cs =>
    rw [List.map_cons]
    show (⟨(cs.map sign).foldl _ (sign c).cps⟩ : Str) = _
    rw [fold_signs]
    apply congrArg Str.mk
    apply Array.toList_inj.mp
    simp [sign]
theorem slice6_mem {z : Str} {c : Nat} (h : c ∈ (Txt.slice z none (some 6)).cps.toList) : c ∈ z.cps.toList := by
  unfold Txt.slice at h
  split at h
  · exact h
  · simp only [List.mem_filterMap] at h
    obtain ⟨i, _, e⟩ := h
    obtain ⟨_, e2⟩ := Array.getElem?_eq_some_iff.mp e
    rw [← e2]; simp
theorem slice6_len (z : Str) : (Txt.slice z none (some 6)).length ≤ 6 := by
  have hi : (Builtin.Str.strSliceIndices none (some 6) 1 z.length).length ≤ 6 := by
    unfold Builtin.Str.strSliceIndices sliceRange
    simp only [show (1 : Int) > 0 by decide, if_true, List.length_map, List.length_range]
    split <;> (try split) <;> omega
  unfold Txt.slice
  split
  · rename_i h
    have e : (Builtin.Str.strSliceIndices none (some 6) 1 z.length).length = z.length := by simpa using h
    omega
  · show (List.filterMap _ _).toArray.size ≤ 6
    rw [List.size_toArray]
    exact Nat.le_trans (List.length_filterMap_le _ _) hi
theorem strApp (a b : Str) : (a ++ b).cps = a.cps ++ b.cps := rfl
theorem cand_nm {z : Str} {c : Nat} (hz : ∀ c ∈ z.cps.toList, 97 ≤ c ∧ c ≤ 122) (hc : 97 ≤ c ∧ c ≤ 122) : Nm (Txt.slice z none (some 6) ++ sign c ++ ("q" : Str)) := by
  have hq : ("q" : Str).cps = #[113] := by decide +kernel
  have hl := slice6_len z
  have e : (Txt.slice z none (some 6) ++ sign c ++ ("q" : Str)).length = (Txt.slice z none (some 6)).length + 2 := by
    show (_ : Array Nat).size = _
    rw [strApp, strApp, hq]
    show (_ ++ #[c] ++ #[113]).size = _
    rw [Array.size_append, Array.size_append]; rfl
  refine ⟨by omega, by omega, fun d hd => ?_⟩
  rw [strApp, strApp, hq] at hd
  have hd' : d ∈ (Txt.slice z none (some 6)).cps.toList ∨ d = c ∨ d = 113 := by
    have : d ∈ ((Txt.slice z none (some 6)).cps ++ #[c] ++ #[113]).toList := hd
    simp at this
    rcases this with h | h | h
    · exact .inl (by simpa using h)
    · exact .inr (.inl h)
    · exact .inr (.inr h)
  rcases hd' with h | h | h
  · exact hz d (slice6_mem h)
  · rw [h]; exact hc
  · rw [h]; omega
theorem cand_inj {p : Str} {c d : Nat} (h : p ++ sign c ++ ("q" : Str) = p ++ sign d ++ ("q" : Str)) : c = d := by
  have h1 := congrArg (fun s : Str => s.cps.toList) h
  simp only [strApp] at h1
  have h2 : p.cps.toList ++ ([c] ++ ("q" : Str).cps.toList) = p.cps.toList ++ ([d] ++ ("q" : Str).cps.toList) := by
    simpa [sign, Array.toList_append] using h1
  have h3 := List.append_cancel_left h2
  simpa using h3
theorem pigeon : ∀ {ys found : List Str}, ys.Nodup → found.length < ys.length → ∃ y ∈ ys, y ∉ found
  | [], found, _, h => by simp at h
  | y :: ys, found, nd, h => by
    obtain ⟨n1, n2⟩ := List.nodup_cons.mp nd
    by_cases hy : y ∈ found
    · have hl := List.length_erase_of_mem hy
      have hp := List.length_pos_of_mem hy
      obtain ⟨z, hz, hn⟩ := pigeon (found := found.erase y) n2 (by rw [hl]; rw [List.length_cons] at h; omega)
      refine ⟨z, List.mem_cons_of_mem _ hz, fun q => hn ?_⟩
      have ne : z ≠ y := fun e => n1 (by rw [← e]; exact hz)
      exact (List.mem_erase_of_ne ne).mpr q
    · exact ⟨y, List.mem_cons_self, hy⟩
end L2
namespace L2
open PySem PySem.Spec PyProof.Rows PySem.W
section
variable {X : Cx}
theorem op_in_K (K : Frag) (h : X.K = K) : OpR X (compareOp .In) (rIn K false) := by subst h; exact op_in_seq
theorem op_notIn_K (K : Frag) (h : X.K = K) : OpR X (compareOp .NotIn) (rIn K true) := by subst h; exact op_notIn_seq
theorem ix_list_K (K : Frag) (h : X.K = K) : IxR X (rIxL K) := by subst h; exact ix_list
theorem ix_tup_K (K : Frag) (h : X.K = K) : IxR X (rIxT K) := by subst h; exact ix_tup
theorem pi_list_K {tg l : Expr} {tl : TE} (K : Frag) (h : X.K = K) (hl : PE X l tl) : PI X tg l (iList K tl) := by subst h; exact pi_list hl
theorem pi_tup_K {tg l : Expr} {tl : TE} (K : Frag) (h : X.K = K) (hl : PE X l tl) : PI X tg l (iTup K tl) := by subst h; exact pi_tup hl
end
theorem inV_strs (x : Str) (ys : List Str) : inV (.str x) (ys.map V.str) = decide (x ∈ ys) := by
  unfold inV
  rw [List.any_map]
  induction ys with
  | nil => simp
  | cons y ys ih =>
    rw [List.any_cons, ih]
    show ((y == x) || decide (x ∈ ys)) = decide (x ∈ y :: ys)
    by_cases h : y = x
    · subst h; simp
    · have h' : (y == x) = false := beq_eq_false_iff_ne.mpr h
      rw [h', Bool.false_or]
      have : x ∈ y :: ys ↔ x ∈ ys := by simp [Ne.symm h]
      simp [this]
theorem flat_strs (ys : List Str) : (ys.map V.str).all flatV = true := by
  rw [List.all_eq_true]
  intro v hv
  obtain ⟨y, _, rfl⟩ := List.mem_map.mp hv
  rfl
end L2
namespace L2
open PySem PySem.Spec PyProof.Rows PySem.W
end L2
namespace L2
open PySem PySem.Spec PyProof.Rows PySem.W
section
variable {X : Cx}
theorem call_allB (hc : X.calm = true) : CallR X (.builtin "all") (fun xs H Q => ∃ (p : Addr) (bs : List Bool), xs = [.ref p] ∧ SqL X.K H p (bs.map V.bl) ∧ Q (.bl (bs.all id)) H) := by
  intro pins s σ H xs us Q I r h
  obtain ⟨p, bs, rfl, hq, q⟩ := h
  obtain ⟨u, rfl, rx⟩ := vals1 r
  cases rx
  obtain ⟨its, rv, pl, hz⟩ := I.list hq
  have hlen := rv.length
  have vals : its = bs.map Value.bool := by
    clear q hq pl hz r hlen
    induction bs generalizing its with
    | nil => cases rv; rfl
    | cons b bs ih =>
      cases rv with
      | cons r1 rt => cases r1; rw [ih _ rt]; rfl
  have new : ∀ b o, s.heap.get? b = some o → b ≠ s.heap.objs.size := fun b o e => Nat.ne_of_lt (Heap.lt_size e)
  obtain ⟨ol, hol, _⟩ := id pl.isList
  refine call_all_walk (wpAny_pyIter_list pl.isList ?_)
  refine ⟨s.heap.objs.size, _, _, _, _, _, fun i => bs.getD i true, rfl, Walks.list (A := X.A.in1) (I.ok.hd hc) s.heap.objs.size p (new p ol hol) its.toArray, ⟨⟨_, Heap.get?_push_size _ rfl, rfl, rfl⟩, pl.isList.at fun o e => Heap.get?_push_of_some _ e⟩, fun i v s2 Q2 E2 hv hq2 => ?_, fun h' tk kp => ?_⟩
  · rw [vals] at hv
    have : bs[i]?.map Value.bool = some v := by simpa using hv
    obtain ⟨b, hb, rfl⟩ := Option.map_eq_some_iff.mp this
    refine wpAny_truthy_bool ?_
    have e : bs.getD i true = b := by rw [List.getD_eq_getElem?_getD, hb]; rfl
    exact e ▸ hq2
  · have fin : (List.range its.toArray.size).all (fun i => bs.getD i true) = bs.all id := by
      have hs : its.toArray.size = bs.length := by rw [vals]; simp
      rw [hs]
      apply Bool.eq_iff_iff.mpr
      simp only [List.all_eq_true, List.mem_range]
      constructor
      · intro h b hb
        obtain ⟨i, hi, rfl⟩ := List.getElem_of_mem hb
        simpa [List.getD, hi] using h i hi
      · intro h i hi
        simpa [List.getD, hi] using h bs[i] (List.getElem_mem hi)
    rw [fin]
    exact ⟨.bl _, H, I.kept (t' := tk) fun b o e => kp b o (by simpa using new b o e) (Heap.get?_push_of_some _ e), rfl, q⟩
end
end L2
namespace L2
open PySem PySem.Spec PyProof.Rows
section
variable {κ : Type} [DecidableEq κ]
def valV (kvs : List (κ × V)) (k : κ) : Option V := (kvs.find? fun kv => decide (kv.1 = k)).map (·.2)
def putK (kvs : List (κ × V)) (k : κ) (v : V) : List (κ × V) :=
  if (kvs.any fun kv => decide (kv.1 = k)) = true then kvs.map (fun kv => if kv.1 = k then (kv.1, v) else kv) else kvs ++ [(k, v)]
theorem valV_pos {p : κ × V} {r : List (κ × V)} {k : κ} (e : p.1 = k) : valV (p :: r) k = some p.2 := by simp [valV, List.find?_cons, e]
theorem valV_neg {p : κ × V} {r : List (κ × V)} {k : κ} (e : ¬ p.1 = k) : valV (p :: r) k = valV r k := by simp [valV, List.find?_cons, e]
theorem valV_any (k : κ) : ∀ kvs : List (κ × V), (kvs.any fun kv => decide (kv.1 = k)) = (valV kvs k).isSome
  | [] => rfl
  | p :: r => by
    rw [List.any_cons]
    by_cases e : p.1 = k
    · simp only [valV_pos e, decide_eq_true e, Bool.true_or, Option.isSome_some]
    · rw [valV_neg e, decide_eq_false e, Bool.false_or]; exact valV_any k r
theorem length_putK (kvs : List (κ × V)) (k : κ) (v : V) : (putK kvs k v).length ≤ kvs.length + 1 := by
  unfold putK
  split
  · rw [List.length_map]; omega
  · rw [List.length_append, List.length_cons, List.length_nil]; omega
theorem RelO.isSome_eq {o : Option V} {u : Option Value} (r : RelO o u) : o.isSome = u.isSome := by
  cases o with
  | none => cases u with
    | none => rfl
    | some _ => exact (show False from r).elim
  | some _ => cases u with
    | none => exact (show False from r).elim
    | some _ => rfl
theorem KV.any {kvs : List (κ × V)} {vs : List (κ × Value)} (r : KV kvs vs) (k : κ) : (kvs.any fun kv => decide (kv.1 = k)) = vs.any fun kv => decide (kv.1 = k) := by
  unfold KV at r
  induction r with
  | nil => rfl
  | cons h t ih => rw [List.any_cons, List.any_cons, ih, h.1]
theorem KV.repl {kvs : List (κ × V)} {vs : List (κ × Value)} (r : KV kvs vs) (k : κ) {y : V} {u : Value} (ry : RelV y u) :
    KV (kvs.map fun kv => if kv.1 = k then (kv.1, y) else kv) (vs.map fun kv => if kv.1 = k then (kv.1, u) else kv) := by
  unfold KV at r ⊢
  induction r with
  | nil => exact .nil
  | @cons p q ps qs h t ih =>
    rw [List.map_cons, List.map_cons]
    refine .cons ?_ ih
    obtain ⟨h1, h2⟩ := h
    by_cases e : p.1 = k
    · rw [if_pos e, if_pos (h1.symm.trans e)]; exact ⟨h1, ry⟩
    · rw [if_neg e, if_neg (fun z => e (h1.trans z))]; exact ⟨h1, h2⟩
theorem KV.put {kvs : List (κ × V)} {vs : List (κ × Value)} (r : KV kvs vs) (k : κ) {y : V} {u : Value} (ry : RelV y u) : KV (putK kvs k y) (stored vs k u) := by
  unfold putK stored
  rw [r.any k]
  by_cases e : (vs.any fun kv => decide (kv.1 = k)) = true
  · rw [if_pos e, if_pos e]; exact r.repl k ry
  · rw [if_neg e, if_neg e]; exact Paired.snoc r ⟨rfl, ry⟩
theorem KV.length {kvs : List (κ × V)} {vs : List (κ × Value)} (r : KV kvs vs) : kvs.length = vs.length := Paired.length r
end
theorem kV_is {P : Program} {w : World} {k : Key} {u : Value} (r : RelV (kV k) u) : (mixKind P w).is k u = true := by
  cases k with
  | inl i => obtain ⟨t, e⟩ := (show ∃ t, u = Value.int i t from r); subst e; exact mixKind_int P w i t
  | inr x => obtain ⟨t, e⟩ := (show ∃ t, u = Value.str x t from r); subst e; exact mixKind_str P w x t
theorem items_are {P : Program} {w : World} : ∀ {ks : List Key} {us : List Value}, Vals (ks.map kV) us → ItemsAre (mixKind P w) ks us
  | [], _, r => by rw [List.map_nil] at r; cases r; exact .nil
  | k :: ks, _, r => by
    rw [List.map_cons] at r
    cases r with
    | cons h t => exact .cons (kV_is h) (items_are t)
abbrev KT (H : Hp) : List (List Key × V) → List (List Key × Addr × Value) → Prop := Paired fun p q => p.1 = q.1 ∧ H q.2.1 = some (.tup (p.1.map kV)) ∧ RelV p.2 q.2.2
theorem KT.val {H : Hp} {kvs : List (List Key × V)} {xs : List (List Key × Addr × Value)} (r : KT H kvs xs) (k : List Key) : RelO (valV kvs k) ((atKey xs k).map (·.2)) := by
  induction r with
  | nil => exact True.intro
  | @cons p q ps qs h t ih =>
    obtain ⟨h1, _, h2⟩ := h
    by_cases e : p.1 = k
    · have e' : q.1 = k := h1.symm.trans e
      have b : atKey (q :: qs) k = some q.2 := by simp [atKey, List.find?_cons, e']
      rw [valV_pos e, b]; exact h2
    · have e' : ¬ q.1 = k := fun z => e (h1.trans z)
      have b : atKey (q :: qs) k = atKey qs k := by simp [atKey, List.find?_cons, e']
      rw [valV_neg e, b]; exact ih
theorem KT.repl {H : Hp} {kvs : List (List Key × V)} {xs : List (List Key × Addr × Value)} (r : KT H kvs xs) (k : List Key) {y : V} {u : Value} (ry : RelV y u) :
    KT H (kvs.map fun kv => if kv.1 = k then (kv.1, y) else kv) (xs.map (putAt k u)) := by
  induction r with
  | nil => exact .nil
  | @cons p q ps qs h t ih =>
    rw [List.map_cons, List.map_cons]
    refine .cons ?_ ih
    obtain ⟨h1, h2, h3⟩ := h
    unfold putAt
    by_cases e : p.1 = k
    · rw [if_pos e, if_pos (h1.symm.trans e)]; exact ⟨h1, h2, ry⟩
    · rw [if_neg e, if_neg (fun z => e (h1.trans z))]; exact ⟨h1, h2, h3⟩
theorem KT.put {H : Hp} {kvs : List (List Key × V)} {xs : List (List Key × Addr × Value)} (r : KT H kvs xs) (k : List Key) {b : Addr} {y : V} {u : Value} (hb : H b = some (.tup (k.map kV))) (ry : RelV y u) :
    KT H (putK kvs k y) (storedH xs k b u) := by
  have e : (kvs.any fun kv => decide (kv.1 = k)) = (atKey xs k).isSome := by
    rw [valV_any, (r.val k).isSome_eq, Option.isSome_map]
  unfold putK storedH
  rw [e]
  by_cases q : (atKey xs k).isSome = true
  · rw [if_pos q, if_pos q]; exact r.repl k ry
  · rw [if_neg q, if_neg q]; exact Paired.snoc r ⟨rfl, hb, ry⟩
theorem KT.keeps {H H' : Hp} {kvs : List (List Key × V)} {xs : List (List Key × Addr × Value)} (r : KT H kvs xs) (ht : ∀ b ys, H b = some (.tup ys) → H' b = some (.tup ys)) : KT H' kvs xs :=
  Paired.mapP r fun _ _ z => ⟨z.1, ht _ _ z.2.1, z.2.2⟩
section
variable {P : Program} {w : World} {H : Hp} {h : Heap} {a : Addr}
theorem rd_of {u : HO} (ok : HOk P w H h) (e : Rd H a u) : ObjOk P w H h a u := e.ok ok
theorem dk_rd {kvs : List (Key × V)} (ok : HOk P w H h) (e : Rd H a (.dK kvs)) : kvs.length ≤ sizeLine ∧ (a == sysModules) = false ∧ ∃ vs, KV kvs vs ∧ h.DictOf (mixKind P w) a vs :=
  show ObjOk P w H h a (.dK kvs) from rd_of ok e
theorem dk_of {kvs : List (Key × V)} (ok : HOk P w H h) (e : H a = some (.dK kvs)) : kvs.length ≤ sizeLine ∧ (a == sysModules) = false ∧ ∃ vs, KV kvs vs ∧ h.DictOf (mixKind P w) a vs := dk_rd ok (.inl e)
theorem key_of {ks : List Key} (ok : HOk P w H h) (e : H a = some (.tup (ks.map kV))) : (tupleKind (mixKind P w)).is h ks a := by
  obtain ⟨_, its, r, o, h1, h2, n, h3, _⟩ := (show ObjOk P w H h a (.tup (ks.map kV)) from ok a _ e)
  exact ⟨o, its.toArray, n, h1, h2, h3, by simpa using items_are r⟩
theorem dt_rd {kvs : List (List Key × V)} (ok : HOk P w H h) (e : Rd H a (.dT kvs)) : kvs.length ≤ sizeLine ∧ (a == sysModules) = false ∧
    ∃ xs, KT H kvs xs ∧ h.DictOfH (tupleKind (mixKind P w)) a xs := by
  obtain ⟨z, y, xs, r, o, es, ep, h1, h2, h3, h4, h5⟩ := (show ObjOk P w H h a (.dT kvs) from rd_of ok e)
  refine ⟨z, y, xs, r, o, es, ep, h1, h2, h3, h4, fun x hx => ?_, h5⟩
  have all : ∀ {l : List (List Key × V)} {m : List (List Key × Addr × Value)}, KT H l m → ∀ x ∈ m, (tupleKind (mixKind P w)).is h x.1 x.2.1 := by
    intro l m q
    induction q with
    | nil => intro x hx; exact nomatch hx
    | @cons p q ps qs hq t ih =>
      intro x hx
      rcases List.mem_cons.mp hx with e | hx
      · subst e
        exact key_of ok (by rw [← hq.1]; exact hq.2.1)
      · exact ih x hx
  exact all r x hx
theorem dt_of {kvs : List (List Key × V)} (ok : HOk P w H h) (e : H a = some (.dT kvs)) : kvs.length ≤ sizeLine ∧ (a == sysModules) = false ∧
    ∃ xs, KT H kvs xs ∧ h.DictOfH (tupleKind (mixKind P w)) a xs := dt_rd ok (.inl e)
end
def DPut (H : Hp) (a : Addr) (y v : V) (H' : Hp) : Prop :=
  (∃ kvs k, H a = some (.dK kvs) ∧ y = kV k ∧ kvs.length < sizeLine ∧ H' = upd H a (.dK (putK kvs k v))) ∨
  ∃ kvs k b, H a = some (.dT kvs) ∧ y = .ref b ∧ H b = some (.tup (k.map kV)) ∧ kvs.length < sizeLine ∧ H' = upd H a (.dT (putK kvs k v))
theorem DPut.k {H : Hp} {a : Addr} {kvs : List (Key × V)} {k : Key} {v : V} (e : H a = some (.dK kvs)) (hl : kvs.length < sizeLine) : DPut H a (kV k) v (upd H a (.dK (putK kvs k v))) := .inl ⟨kvs, k, e, rfl, hl, rfl⟩
section
variable {X : Cx} {pins : List (Addr × Obj)} {σ : St} {H : Hp} {s : Shared} {a : Addr} {y v : V} {u r : Value} {o : Option V} {A : Around} {E : Value → Shared → Prop}
theorem Inv.big (I : Inv X pins σ H s) : sysModules < s.heap.objs.size := by
  have h : mainGlobals < s.heap.objs.size := (I.mod.glob.keeps I.bk).lt
  exact Nat.lt_trans (by decide) h
theorem d_write {h' : Heap} {t' : Nat} {ob : HO} (I : Inv X pins σ H s) (mu : Mut (H a)) (hs : Heap.SameBut a s.heap h') (he : ∃ q, h'.get? a = some q) (new : ObjOk X.prog X.w (upd H a ob) h' a ob) :
    Inv X pins σ (upd H a ob) { s with heap := h', toks := t' } :=
  I.write (x := a) (e := a) mu (.inl rfl) (fun b q hb z => (hs.2 b hb).trans z) he new
theorem dk_new {P : Program} {w : World} {H' : Hp} {h' : Heap} {kvs : List (Key × V)} {vs : List (Key × Value)} (z : kvs.length ≤ sizeLine) (hd : (a == sysModules) = false) (rel : KV kvs vs) (dd : h'.DictOf (mixKind P w) a vs) :
    ObjOk P w H' h' a (.dK kvs) := ⟨z, hd, vs, rel, dd⟩
theorem d_setItem {H' : Hp} {Q : Unit → Shared → Prop} (hu : A.units + 1 < cLine) (I : Inv X pins σ H s) (g : DPut H a y v H') (ry : RelV y u) (rv : RelV v r) (h : ∀ s', Inv X pins σ H' s' → Q () s') :
    wpAny (model X.prog X.w) A (setItem (.ref a) u r) Q E s := by
  rcases g with ⟨kvs, k, e, ey, l, eH⟩ | ⟨kvs, k, b, e, ey, eb, l, eH⟩
  · subst ey eH
    obtain ⟨z, hd, vs, rel, dd⟩ := dk_of I.hok e
    have hz : vs.length ≤ sizeLine := by rw [← rel.length]; exact z
    have hl : (putK kvs k v).length ≤ sizeLine := by have := length_putK kvs k v; omega
    refine wpAny_setItem_pairs (hsz := hz) (kV_is ry) dd fun h' dd' hs => h _ ?_
    have he : ∃ q, h'.get? a = some q := let ⟨q, _, _, hq, _⟩ := dd'; ⟨q, hq⟩
    exact d_write I (by rw [e]; exact True.intro) hs he (dk_new hl hd (rel.put k rv) dd')
  · subst ey eH
    cases (show u = Value.ref b from ry)
    obtain ⟨z, hd, xs, rel, dd⟩ := dt_of I.hok e
    have hz : xs.length ≤ sizeLine := by rw [← Paired.length rel]; exact z
    have hl : (putK kvs k v).length ≤ sizeLine := by have := length_putK kvs k v; omega
    refine wpAny_setItem_heap (hsz := hz) (tupleKind_room_in1 hu) (key_of I.hok eb) dd fun h' dd' hs => h _ ?_
    obtain ⟨q, es, ep, hq, h2, h3, h4, _, h5⟩ := dd'
    refine d_write I (by rw [e]; exact True.intro) hs ⟨q, hq⟩ ⟨hl, hd, _, (rel.put k eb rv).keeps fun c ys ec => ?_, q, es, ep, hq, h2, h3, h4, h5⟩
    rw [upd_ne (ne_of ec e (fun z => nomatch z))]
    exact ec
end
def sDPut (td ty tv : TE) : TS := fun D σ H => tv σ H fun v H1 => td σ H1 fun x H2 => ty σ H2 fun y H3 => ∃ a H4, x = .ref a ∧ DPut H3 a y v H4 ∧ D.nx σ H4
section
variable {X : Cx} {o i e value : Expr} {pos pos' tpos : Pos} {td ty tv : TE}
theorem ps_dput (hu : X.A.units + 1 < cLine) (ho : PE X o td) (hi : PE X i ty) (hv : PE X value tv) (hs : swapsWith value (some (.Subscript o i pos')) pos.line X.env = pure false) :
    PS X (.Assign [.Subscript o i pos'] value pos) (sDPut td ty tv) := by
  intro pins s σ H D I h
  refine wpAny_Assign_Subscript (thn (hv pins s σ H _ I h) fun r s1 ⟨v, H1, I1, rv, q1⟩ => thn (ho pins s1 σ H1 _ I1 q1) fun u s2 ⟨x, H2, I2, rx, q2⟩ => thn (hi pins s2 σ H2 _ I2 q2) fun iv s3 ⟨y, H3, I3, ry, a, H4, ex, g, q3⟩ => ?_) hs
  subst ex
  obtain rfl : u = Value.ref a := rx
  exact d_setItem hu I3 g ry rv fun s4 I4 => ⟨σ, H4, I4, q3⟩
end
theorem dk_empty {P : Program} {w : World} {H : Hp} (h : Heap) (hb : sysModules < h.objs.size) : ObjOk P w H (h.push { cls := .type "dict", data := .dict #[] }) h.objs.size (.dK []) :=
  ⟨Nat.zero_le _, beq_eq_false_iff_ne.mpr (Ne.symm (Nat.ne_of_lt hb)), [], .nil, Heap.DictOf.new h⟩
def tDNewK : TE := fun _ H Q => ∀ p, H p = none → Q (.ref p) (upd H p (.dK []))
section
variable {X : Cx} {pos : Pos}
theorem pe_dnewK : PE X (.Dict [] [] pos) tDNewK := fun pins s σ H Q I h =>
  wpAny_Dict_empty ⟨.ref s.heap.objs.size, _, I.laid (a := s.heap.objs.size) (o := .dK []) (t' := s.toks) (fun _ _ q => Heap.get?_push_of_some _ q) (Nat.le_refl _) (dk_empty s.heap I.big), rfl, h _ (I.hok.fresh (Nat.le_refl _))⟩
end
end L2
namespace HT
open PySem PyProof.Rows
section
variable {prog : Program} {w : World} {A : Around} {E : Value → Shared → Prop} {s : Shared}
theorem getItem_tuple_all {t sl : Addr} {items : Array Value} {vl vu : Value} {lo hi : Option Int} {Q : Value → Shared → Prop} (ht : IsTup s.heap t items) (hs : s.heap.IsSliceOf sl vl vu .none) (pl : IsPart vl lo) (pu : IsPart vu hi)
    (h0 : sIx items.size 0 lo = 0) (h1 : sIx items.size items.size hi = items.size) (h : Q (.ref t) s) : wpAny (model prog w) A (getItem (.ref t) (.ref sl)) Q E s := by
  obtain ⟨os, hos, hcs, hds⟩ := id hs
  have hTs : s.TypeIs (.ref sl) "slice" := ⟨os, hos, hcs⟩
  unfold getItem
  try with_reducible refine wpAny_holding ?_
  first | refine wpAny_bind (wpAny_pure ?_) | skip
  refine wpAny_bind (wpAny_sequenceKey ht.typeIs (by decide) ?_)
  refine wpAny_bind (wpAny_callSpecial?_slot (name := Str.ofString "__getitem__") ht.typeIs PyProof.Rows.slot_tuple_getitem
    (wpAny_call_entry PyProof.Rows.slot_tuple_getitem ht.typeIs entry_tuple_getitem ?_ (args_tuple_getitem _ _)))
  show wpAny _ _ (Builtin.Tuple.tupleItemsOf (.ref t) >>= _) _ _ s
  refine wpAny_bind (tupleItemsOf_ ht ?_)
  refine wpAny_bind (wpAny_typeOf hTs ?_)
  rw [if_pos (by decide)]
  refine wpAny_bind (sliceApplied_gen hs pl pu ?_)
  rw [h0, h1]
  have hyes : ((((0 : Nat) : Int) == 0 && (1 : Int) == 1 && (items.size - 0) == items.size) = true) := by simp
  show wpAny _ _ (if ((((0 : Nat) : Int) == 0 && (1 : Int) == 1 && (items.size - 0) == items.size) = true) then _ else _) _ _ s
  rw [if_pos hyes]
  refine wpAny_bind (wpAny_bind (wpAny_typeOf ht.typeIs (wpAny_pure ?_)))
  rw [if_pos (by decide)]
  exact wpAny_bind (wpAny_rule (wpAny_pure ⟨_, rfl, wpAny_pure h⟩))
theorem cat_tup0 {t b : Addr} {ws : List Value} {Q : Value → Shared → Prop} (ht : IsTup s.heap t ([] : List Value).toArray) (hb : IsTup s.heap b ws.toArray) (h : Q (.ref b) s) : wpAny (model prog w) A (binaryOp .Add (.ref t) (.ref b)) Q E s := by
  obtain ⟨⟨cls, dd, data, sl⟩, ho, hc, n, hd⟩ := id ht
  obtain ⟨⟨cls2, dd2, data2, sl2⟩, ho2, hc2, n2, hd2⟩ := id hb
  obtain rfl : cls = .type "tuple" := hc
  obtain rfl : data = .seq #[] n := hd
  obtain rfl : cls2 = .type "tuple" := hc2
  obtain rfl : data2 = .seq ws.toArray n2 := hd2
  exact concat_meets ⟨_, ho, rfl⟩ ⟨_, ho2, rfl⟩ noFill_tuple_add seq_tuple_add PySem.F.slot_tuple_add PySem.F.entry_tuple_add (PySem.F.args_tuple_add_2 _ _) (tuple_addW0 t b #[] ws.toArray n n2 dd dd2 sl sl2 rfl) ⟨ho, ho2, h⟩
end
end HT
namespace L2
open PySem PySem.Spec PyProof.Rows PySem.W
theorem same_one {H : Hp} {q : Addr} {o : HO} (hq : H q = none) : Same H (upd H q o) := fun b u e => by rw [upd_ne (ne_of_none e hq)]; exact e
section
variable {X : Cx}
def rSlA : V → Option Int → Option Int → Hp → VK → Prop := fun x lo hi H Q => ∃ a xs, x = .ref a ∧ H a = some (.tup xs) ∧ ∀ p H', Same H H' → H' p = some (.tup (cutV xs lo hi)) → Q (.ref p) H'
theorem sl_tupA : SlR X rSlA := by
  intro pins s σ H x v vl vu lo hi sl Q I rx hs pl pu h
  obtain ⟨a, xs, rfl, hx, q⟩ := h
  by_cases hw : HT.sIx xs.length 0 lo = 0 ∧ HT.sIx xs.length xs.length hi = xs.length
  · cases rx
    obtain ⟨its, r, ht, hz⟩ := I.tuple (SqT.of hx)
    have hlen : its.toArray.size = xs.length := by rw [List.size_toArray]; exact r.length.symm
    refine ⟨"tuple", _, PyProof.Rows.slot_tuple_getitem.lookup, ht.typeIs, HT.getItem_tuple_all ht hs pl pu (by rw [hlen]; exact hw.1) (by rw [hlen]; exact hw.2) ?_⟩
    refine ⟨.ref a, H, I, rfl, q a H (Same.refl _) ?_⟩
    unfold cutV
    rw [hw.1, hw.2, List.drop_zero, Nat.sub_zero, List.take_length]
    exact hx
  · exact sl_tup pins s σ H (.ref a) v vl vu lo hi sl Q I rx hs pl pu ⟨a, xs, rfl, SqT.of hx, hw, fun p hp => q p _ (same_one hp) upd_same⟩
def rCatA : R2 := fun x y H Q => ∃ a b xs ys, x = .ref a ∧ y = .ref b ∧ H a = some (.tup xs) ∧ H b = some (.tup ys) ∧ xs.length + ys.length ≤ sizeLine ∧ ∀ p H', Same H H' → H' p = some (.tup (xs ++ ys)) → Q (.ref p) H'
theorem op_catA : OpR X (binaryOp .Add) rCatA := by
  intro pins s σ H x y v u Q I rx ry h
  obtain ⟨a, b, xs, ys, rfl, rfl, ha, hb, hz, q⟩ := h
  cases xs with
  | nil =>
    cases rx
    cases ry
    obtain ⟨its, r1, p1, _⟩ := I.tuple (SqT.of ha)
    obtain ⟨its2, r2, p2, _⟩ := I.tuple (SqT.of hb)
    cases r1
    exact HT.cat_tup0 p1 p2 ⟨.ref b, H, I, rfl, q b H (Same.refl _) hb⟩
  | cons z xs => exact op_catT pins s σ H (.ref a) (.ref b) v u Q I rx ry ⟨a, b, _, ys, rfl, rfl, SqT.of ha, SqT.of hb, by simp, hz, fun e => q a H (Same.refl _) (by rw [e, List.append_nil]; exact ha), fun _ p hp => q p _ (same_one hp) upd_same⟩
end
end L2
namespace HT
open PySem PyProof.Rows
section
open PySem.SeqAt
open PySem.AutoSeq1 (wpAny_loadPart')
open PySem.MeetsSeq PySem.MeetsSeq2 PySem.MeetsSeq3
end
end HT
namespace HT
open PySem PyProof.Rows
end HT
namespace L2
open PySem PySem.Spec PyProof.Rows PySem.W HT
end L2
namespace HT
open PySem PyProof.Rows
end HT
namespace HT
open PySem PyProof.Rows
open PySem.AutoSeq1 (wpAny_loadPart')
end HT
namespace L2
open PySem PySem.Spec PyProof.Rows PySem.W HT
end L2
namespace HT
open PySem PyProof.Rows
end HT
namespace HT
open PySem PyProof.Rows PySem.W
end HT
namespace HT
open PySem PyProof.Rows PySem.W L2
end HT
namespace HT
open PySem PyProof.Rows PySem.W L2
end HT
namespace HT
open PySem PyProof.Rows
section
open PySem.SeqAt
open PySem.AutoSeq1 (wpAny_loadPart')
open PySem.MeetsSeq PySem.MeetsSeq2 PySem.MeetsSeq3
end
end HT
namespace L2
open PySem PySem.Spec PyProof.Rows PySem.W HT
end L2
namespace L2
open PySem PySem.Spec PyProof.Rows PySem.W HT
section
variable {X : Cx}
theorem call_anyB (hc : X.calm = true) : CallR X (.builtin "any") (fun xs H Q => ∃ (p : Addr) (bs : List Bool), xs = [.ref p] ∧ SqL X.K H p (bs.map V.bl) ∧ Q (.bl (bs.any id)) H) := by
  intro pins s σ H xs us Q I r h
  obtain ⟨p, bs, rfl, hq, q⟩ := h
  obtain ⟨u, rfl, rx⟩ := vals1 r
  cases rx
  obtain ⟨its, rv, pl, hz⟩ := I.list hq
  have hlen := rv.length
  have vals : its = bs.map Value.bool := by
    clear q hq pl hz r hlen
    induction bs generalizing its with
    | nil => cases rv; rfl
    | cons b bs ih =>
      cases rv with
      | cons r1 rt => cases r1; rw [ih _ rt]; rfl
  have new : ∀ b o, s.heap.get? b = some o → b ≠ s.heap.objs.size := fun b o e => Nat.ne_of_lt (Heap.lt_size e)
  obtain ⟨ol, hol, _⟩ := id pl.isList
  refine call_any_walk (wpAny_pyIter_list pl.isList ?_)
  refine ⟨s.heap.objs.size, _, _, _, _, _, fun i => bs.getD i false, rfl, Walks.list (A := X.A.in1) (I.ok.hd hc) s.heap.objs.size p (new p ol hol) its.toArray, ⟨⟨_, Heap.get?_push_size _ rfl, rfl, rfl⟩, pl.isList.at fun o e => Heap.get?_push_of_some _ e⟩, fun i v s2 Q2 E2 hv hq2 => ?_, fun h' tk kp => ?_⟩
  · rw [vals] at hv
    have : bs[i]?.map Value.bool = some v := by simpa using hv
    obtain ⟨b, hb, rfl⟩ := Option.map_eq_some_iff.mp this
    refine wpAny_truthy_bool ?_
    have e : bs.getD i false = b := by rw [List.getD_eq_getElem?_getD, hb]; rfl
    exact e ▸ hq2
  · have fin : (List.range its.toArray.size).any (fun i => bs.getD i false) = bs.any id := by
      have hs : its.toArray.size = bs.length := by rw [vals]; simp
      rw [hs]
      apply Bool.eq_iff_iff.mpr
      simp only [List.any_eq_true, List.mem_range]
      constructor
      · rintro ⟨i, hi, e⟩
        exact ⟨bs[i], List.getElem_mem hi, by simpa [List.getD, hi] using e⟩
      · rintro ⟨b, hb, e⟩
        obtain ⟨i, hi, rfl⟩ := List.getElem_of_mem hb
        exact ⟨i, hi, by simpa [List.getD, hi] using e⟩
    rw [fin]
    exact ⟨.bl _, H, I.kept (t' := tk) fun b o e => kp b o (by simpa using new b o e) (Heap.get?_push_of_some _ e), rfl, q⟩
def Its (x : Str) : It := ⟨fun i _ => i < x.cps.size, fun i H v H' => H' = H ∧ ∃ c, x.cps[i]? = some c ∧ v = .str ⟨#[c]⟩, fun i _ => x.cps.size ≤ i⟩
theorem turn_str {P : Program} {w : World} {K : Frag} {tg : Expr} (it : Addr) (x : Str) (t : Tok) (T : String) (hT : ["enumerate", "zip", "dict_itemiterator", "dict_reverseitemiterator", "odict_iterator", "itertools.zip_longest", "itertools.pairwise"].contains T = false)
    (W : ∀ A' : Around, A'.handled = none → Walks P w A' it [it] [it] x.cps.size (SignAt x) (fun i h => h.IsStrIter it T x t i))
    (hs : ∀ (A : Around) (i : Nat) (s : Shared) (Q : Value → Shared → Prop) (E : Value → Shared → Prop), s.heap.IsStrIter it T x t i → Q (.ref it) s → wpAny (model P w) A (pyIter (.ref it)) Q E s) : Turn P w K tg (Its x) [it] it (fun i h => i ≤ x.cps.size ∧ h.IsStrIter it T x t i) where
  mem := by simp
  obj := fun i h st b hb => by
    obtain rfl : b = it := by simpa using hb
    obtain ⟨_, o, e, c, d⟩ := st
    exact ⟨o, e, fun v z => by rw [d] at z; cases z⟩
  keep := fun i h h' st k => by
    obtain ⟨l, o, e, r⟩ := st
    exact ⟨l, o, k it (by simp) _ e, r⟩
  item := by
    intro X hP hw hK hc i pins s σ H E I hf st hg
    subst hP hw hK
    obtain ⟨f0, f1, f2, f3, f4, f5⟩ := hf it (by simp)
    refine (W X.A (I.ok.hd hc)).item i s _ _ hg st.2 fun v h' tk hv st' kk => ?_
    obtain ⟨c, u, hcx, rfl⟩ := hv
    have I1 : Inv X pins σ H { s with heap := h', toks := tk } := I.turned (fun b o hb e => kk b o (by simpa using hb) e) f0 f1 f3 f4 f5
    obtain ⟨o, e, cl, d⟩ := id st'
    exact ⟨_, rfl, go_of (s := { s with heap := h', toks := tk }) e cl d hT ⟨.str ⟨#[c]⟩, H, I1, ⟨u, rfl⟩, ⟨rfl, c, hcx, rfl⟩, ⟨hg, st'⟩, fun b hb => (hf b hb).1⟩⟩
  done := by
    intro X hP hw hK hc i pins s σ H E I hf st hg
    subst hP hw hK
    obtain ⟨f0, f1, f2, f3, f4, f5⟩ := hf it (by simp)
    have ei : i = x.cps.size := Nat.le_antisymm st.1 hg
    subst ei
    exact (W X.A (I.ok.hd hc)).done s _ _ st.2 fun h' tk kk => ⟨rfl, I.turned (fun b o hb e => kk b o (by simpa using hb) e) f0 f1 f3 f4 f5⟩
  self := fun A i s Q E st h => hs A i s Q E st.2 h
def iStr (te : TE) : TI := fun σ H R => te σ H fun v H1 => ∃ x, v = .str x ∧ R (Its x) H1
theorem pi_str {tg e : Expr} {te : TE} (he : PE X e te) : PI X tg e (iStr te) := by
  intro pins s σ H R I h
  refine thn (he pins s σ H _ I h) fun v s1 ⟨y, H1, I1, r1, x, ey, q⟩ => ?_
  subst ey
  obtain ⟨t, rfl⟩ := r1
  have I2 : ∀ o : Obj, Inv X pins σ H1 { s1 with heap := s1.heap.push o } := fun o => I1.kept (t' := s1.toks) fun b ob z => Heap.get?_push_of_some _ z
  have fp : ∀ b ∈ [s1.heap.objs.size], FpOk X pins H1 b := fun b hb => by
    obtain rfl : b = s1.heap.objs.size := by simpa using hb
    exact I1.fpOk (Nat.le_refl _) (I1.hok.fresh (Nat.le_refl _))
  cases ha : x.cps.all (· < 128)
  · refine wpAny_pyIter_wide ha ?_
    exact ⟨s1.heap.objs.size, [s1.heap.objs.size], _, _, H1, rfl, I2 _, turn_str s1.heap.objs.size x t "str_iterator" (by decide) (fun A' hA => Walks.strWide hA _ x t) (fun _ _ _ _ _ st h => wpAny_pyIter_striter_wide st h), ⟨Nat.zero_le _, _, Heap.get?_push_size _ rfl, rfl, rfl⟩, fp, q⟩
  · refine wpAny_pyIter_ascii ha ?_
    exact ⟨s1.heap.objs.size, [s1.heap.objs.size], _, _, H1, rfl, I2 _, turn_str s1.heap.objs.size x t "str_ascii_iterator" (by decide) (fun A' hA => Walks.strAscii hA _ x t) (fun _ _ _ _ _ st h => wpAny_pyIter_striter_ascii st h), ⟨Nat.zero_le _, _, Heap.get?_push_size _ rfl, rfl, rfl⟩, fp, q⟩
theorem comp_str {x : Str} {g : TG} {ti : TT} {te : TE} {τ0 : St} {Q : VK} {p : Addr} {H1 : Hp} (Pv : Nat → List V → St → Hp → Prop) (h0 : Pv 0 [] τ0 (upd H1 p (.lst []))) (hl : ∀ i ys τ H, Pv i ys τ H → H p = some (.lst ys))
    (hs : ∀ i c ys τ H, x.cps[i]? = some c → Pv i ys τ H → g (.str ⟨#[c]⟩) τ H fun τ4 H4 => ti τ4 H4 fun b H5 => if b = true then te τ4 H5 fun y H6 => H6 p = some (.lst ys) ∧ ys.length < sizeLine ∧ ∃ m', m' < x.cps.size - i ∧ CW Pv x.cps.size (i + 1) m' (ys ++ [y]) τ4 (upd H6 p (.lst (ys ++ [y]))) else ∃ m', m' < x.cps.size - i ∧ CW Pv x.cps.size (i + 1) m' ys τ4 H5)
    (hd : ∀ ys τ H, Pv x.cps.size ys τ H → Q (.ref p) H) : CompW (Its x) g ti te τ0 Q p H1 := by
  refine ⟨CW Pv x.cps.size, ⟨x.cps.size, by simp, Nat.zero_le _, h0⟩, ?_⟩
  rintro i m ys τ H ⟨rfl, hi, pv⟩
  refine ⟨hl i ys τ H pv, ?_⟩
  by_cases hlt : i < x.cps.size
  · refine .inr ⟨hlt, fun v H3 y3 => ?_⟩
    obtain ⟨e3, c, hc, rfl⟩ := y3
    subst e3
    exact hs i c ys τ _ hc pv
  · have e : i = x.cps.size := by omega
    subst e
    exact .inl ⟨Nat.le_refl _, hd ys τ H pv⟩
end
end L2
namespace HT
open PySem PyProof.Rows PySem.W L2
end HT
namespace HT
open PySem PyProof.Rows PySem.W L2
end HT
namespace L2
open PySem PySem.Spec PyProof.Rows PySem.W HT
section
variable {X : Cx}
theorem op_le_str : OpR X (compareOp .LtE) (fun x y H Q => ∃ i j, x = .str i ∧ y = .str j ∧ Q (.bl (!decide (j.cps.toList < i.cps.toList))) H) := by
  intro pins s σ H x y v u Q I rx ry ⟨i, j, ex, ey, q⟩
  subst ex ey
  obtain ⟨t, rfl⟩ := rx
  obtain ⟨t', rfl⟩ := ry
  exact P.le_str (fin_bl I q rfl)
end
end L2
namespace L2
open PySem PySem.W
section
variable {X : Cx}
def CDivW (_ j : Int) : Prop := 0 < j ∧ j < 4611686018427387904
theorem op_fdivW : OpR X (binaryOp .FloorDiv) (rI CDivW fun i j => .int (i / j)) := opI fun i j _ _ _ _ _ hc q => by
  have h1 : (0 : Int) < j := hc.1
  have h2 : j < 4611686018427387904 := hc.2
  refine PyProof.Rows.floordiv_int (by omega) (by rw [Int.fdiv_eq_ediv_of_nonneg i (by omega)]; exact q) (.inl (PyProof.noPylong_of_log2 ?_))
  have h3 : j.natAbs < 2 ^ 62 := by omega
  have h4 : j.natAbs.log2 < 62 := (Nat.log2_lt (by omega)).mpr h3
  omega
end
end L2
namespace L2
open PySem PySem.W PySem.Calls PyProof.Rows
section
variable {X : Cx}
theorem obj_is {P : Program} {w : World} {H : Hp} {h : Heap} {a : Addr} {o : HO} (x : ObjOk P w H h a o) : ∃ q, h.get? a = some q := by
  cases o with
  | lst xs => obtain ⟨_, _, _, _, e⟩ := x; exact ⟨_, e⟩
  | tup xs => obtain ⟨_, _, _, q, e, _⟩ := x; exact ⟨q, e⟩
  | dK kvs => obtain ⟨_, _, _, _, o, _, _, e, _⟩ := x; exact ⟨o, e⟩
  | dT kvs => obtain ⟨_, _, _, _, o, _, _, e, _⟩ := x; exact ⟨o, e⟩
  | set S n => obtain ⟨o, _, _, _, e, _⟩ := x; exact ⟨o, e⟩
  | ins C dx fs => obtain ⟨_, _, _, e, _⟩ := x; exact ⟨_, e⟩
  | own y => exact x
  | xd fs => obtain ⟨_, ⟨o, _, _, e, _⟩, _⟩ := x; exact ⟨o, e⟩
  | rng lo hi => obtain ⟨_, _, _, e⟩ := x; exact ⟨_, e⟩
  | frz q u => exact ⟨q, x.1⟩
  | tbl ps => exact ⟨_, x⟩
  | met f y => exact ⟨_, x⟩
  | ext φ => exact x.2.1
theorem Inv.sorted {pins : List (Addr × Obj)} {σ : List (Option V)} {H : Hp} {s : Shared} {h' : Heap} {m : Str → Option Value} {D : Addr} {ys : List V} {out : List Value} {c : Nat} {t' : Nat} (I : Inv X pins σ H s) (hm : s.heap.Ns X.env.locals m) (hm' : h'.Ns X.env.locals m)
    (k : ∀ b o, b ≠ X.env.locals → s.heap.get? b = some o → h'.get? b = some o) (hD : ∀ b o, s.heap.get? b = some o → b ≠ D) (new : h'.get? D = some (listOf out.toArray c)) (r : Vals ys out) (hz : ys.length ≤ sizeLine) :
    H D = none ∧ Inv X pins σ (upd H D (.lst ys)) { s with heap := h', toks := t' } := by
  have there : ∀ b u, H b = some u → ∃ o, s.heap.get? b = some o := fun b u e => obj_is (I.hok b u e)
  have hn : H D = none := by
    cases q : H D with
    | none => rfl
    | some u =>
      obtain ⟨o, e⟩ := there D u q
      exact absurd rfl (hD D o e)
  have neD : ∀ b u, H b = some u → b ≠ D := fun b u e z => by rw [z, hn] at e; cases e
  have neL : ∀ b u, H b = some u → b ≠ X.env.locals := fun b u e z => by rw [z, I.free] at e; cases e
  refine ⟨hn, I.step (g' := s.gens) (d' := s.drawn) (ch := []) (fun _ z => nomatch z) (fun b o hL _ _ e _ => k b o hL e) (fun b o hL _ _ e _ => ⟨o.slots, k b o hL e⟩) (fun b o _ e n => by rw [upd_ne (hD b o e)]; exact n) (fun b o _ e => ?_)
    (fun b xs e => by rw [upd_ne (neD b _ e)]; exact e) (fun b o u e => by rw [upd_ne (neD b _ e)]; exact e) (fun b ps e => ⟨#[], by rw [upd_ne (neD b _ e), e]; simp⟩) (fun m' q => ?_) (fun b u e => ?_) I.bare⟩
  · by_cases hb : b = X.env.locals
    · obtain ⟨o', es, ep, ho, _⟩ := hm'
      exact ⟨o', by rw [hb]; exact ho⟩
    · exact ⟨o, k b o hb e⟩
  · obtain ⟨o, es, ep, ho, hd, hs, hf⟩ := hm
    obtain ⟨o2, es2, ep2, ho2, hd2, hs2, hf2⟩ := q
    rw [ho] at ho2; cases ho2
    rw [hd] at hd2; cases hd2
    have : m' = m := funext fun x => (hf2 x).symm.trans (hf x)
    rw [this]; exact hm'
  · by_cases hb : b = D
    · subst hb
      rw [upd_same] at e; cases e
      exact ⟨hz, out, c, r, new⟩
    · rw [upd_ne hb] at e
      refine (I.hok b u e).stay (fun a v hc q => k a v ?_ q) (fun a q => by rw [upd_ne (neD a _ q)]; exact q) fun a xs q => by rw [upd_ne (neD a _ q)]; exact q
      rcases hc with z | z
      · rw [z]; exact neL b u e
      · exact neL a _ z
end
end L2
namespace L2
open PySem PySem.W PySem.Spec PyProof.Rows
end L2
namespace L2
open PySem PySem.W PySem.Spec PyProof.Rows
def leS (a b : Str) : Prop := a.cps.toList ≤ b.cps.toList
theorem leS_anti {a b : Str} (h1 : leS a b) (h2 : leS b a) : a = b := by
  have e : a.cps.toList = b.cps.toList := List.le_antisymm h1 h2
  cases a; cases b
  exact congrArg Str.mk (Array.toList_inj.mp e)
theorem rising_all : ∀ {r : List Str} {p : Str}, risingS p r = true → (∀ x ∈ r, leS p x) ∧ r.Pairwise leS
  | [], p, _ => ⟨by simp, .nil⟩
  | x :: r, p, h => by
    obtain ⟨h1, h2⟩ := Bool.and_eq_true_iff.mp (show (!ltCps x.cps.toList p.cps.toList && risingS x r) = true from h)
    obtain ⟨h3, h4⟩ := rising_all h2
    have hp : leS p x := by
      rw [ltCps_eq] at h1
      have : ¬ (x.cps.toList < p.cps.toList) := by simpa using h1
      exact this
    refine ⟨fun y hy => ?_, .cons h3 h4⟩
    rcases List.mem_cons.mp hy with rfl | hy
    · exact hp
    · exact List.le_trans hp (h3 y hy)
theorem sortedS_pw {l : List Str} (h : sortedS l = true) : l.Pairwise leS := by
  cases l with
  | nil => exact .nil
  | cons x r => obtain ⟨h1, h2⟩ := rising_all (show risingS x r = true from h); exact .cons h1 h2
theorem sortedS_uniq {a b : List Str} (ha : sortedS a = true) (hb : sortedS b = true) (p : a.Perm b) : a = b := List.Perm.eq_of_pairwise (fun _ _ _ _ h1 h2 => leS_anti h1 h2) (sortedS_pw ha) (sortedS_pw hb) p
theorem vals_strs : ∀ {us : List Value} {ss : List Str}, StrsAre us ss → Vals (ss.map V.str) us
  | _, _, .nil => .nil
  | _, _, .cons _ t r => .cons ⟨t, rfl⟩ (vals_strs r)
end L2
namespace HS
open PySem PySem.Spec PyProof.Rows
theorem lay_led (t : SetTable) (es : Array (Int × Value)) (z : Int) (x : Value) : (layNew t es z x).2.1.led = t.led := by
  unfold layNew
  split
  · dsimp only
    unfold SetTable.orStandIn
    split <;> rfl
  · rfl
theorem laid_keeps {t u : SetTable} {zs : Array Int} {n : Nat} {ord : Array Nat} (e : t.relaid zs n = some (u, ord)) : u.led = t.led ∧ u.plain = t.plain := by
  unfold SetTable.relaid SetTable.laid at e
  cases c : SetTable.layClean (SetTable.sizeAbove n - 1) zs with
  | none => rw [c] at e; cases e
  | some ow =>
    rw [c] at e
    have e2 := Option.some.inj e
    have e3 := congrArg Prod.fst e2
    dsimp only at e3
    rw [← e3]
    exact ⟨rfl, rfl⟩
theorem relay_keeps (t : SetTable) (es : Array (Int × Value)) (n : Nat) : (relayAll t es n).2.1.led = t.led ∧ (t.plain = false → (relayAll t es n).2.1.plain = false) := by
  unfold relayAll
  split
  · rename_i u ord e
    obtain ⟨h1, h2⟩ := laid_keeps e
    dsimp only
    split
    · exact ⟨h1, fun z => h2.trans z⟩
    · exact ⟨rfl, fun _ => rfl⟩
  · exact ⟨rfl, fun _ => rfl⟩
def SetX (P : Program) (w : World) (h : Heap) (a : Addr) (xs : List Str) : Prop :=
  ∃ o es ep t, h.get? a = some o ∧ o.ExactSet ∧ o.data = .set es ep t ∧ ElemsOf (strKind P w) es.toList ∧ (∀ k, k ∈ xs ↔ ∃ e ∈ es.toList, (strKind P w).is k e.2 = true) ∧
    es.size < scanBound ∧ t.fits es.size = true ∧ es.size = xs.length ∧ t.led = (!w.params.followText "set-order") ∧ (es.size ≠ 0 → t.plain = false)
theorem SetX.keep {P : Program} {w : World} {h h' : Heap} {a : Addr} {xs : List Str} (x : SetX P w h a xs) (k : ∀ o, h.get? a = some o → h'.get? a = some o) : SetX P w h' a xs := let ⟨o, es, ep, t, e, r⟩ := x; ⟨o, es, ep, t, k o e, r⟩
theorem SetX.lt {P : Program} {w : World} {h : Heap} {a : Addr} {xs : List Str} (x : SetX P w h a xs) : a < h.objs.size := let ⟨_, _, _, _, e, _⟩ := x; Heap.lt_size e
theorem SetX.typeIs {P : Program} {w : World} {s : Shared} {a : Addr} {xs : List Str} (x : SetX P w s.heap a xs) : s.TypeIs (.ref a) "set" := let ⟨o, _, _, _, e, c, _⟩ := x; ⟨o, e, c.1⟩
theorem setX_new {P : Program} {w : World} {h : Heap} {a : Addr} (e : h.get? a = some { cls := .type "set", dict := none, data := .set #[] 0 (.fresh 0 0 (!w.params.followText "set-order")) }) : SetX P w h a [] :=
  ⟨_, #[], 0, _, e, ⟨rfl, rfl, rfl⟩, rfl, fun z hz => (by simp at hz), fun k => (by simp), by decide, by rfl, rfl, rfl, fun z => absurd rfl z⟩
def addS (xs : List Str) (k : Str) : List Str := if k ∈ xs then xs else xs ++ [k]
section
variable {P : Program} {w : World} {A : Around} {E : Value → Shared → Prop} {s : Shared} {a : Addr} {xs : List Str}
theorem setX_put {h : Heap} {o : Obj} {es es' : Array (Int × Value)} {ep : Nat} {t t' : SetTable} {ys : List Str} (ho : h.get? a = some o) (hx : o.ExactSet) (hd : o.data = .set es ep t) (hel : ElemsOf (strKind P w) es'.toList)
    (hm : ∀ k, k ∈ ys ↔ ∃ e ∈ es'.toList, (strKind P w).is k e.2 = true) (hb : es'.size < scanBound) (hf : t'.fits es'.size = true) (hn : es'.size = ys.length) (hl : t'.led = (!w.params.followText "set-order")) (hp : t'.plain = false) :
    (h.update a (Obj.putSet es' t')).get? a = some { o with data := .set es' (ep + 1) t' } ∧ SetX P w (h.update a (Obj.putSet es' t')) a ys := by
  have hg : (h.update a (Obj.putSet es' t')).get? a = some { o with data := .set es' (ep + 1) t' } := by
    have z := Heap.get?_update_self (Obj.putSet es' t') ho (by rw [putSet_of es' t' hd]; rfl)
    rw [putSet_of es' t' hd] at z; exact z
  exact ⟨hg, _, es', ep + 1, t', hg, hx, rfl, hel, hm, hb, hf, hn, hl, fun _ => hp⟩
theorem setX_add {k : Str} {tk : Tok} {Q : Bool → Shared → Prop} (hS : SetX P w s.heap a xs) (room : xs.length + 1 < scanBound) (h : ∀ h', Heap.SameBut a s.heap h' → SetX P w h' a (addS xs k) → ∀ b, Q b { s with heap := h' }) :
    wpAny (model P w) A (setAddHashed a (.str k tk) (hashStr w k)) Q E s := by
  obtain ⟨o, es, ep, t, ho, hex, hd, hel, hmem, hb, hf, hn, hled, hpl⟩ := hS
  have hkey : (strKind P w).is k (.str k tk) = true := by show Value.isStrOf k (.str k tk) = true; simp [Value.isStrOf]
  have hsc : (Value.str k tk).scannable = true := rfl
  have room1 : es.size + 1 < scanBound := by omega
  unfold setAddHashed setAddHashedIn
  refine wpAny_holding (wpAny_bind (wpAny_setState_of ho hd hf ?_)); dsimp only
  rw [byScan_of (knd := strKind P w) hsc hb hel, if_pos rfl]
  refine wpAny_bind ?_; unfold setAddByScan
  refine wpAny_bind (wpAny_rule (wpAny_bind (wpAny_setScan_of (knd := strKind P w) (k := k) hkey ho hd hf hel ?_)))
  cases hr : List.findIdx? (fun e => (strKind P w).is k e.2) es.toList with
  | some j =>
    obtain ⟨hj, hpj, _⟩ := List.findIdx?_eq_some_iff_getElem.mp hr
    have hk : k ∈ xs := (hmem k).mpr ⟨es.toList[j], List.getElem_mem hj, hpj⟩
    refine wpAny_pure (wpAny_pure ?_)
    have e0 : s = { s with heap := s.heap } := by cases s; rfl
    rw [e0]
    refine h s.heap (Heap.SameBut.refl a s.heap) ?_ _
    unfold addS; rw [if_pos hk]
    exact ⟨o, es, ep, t, ho, hex, hd, hel, hmem, hb, hf, hn, hled, hpl⟩
  | none =>
    dsimp only
    have hk : k ∉ xs := fun z => by
      obtain ⟨e, he, hp⟩ := (hmem k).mp z
      have := List.findIdx?_eq_none_iff.mp hr e he
      rw [hp] at this; cases this
    have gw : ∀ (b : Bool) {s₁ : Shared} {Q' : Unit → Shared → Prop}, Q' () s₁ → wpAny (model P w) A (match b with | true => rule "set.scan.the-table-gave-way" | false => pure ()) Q' E s₁ := fun b s₁ Q' hq => by
      cases b
      · exact wpAny_pure hq
      · exact wpAny_rule hq
    have hperm := layNew_perm t es ((strKind P w).hash k) (.str k tk)
    have hfits := layNew_fits t es ((strKind P w).hash k) (.str k tk)
    have hlay := lay_led t es ((strKind P w).hash k) (.str k tk)
    generalize hL : layNew t es (hashStr w k) (.str k tk) = L
    rw [show (strKind P w).hash k = hashStr w k from rfl, hL] at hperm hfits hlay
    obtain ⟨es1, t1, wd, gave⟩ := L
    dsimp only at hperm hfits hlay ⊢
    rw [Array.toList_push] at hperm
    have hel1 : ElemsOf (strKind P w) es1.toList := (hel.push (k := k) hkey hsc).perm hperm
    have hsz1 : es1.size = es.size + 1 := by rw [← Array.length_toList, hperm.length_eq, List.length_append, Array.length_toList]; rfl
    have hmem1 : ∀ k', k' ∈ addS xs k ↔ ∃ e ∈ es1.toList, (strKind P w).is k' e.2 = true := fun k' => by
      unfold addS; rw [if_neg hk, List.mem_append, List.mem_singleton, hmem k']
      constructor
      · rintro (⟨e, he, hp⟩ | rfl)
        · exact ⟨e, hperm.mem_iff.mpr (List.mem_append_left _ he), hp⟩
        · exact ⟨_, hperm.mem_iff.mpr (List.mem_append_right _ (List.mem_singleton.mpr rfl)), hkey⟩
      · rintro ⟨e, he, hp⟩
        rcases List.mem_append.mp (hperm.mem_iff.mp he) with he | he
        · exact .inl ⟨e, he, hp⟩
        · rw [List.mem_singleton] at he; subst he
          exact .inr ((strKind P w).inj _ k' k hp hkey)
    have hln : es1.size = (addS xs k).length := by unfold addS; rw [if_neg hk, List.length_append, List.length_singleton]; omega
    have hb1 : es1.size < scanBound := by omega
    refine wpAny_bind (gw _ ?_)
    have tail : ∀ t2 : SetTable, t2.fits es1.size = true → t2.led = t.led → t2.plain = false → wpAny (model P w) A (do
        storeSet a es1 t2
        if (!wd && t2.tooFull) = true then do
            let r := relayAll t2 es1 (SetTable.grown es1.size)
            (match r.2.2 with | true => rule "set.scan.the-table-gave-way" | false => pure ())
            storeSet a r.1 r.2.1
            pure (some true)
          else pure (some true)) (fun r s' => wpAny (model P w) A (match r with | some added => pure added | none => setAddHashedIn a (.str k tk) (hashStr w k) 99999) Q E s') E s := by
      intro t2 hf2 hl2 hp2
      obtain ⟨ho1, hS1⟩ := setX_put (P := P) (w := w) ho hex hd hel1 hmem1 hb1 hf2 hln (hl2.trans hled) hp2
      have sb1 := Heap.SameBut.update s.heap a (Obj.putSet es1 t2)
      refine wpAny_bind (wpAny_storeSet_of ho hd ?_ (fits_of_scanBound hb1))
      split
      · have q1 := relayAll_perm t2 es1 (SetTable.grown es1.size)
        have q2 := relayAll_fits t2 es1 (SetTable.grown es1.size)
        have q3 := relay_keeps t2 es1 (SetTable.grown es1.size)
        dsimp only
        generalize relayAll t2 es1 (SetTable.grown es1.size) = R at q1 q2 q3 ⊢
        obtain ⟨es2, t3, g2⟩ := R
        dsimp only at q1 q2 q3 ⊢
        have sz2 : es2.size = es1.size := by rw [← Array.length_toList, q1.length_eq, Array.length_toList]
        have hm2 : ∀ k', k' ∈ addS xs k ↔ ∃ e ∈ es2.toList, (strKind P w).is k' e.2 = true := fun k' => (hmem1 k').trans ⟨fun ⟨e, he, q⟩ => ⟨e, q1.mem_iff.mpr he, q⟩, fun ⟨e, he, q⟩ => ⟨e, q1.mem_iff.mp he, q⟩⟩
        obtain ⟨_, hS2⟩ := setX_put (P := P) (w := w) ho1 hex rfl (hel1.perm q1) hm2 (by omega) q2 (by omega) (q3.1.trans (hl2.trans hled)) (q3.2 hp2)
        refine wpAny_bind (gw _ (wpAny_bind (wpAny_storeSet_of ho1 rfl ?_ (fits_of_scanBound (by omega)))))
        exact wpAny_pure (wpAny_pure (h _ (sb1.trans (Heap.SameBut.update _ a _)) hS2 _))
      · exact wpAny_pure (wpAny_pure (h _ sb1 hS1 _))
    by_cases hp1 : t1.plain = true
    · rw [if_pos hp1]
      refine wpAny_bind ?_
      rw [hashByValue_scannable 8 hsc]
      refine wpAny_pure ?_
      show wpAny (model P w) A (do
        storeSet a es1 { t1 with plain := false }
        _) _ E s
      exact tail { t1 with plain := false } (SetTable.fits_plain_off hfits) hlay rfl
    · rw [if_neg hp1]
      refine wpAny_bind (wpAny_pure ?_)
      show wpAny (model P w) A (do
        storeSet a es1 t1
        _) _ E s
      exact tail t1 hfits hlay (by simpa using hp1)
end
end HS
namespace HS
open PySem PySem.Spec PyProof.Rows
def metS (val : Nat → Str) (i : Nat) : List Str := ((List.range i).map val).foldl addS []
theorem metS_succ (val : Nat → Str) (i : Nat) : metS val (i + 1) = addS (metS val i) (val i) := by
  unfold metS; rw [List.range_succ, List.map_append, List.foldl_append]; rfl
theorem addS_len (xs : List Str) (k : Str) : (addS xs k).length ≤ xs.length + 1 := by
  unfold addS
  split
  · omega
  · rw [List.length_append, List.length_singleton]; omega
theorem addS_nd {xs : List Str} (h : xs.Nodup) (k : Str) : (addS xs k).Nodup := by
  unfold addS
  split
  · exact h
  · rename_i hn
    rw [List.nodup_append]
    exact ⟨h, by simp, fun a ha b hb e => hn (by rw [← (List.mem_singleton.mp hb), ← e]; exact ha)⟩
theorem addS_mem {xs : List Str} {k y : Str} : y ∈ addS xs k ↔ y ∈ xs ∨ y = k := by
  unfold addS
  split
  · rename_i h
    exact ⟨.inl, fun z => z.elim id fun e => e ▸ h⟩
  · rw [List.mem_append, List.mem_singleton]
theorem metS_len (val : Nat → Str) : ∀ i, (metS val i).length ≤ i
  | 0 => Nat.le_refl _
  | i + 1 => by rw [metS_succ]; have := addS_len (metS val i) (val i); have := metS_len val i; omega
theorem metS_nd (val : Nat → Str) : ∀ i, (metS val i).Nodup
  | 0 => List.nodup_nil
  | i + 1 => by rw [metS_succ]; exact addS_nd (metS_nd val i) _
theorem metS_mem (val : Nat → Str) (y : Str) : ∀ i, y ∈ metS val i ↔ ∃ j, j < i ∧ val j = y
  | 0 => ⟨fun h => (by cases h), fun ⟨_, h, _⟩ => absurd h (Nat.not_lt_zero _)⟩
  | i + 1 => by
    rw [metS_succ, addS_mem, metS_mem val y i]
    constructor
    · rintro (⟨j, h, e⟩ | e)
      · exact ⟨j, by omega, e⟩
      · exact ⟨i, by omega, e.symm⟩
    · rintro ⟨j, h, e⟩
      by_cases c : j = i
      · exact .inr (by rw [← e, c])
      · exact .inl ⟨j, by omega, e⟩
section
variable {P : Program} {w : World} {A : Around} {R : Result → Shared → Prop} {I : Addr} {fp wr : List Addr} {G : Array GenState → Array GenState → Prop} {n : Nat} {Pv : Nat → Value → Prop} {St : Nat → Shared → Prop}
theorem set_loop (W : WalksS P w A.in1 I fp wr G n Pv St) (S : Addr) (hS : S ∉ fp) (val : Nat → Str) (hv : ∀ i v, Pv i v → ∃ t, v = .str (val i) t) (hb : n + 1 < scanBound) :
    ∀ (k i : Nat) (s : Shared), n - i = k → i ≤ n → St i s → SetX P w s.heap S (metS val i) → (∀ s', Moved (S :: wr) G s s' → SetX P w s'.heap S (metS val n) → R (.ok (.ret .none)) s') →
      codeAny (model P w) A (.builtin "set.update.loop" ⟨[.ref S, .ref I], []⟩) R s := by
  have hw : S ∉ wr := fun z => hS (W.sub _ z)
  have up : ∀ b ∈ wr, b ∈ S :: wr := fun b z => List.mem_cons_of_mem _ z
  intro k
  induction k with
  | zero =>
    intro i s hk hi st x q
    obtain rfl : i = n := by omega
    refine codeAny_builtin F.entry_set_update_loop ?_
    rw [Around.under_plainId F.plain_set_update_loop _]
    show wpAny _ A.in1 (pyNext (.ref I) >>= _) _ _ s
    refine wpAny_bind (W.done s _ _ st fun s' m => ?_); show wpAny _ A.in1 (ret Value.none) _ _ s'
    exact wpAny_pure (q s' (m.mono up) (x.keep fun o e => m.heap S o hw e))
  | succ k ih =>
    intro i s hk hi st x q
    have lt : i < n := by omega
    refine codeAny_builtin F.entry_set_update_loop ?_
    rw [Around.under_plainId F.plain_set_update_loop _]
    show wpAny _ A.in1 (pyNext (.ref I) >>= _) _ _ s
    refine wpAny_bind (W.item i s _ _ lt st fun v s' hP st' m => ?_)
    obtain ⟨t, rfl⟩ := hv i v hP
    have x' : SetX P w s'.heap S (metS val i) := x.keep fun o e => m.heap S o hw e
    show wpAny _ A.in1 (holding [Value.str (val i) t] (setAdd S (.str (val i) t)) >>= _) _ _ s'
    refine wpAny_bind (wpAny_holding ?_); unfold setAdd
    have hkey : (strKind P w).is (val i) (.str (val i) t) = true := by show Value.isStrOf (val i) (.str (val i) t) = true; simp [Value.isStrOf]
    refine wpAny_holding (wpAny_bind ((strKind P w).pyHash (k := val i) hkey ?_))
    have room : (metS val i).length + 1 < scanBound := by have := metS_len val i; omega
    refine setX_add (s := { s' with toks := s'.toks + 1 }) x' room fun h' sb x2 b => ?_
    rw [← metS_succ] at x2
    refine wpAny_pure ⟨plainId_quiet F.plain_set_update_loop _, ih (i + 1) _ (by omega) lt (W.frame _ s' _ _ st' (Nat.le_succ _) fun c hc o e => ?_) x2 fun s'' m'' x'' => ?_⟩
    · rw [sb.2 c (fun z : c = S => hS (by rw [← z]; exact hc))]; exact e
    · refine q s'' (Moved.trans W.gtrans ((m.mono up).then_heap (Nat.le_succ _) fun c o hc e => ?_) m'') x''
      rw [sb.2 c (fun z : c = S => hc (by rw [z]; exact List.mem_cons_self))]; exact e
end
section
variable {P : Program} {w : World} {A : Around} {E : Value → Shared → Prop} {s : Shared}
abbrev newS (w : World) : Obj := { cls := .type "set", dict := none, data := .set #[] 0 (.fresh 0 0 (!w.params.followText "set-order")) }
theorem code_setnew (a : Value) {Q₁ : Value → Shared → Prop} (h : Q₁ (.ref s.heap.objs.size) { s with heap := s.heap.push (newS w) }) :
    codeAny (model P w) A (.call (.builtin "set.__new__") ⟨[.type "set", a], []⟩) (wants Q₁ E) s := by
  refine codeAny_of_tree ?_; show wpAny _ A.in1 (do checkBuiltinCall "set.__new__" ⟨[.type "set", a], []⟩; again (.builtin "set.__new__" ⟨[.type "set", a], []⟩)) _ _ s
  refine wpAny_bind (wpAny_of_eq (F.newCall_set_1 a) (wpAny_pure ⟨plainId_quiet F.plain_set_new _, codeAny_builtin F.entry_set_new ?_⟩)); rw [Around.under_plainId F.plain_set_new _]
  unfold Builtin.«set.__new__» Builtin.Frozenset.newClass; have ss := sub_set_self
  obtain ⟨hp, g, d, tk, os⟩ := s; dsimp only
  wp_walk
  refine wpAny_askSetting (wpAny_pure ?_); dsimp only; simp only [newObj]
  refine wpAny_bind (wpAny_alloc (wpAny_pure ?_)); exact wpAny_pure h
structure Src (P : Program) (w : World) (T : String) (l : Addr) (ol : Obj) (n : Nat) (Pv : Nat → Value → Prop) : Prop where
  cls : ol.cls = .type T
  ns : isSubtype (.type T) (.type "set") = pure false
  nf : isSubtype (.type T) (.type "frozenset") = pure false
  nd : (Value.type T == Value.type "dict") = false
  iter : ∀ (A : Around) (s : Shared), A.handled = none → s.heap.get? l = some ol → ∃ (oI : Obj) (St : Nat → Heap → Prop),
    (∀ (E : Value → Shared → Prop) (Q : Value → Shared → Prop), Q (.ref s.heap.objs.size) { s with heap := s.heap.push oI } → wpAny (model P w) A (pyIter (.ref l)) Q E s) ∧
    Walks P w A s.heap.objs.size [s.heap.objs.size, l] [s.heap.objs.size] n Pv St ∧ St 0 (s.heap.push oI)
theorem call_setS {T : String} {l : Addr} {ol : Obj} {n : Nat} {Pv : Nat → Value → Prop} {val : Nat → Str} {Q : Value → Shared → Prop} (hh : A.handled = none) (C : Src P w T l ol n Pv) (hl : s.heap.get? l = some ol) (hv : ∀ i v, Pv i v → ∃ t, v = .str (val i) t) (hb : n + 1 < scanBound)
    (h : ∀ (h' : Heap) (tk : Nat), SetX P w h' s.heap.objs.size (metS val n) → (∀ b o, b < s.heap.objs.size → s.heap.get? b = some o → h'.get? b = some o) → Q (.ref s.heap.objs.size) { s with heap := h', toks := tk }) :
    wpAny (model P w) A (call (.type "set") [.ref l]) Q E s := by
  obtain ⟨c0, tl0, mro0⟩ := F.called_set.mro
  have made0 := F.called_set.made; have sub0 := F.called_set.sub
  refine wpAny_call (codeAny_of_tree ?_); show wpAny _ _ (callAny (.type "set") _) _ _ _
  refine wpAny_pure ⟨Code.quiet_builtin _ (by decide +kernel), codeAny_builtin F.entry_type_call ?_⟩; rw [Around.under_plain (weight_type_call_type "set" [.ref l] []) rfl]
  have f1 := F.called_set.notType; have f2 := F.called_set.canCreate
  have f3 := F.typeCall_set_1 (.ref l)
  repeat (any_goals (first | assumption | wp_step))
  refine codeAny_mono (code_setnew (.ref l) (E := E) (Q₁ := fun obj s₁ => obj = .ref s.heap.objs.size ∧ s₁ = { s with heap := s.heap.push (newS w) }) ⟨rfl, rfl⟩) fun r s₁ hr => ?_
  cases r with
  | error e => exact hr
  | ok fl =>
    cases fl with
    | ret obj =>
      obtain ⟨rfl, rfl⟩ := hr
      have gS : (s.heap.push (newS w)).get? s.heap.objs.size = some (newS w) := Heap.get?_push_size _ rfl
      have tS : Shared.TypeIs { s with heap := s.heap.push (newS w) } (.ref s.heap.objs.size) "set" := ⟨_, gS, rfl⟩
      have i1 := F.called_set.init.lookup; have i2 := F.called_set.init.bind (.ref s.heap.objs.size)
      repeat (any_goals (first | assumption | wp_step))
      refine codeAny_mono (codeAny_call_builtin (R := wants (fun r s₂ => r = .none ∧ ∃ h' tk, s₂ = { s with heap := h', toks := tk } ∧ SetX P w h' s.heap.objs.size (metS val n) ∧ (∀ b o, b < s.heap.objs.size → s.heap.get? b = some o → h'.get? b = some o)) E) F.called_set.init.plain F.entry_set_init (check_set_init_1 tS ?_)) fun r₂ s₂ hr₂ => ?_
      · have hl1 : (s.heap.push (newS w)).get? l = some ol := Heap.get?_push_of_some _ hl
        obtain ⟨ocls, odict, odata, oslots⟩ := ol
        have ecls : ocls = .type T := C.cls
        subst ecls
        have ns := C.ns; have nf := C.nf; have nd := C.nd
        unfold Builtin.«set.__init__» noKeywords Builtin.Frozenset.updateFrom
        generalize hPI : pyIter = PI
        wp_walk
        subst hPI
        obtain ⟨oI, St, it, W, st⟩ := C.iter A.in1.in1.in1 { s with heap := s.heap.push (newS w) } (by simp [hh]) hl1
        refine wpAny_of_in1 (it _ _ ?_)
        refine wpAny_bind (wpAny_runValue ?_)
        have lS : l < s.heap.objs.size := Heap.lt_size hl
        have nS : s.heap.objs.size ∉ [(s.heap.push (newS w)).objs.size, l] := by
          rw [Heap.size_push]; simp only [List.mem_cons, List.mem_singleton, List.not_mem_nil, or_false, not_or]; exact ⟨Nat.ne_of_lt (Nat.lt_succ_self _), Nat.ne_of_gt lS⟩
        refine set_loop W.toS s.heap.objs.size nS val hv hb (n - 0) 0 _ (by omega) (Nat.zero_le _) st (setX_new (Heap.get?_push_of_some _ gS)) ?_
        intro s' m x'
        obtain ⟨h', g', d', tk', os'⟩ := s'
        have e1 : g' = s.gens := m.gens
        have e2 : d' = s.drawn := m.drawn
        have e3 : os' = s.os := m.os
        subst e1; subst e2; subst e3
        show wpAny _ _ _ _ _ _
        refine wpAny_pure ?_; show wpAny _ _ (ret Value.none) _ _ _
        refine wpAny_pure ⟨rfl, h', tk', rfl, x', fun b o hb e => ?_⟩
        have b1 : b ≠ s.heap.objs.size := Nat.ne_of_lt hb
        have b2 : b ≠ (s.heap.push (newS w)).objs.size := by rw [Heap.size_push]; exact Nat.ne_of_lt (Nat.lt_succ_of_lt hb)
        exact m.heap b o (by simp only [List.mem_cons, List.mem_singleton, List.not_mem_nil, or_false, not_or]; exact ⟨b1, b2⟩) (Heap.get?_push_of_some _ (Heap.get?_push_of_some _ e))
      · cases r₂ with
        | error e => exact hr₂
        | ok fl₂ =>
          cases fl₂ with
          | ret r =>
            obtain ⟨rfl, h', tk, rfl, x', k'⟩ := hr₂
            repeat (any_goals (first | assumption | wp_step))
            exact h _ _ x' k'
          | _ => exact hr₂.elim
    | _ => exact hr.elim
theorem src_list {l : Addr} {items : Array Value} {ol : Obj} (cl : ol.cls = .type "list") (dt : ∃ n, ol.data = .seq items n) : Src P w "list" l ol items.size (fun i v => items[i]? = some v) where
  cls := cl
  ns := F.sub_list_set
  nf := F.sub_list_frozenset
  nd := by decide
  iter := fun A s hh hl => by
    have il : s.heap.IsList l items := ⟨ol, hl, cl, dt⟩
    have lt := Heap.lt_size hl
    exact ⟨_, _, fun E Q q => wpAny_pyIter_list il q, Walks.list hh _ l (Nat.ne_of_lt lt) items, ⟨_, Heap.get?_push_size _ rfl, rfl, rfl⟩, il.push _⟩
theorem src_tup {l : Addr} {items : Array Value} {ol : Obj} (cl : ol.cls = .type "tuple") (dt : ∃ n, ol.data = .seq items n) : Src P w "tuple" l ol items.size (fun i v => items[i]? = some v) where
  cls := cl
  ns := F.sub_tuple_set
  nf := F.sub_tuple_frozenset
  nd := by decide
  iter := fun A s hh hl => by
    have il : s.heap.IsTuple l items := ⟨ol, hl, cl, dt⟩
    have lt := Heap.lt_size hl
    exact ⟨_, _, fun E Q q => wpAny_pyIter_tuple il q, Walks.tuple hh _ l (Nat.ne_of_lt lt) items, ⟨_, Heap.get?_push_size _ rfl, rfl, rfl⟩, il.push _⟩
end
end HS
namespace HS
open PySem PySem.Spec PyProof.Rows
theorem slot_it_next : Slot "set_iterator" "__next__" "set_iterator.__next__" :=
  Slot.of (owner := "set_iterator") (n := "__next__") (by rw [typeLookup_type, builtinLookup_eq_fast]; kernel_rfl) (by decide +kernel) (by decide +kernel) (by decide +kernel) (by first | exact .inl (by decide +kernel) | exact .inr (by decide +kernel)) (by rw [isSubtype_type]; kernel_rfl)
theorem entry_it_next : entryFor table "set_iterator.__next__" = some Builtin.«set_iterator.__next__» := entryFor_of_tree (by kernel_rfl)
theorem owner_it : Manifest.owners.lookup (String.ofList "rotareti_tes".toList.reverse) = some Manifest.sig_set_iterator := by kernel_rfl
theorem args_it_next (a : Value) : argsOk "set_iterator.__next__" ⟨[a], []⟩ := by
  unfold argsOk; rw [signature?_of (id := "set_iterator.__next__") (n := ['_', '_', 't', 'x', 'e', 'n', '_', '_']) (o := "rotareti_tes".toList) (by kernel_rfl) owner_it]; kernel_rfl
theorem slot_it_iter : Slot "set_iterator" "__iter__" "set_iterator.__iter__" :=
  Slot.of (owner := "set_iterator") (n := "__iter__") (by rw [typeLookup_type, builtinLookup_eq_fast]; kernel_rfl) (by decide +kernel) (by decide +kernel) (by decide +kernel) (by first | exact .inl (by decide +kernel) | exact .inr (by decide +kernel)) (by rw [isSubtype_type]; kernel_rfl)
theorem entry_it_iter : entryFor table "set_iterator.__iter__" = some Builtin.«dict_keyiterator.__iter__» := entryFor_alias (id' := "dict_keyiterator.__iter__") (by kernel_rfl) rfl (by decide +kernel) (by kernel_rfl)
theorem args_it_iter (a : Value) : argsOk "set_iterator.__iter__" ⟨[a], []⟩ := by
  unfold argsOk; rw [signature?_of (id := "set_iterator.__iter__") (n := ['_', '_', 'r', 'e', 't', 'i', '_', '_']) (o := "rotareti_tes".toList) (by kernel_rfl) owner_it]; kernel_rfl
theorem entry_s_iter : entryFor table "set.__iter__" = some Builtin.«frozenset.__iter__» := entryFor_alias (id' := "frozenset.__iter__") (by kernel_rfl) rfl (by decide +kernel) (by kernel_rfl)
abbrev itO (first : Value) (i : Nat) (a : Addr) (n ep : Nat) : Obj := { cls := .type "set_iterator", dict := none, data := .fields #[first, .int i 0, .ref a, .int n 0, .int ep 0], slots := #[] }
section
variable {P : Program} {w : World} {A : Around} {E : Value → Shared → Prop} {s : Shared} {I a : Addr} {o : Obj} {es : Array (Int × Value)} {ep : Nat} {t : SetTable}
theorem next_pre {first : Value} {i n : Nat} {Q : Option Value → Shared → Prop} (hit : s.heap.get? I = some (itO first i a n ep)) (ho : s.heap.get? a = some o) (hd : o.data = .set es ep t) (hf : t.fits es.size = true) (hn : es.size = n)
    (body : wpAny (model P w) A.in1 (do
      if let .int slot _ := first then
        match ← setNext a slot.toNat ((i : Int)).toNat ((ep : Int)).toNat with
        | some (x, next) =>
          setField (.ref I) 0 (rawInt next)
          setField (.ref I) 1 (rawInt ((i : Int) + 1))
          ret x
        | none => setField (.ref I) 2 .none; raiseNew (← newExc (.type "StopIteration") [])
      else
        let some places ← seqItems? first | unsupported "internal:set_iterator"
        match places[((i : Int)).toNat]? with
        | some (.int place _) =>
          let x ← setNextDrawn a place.toNat ((ep : Int)).toNat
          setField (.ref I) 1 (rawInt ((i : Int) + 1))
          ret x
        | some _ => unsupported "internal:set_iterator"
        | none => setField (.ref I) 0 (rawInt 0); setField (.ref I) 2 .none; raiseNew (← newExc (.type "StopIteration") []))
      (fun fin s' => ∃ r, fin = .done (.ret r) ∧ Q (some r) s') (fun e s' => wpAny (model P w) A (do if ← isInstance e (.type "StopIteration") then pure none else throw e) Q E s') s) : wpAny (model P w) A (pyNext (.ref I)) Q E s := by
  have hT : s.TypeIs (.ref I) "set_iterator" := ⟨_, hit, rfl⟩
  unfold pyNext
  refine wpAny_bind (wpAny_attempt (wpAny_callSpecial?_slot (name := Str.ofString "__next__") hT slot_it_next (wpAny_call_entry slot_it_next hT entry_it_next ?_ (args_it_next _))))
  unfold Builtin.«set_iterator.__next__»
  refine wpAny_bind (wpAny_pure ?_)
  dsimp only
  refine wpAny_bind (wpAny_fieldsOf hit rfl ?_)
  dsimp only
  refine wpAny_bind ?_; unfold setEntries
  refine wpAny_bind (wpAny_setState_of ho hd hf (wpAny_pure ?_))
  dsimp only
  rw [if_neg (by rw [hn]; simp)]
  refine wpAny_mono body (fun fin s' h => ?_) fun e s' h => ?_
  · obtain ⟨r, rfl, q⟩ := h
    exact ⟨r, rfl, wpAny_pure q⟩
  · exact h
theorem stop_met {Q : Option Value → Shared → Prop} (hh : A.handled = none) (q : ∀ h', (∀ b ob, s.heap.get? b = some ob → h'.get? b = some ob) → Q none { s with heap := h' }) :
    wpAny (model P w) A.in1 (newExc (.type "StopIteration") [] >>= fun e => (raiseNew e : Sem PySem.Fin)) (fun fin s' => ∃ r, fin = .done (.ret r) ∧ Q (some r) s') (fun e s' => wpAny (model P w) A (do if ← isInstance e (.type "StopIteration") then pure none else throw e) Q E s') s := by
  refine wpAny_bind ?_; simp only [newExc, newTuple]
  refine wpAny_bind (wpAny_newObj_type ?_ (by size_fits))
  refine wpAny_bind (m := firstArgMember _ _) (wpAny_of_eq (a := Value.none) (by first | rfl | (simp only [firstArgMember]; rfl)) (wpAny_newObj_type ?_ (by size_fits)))
  simp only [raiseNew]
  refine wpAny_bind (wpAny_handled ?_); rw [show A.in1.handled = none from hh]
  refine wpAny_bind (wpAny_pure (wpAny_throw ?_))
  refine wpAny_bind (wpAny_isInstance (T := "StopIteration") (b := true) (show Shared.TypeIs _ _ _ from ⟨_, Heap.get?_push_size _ rfl, rfl⟩) isSubtype_stop ?_)
  exact wpAny_pure (q _ fun b ob e => Heap.get?_push_of_some _ (Heap.get?_push_of_some _ e))
theorem next_int_item {slot i n nx : Nat} {x : Value} {Q : Option Value → Shared → Prop} (hit : s.heap.get? I = some (itO (.int slot 0) i a n ep)) (ho : s.heap.get? a = some o) (hd : o.data = .set es ep t) (hf : t.fits es.size = true) (hn : es.size = n)
    (nxt : ∀ (E' : Value → Shared → Prop) (Q' : Option (Value × Nat) → Shared → Prop), Q' (some (x, nx)) s → wpAny (model P w) A.in1 (setNext a slot i ep) Q' E' s)
    (q : ∀ h', h'.get? I = some (itO (.int nx 0) (i + 1) a n ep) → Heap.SameBut I s.heap h' → Q (some x) { s with heap := h' }) : wpAny (model P w) A (pyNext (.ref I)) Q E s := by
  refine next_pre hit ho hd hf hn ?_
  simp only [Int.toNat_natCast]
  refine wpAny_bind (nxt _ _ ?_)
  refine wpAny_bind (wpAny_setField_rec hit (by simp) fun h1 g1 s1 => ?_)
  refine wpAny_bind (wpAny_setField_rec g1 (by simp) fun h2 g2 s2 => ?_)
  exact wpAny_pure ⟨x, rfl, q h2 (by rw [g2]; simp [rawInt]) (s1.trans s2)⟩
theorem next_int_end {slot i n : Nat} {Q : Option Value → Shared → Prop} (hh : A.handled = none) (hit : s.heap.get? I = some (itO (.int slot 0) i a n ep)) (ho : s.heap.get? a = some o) (hd : o.data = .set es ep t) (hf : t.fits es.size = true) (hn : es.size = n)
    (nxt : ∀ (E' : Value → Shared → Prop) (Q' : Option (Value × Nat) → Shared → Prop), Q' none s → wpAny (model P w) A.in1 (setNext a slot i ep) Q' E' s)
    (q : ∀ h', (∀ b ob, b ≠ I → s.heap.get? b = some ob → h'.get? b = some ob) → Q none { s with heap := h' }) : wpAny (model P w) A (pyNext (.ref I)) Q E s := by
  refine next_pre hit ho hd hf hn ?_
  simp only [Int.toNat_natCast]
  refine wpAny_bind (nxt _ _ ?_)
  refine wpAny_bind (wpAny_setField_rec hit (by simp) fun h1 g1 s1 => ?_)
  exact stop_met hh fun h2 k2 => q h2 fun b ob nb e => k2 b ob (by rw [s1.2 b nb]; exact e)
theorem next_ref_item {pt : Addr} {ps : List Nat} {i n pl : Nat} {z : Int} {x : Value} {Q : Option Value → Shared → Prop} (hit : s.heap.get? I = some (itO (.ref pt) i a n ep)) (ho : s.heap.get? a = some o) (hd : o.data = .set es ep t) (hf : t.fits es.size = true) (hn : es.size = n)
    (hp : ∃ op c, s.heap.get? pt = some op ∧ op.data = .seq (ps.map fun (j : Nat) => rawInt j).toArray c) (hi : ps[i]? = some pl) (hx : es[pl]? = some (z, x))
    (q : ∀ h', h'.get? I = some (itO (.ref pt) (i + 1) a n ep) → Heap.SameBut I s.heap h' → Q (some x) { s with heap := h' }) : wpAny (model P w) A (pyNext (.ref I)) Q E s := by
  refine next_pre hit ho hd hf hn ?_
  obtain ⟨op, c, hop, hdp⟩ := hp
  dsimp only
  simp only [Int.toNat_natCast]
  refine wpAny_bind ?_; unfold seqItems?
  refine wpAny_bind (wpAny_load hop ?_)
  rw [hdp]
  refine wpAny_pure ?_
  dsimp only
  have e1 : (ps.map fun (j : Nat) => rawInt j).toArray[i]? = some (rawInt pl) := by simp [hi]
  rw [e1]
  show wpAny _ _ (setNextDrawn a ((pl : Int)).toNat ep >>= _) _ _ s
  rw [Int.toNat_natCast]; unfold setNextDrawn
  refine wpAny_bind (wpAny_bind (wpAny_setState_of ho hd hf ?_))
  dsimp only
  rw [if_neg (by simp), hx]
  refine wpAny_pure ?_
  refine wpAny_bind (wpAny_setField_rec hit (by simp) fun h2 g2 s2 => ?_)
  exact wpAny_pure ⟨x, rfl, q h2 (by rw [g2]; simp [rawInt]) s2⟩
theorem next_ref_end {pt : Addr} {ps : List Nat} {i n : Nat} {Q : Option Value → Shared → Prop} (hh : A.handled = none) (hit : s.heap.get? I = some (itO (.ref pt) i a n ep)) (ho : s.heap.get? a = some o) (hd : o.data = .set es ep t) (hf : t.fits es.size = true) (hn : es.size = n)
    (hp : ∃ op c, s.heap.get? pt = some op ∧ op.data = .seq (ps.map fun (j : Nat) => rawInt j).toArray c) (hi : ps.length ≤ i)
    (q : ∀ h', (∀ b ob, b ≠ I → s.heap.get? b = some ob → h'.get? b = some ob) → Q none { s with heap := h' }) : wpAny (model P w) A (pyNext (.ref I)) Q E s := by
  refine next_pre hit ho hd hf hn ?_
  obtain ⟨op, c, hop, hdp⟩ := hp
  dsimp only
  simp only [Int.toNat_natCast]
  refine wpAny_bind ?_; unfold seqItems?
  refine wpAny_bind (wpAny_load hop ?_)
  rw [hdp]
  refine wpAny_pure ?_
  dsimp only
  have e1 : (ps.map fun (j : Nat) => rawInt j).toArray[i]? = none := by simp; omega
  rw [e1]
  refine wpAny_bind (wpAny_setField_rec hit (by simp) fun h1 g1 s1 => ?_)
  refine wpAny_bind (wpAny_setField_rec g1 (by simp) fun h2 g2 s2 => ?_)
  exact stop_met hh fun h3 k3 => q h3 fun b ob nb e => k3 b ob (by rw [s2.2 b nb, s1.2 b nb]; exact e)
end
end HS
namespace HS
open PySem PySem.Spec PyProof.Rows
theorem pick_perm {α : Type} (next : Nat → Nat) : ∀ (fuel k : Nat) (left : List α) (out : Array α), left.length = fuel → (pickOrder.go next fuel k left out).toList.Perm (out.toList ++ left)
  | 0, k, left, out, h => by
    have : left = [] := List.eq_nil_of_length_eq_zero h
    subst this
    unfold pickOrder.go; simp
  | fuel + 1, k, left, out, h => by
    have hlt : next k % left.length < left.length := Nat.mod_lt _ (by omega)
    unfold pickOrder.go
    rw [List.getElem?_eq_getElem hlt]
    dsimp only
    refine (pick_perm next fuel (k + 1) _ _ (by rw [List.length_eraseIdx, if_pos hlt]; omega)).trans ?_
    rw [Array.toList_push, List.append_assoc]
    refine List.Perm.append_left _ ?_
    generalize next k % left.length = j at hlt
    have key : ∀ (l : List α) (j : Nat) (h : j < l.length), (l[j] :: l.eraseIdx j).Perm l := by
      intro l
      induction l with
      | nil => intro j h; exact absurd h (Nat.not_lt_zero _)
      | cons x l ih =>
        intro j h
        cases j with
        | zero => exact List.Perm.refl _
        | succ j => exact (List.Perm.swap _ _ _).trans ((ih j (Nat.lt_of_succ_lt_succ h)).cons x)
    exact key left j hlt
section
variable {P : Program} {w : World} {A : Around} {E : Value → Shared → Prop} {s : Shared} {a : Addr} {xs : List Str}
theorem wp_draw {α : Type} : ∀ (m : Nat) (l : List α) {s : Shared} {Q : List α → Shared → Prop}, l.length = m → (∀ ps d, ps.Perm l → Q ps { s with drawn := d }) → wpAny (model P w) A (drawOrder m l) Q E s
  | 0, l, s, Q, h, q => by
    have : l = [] := List.eq_nil_of_length_eq_zero h
    subst this
    unfold drawOrder
    exact wpAny_pure (q [] s.drawn (List.Perm.refl _))
  | m + 1, [], s, Q, h, q => by simp at h
  | m + 1, x :: l, s, Q, h, q => by
    unfold drawOrder
    refine wpAny_bind ?_
    have ch : ∀ {Q' : Nat → Shared → Prop} {s : Shared}, (∀ i d, i < (x :: l).length → Q' i { s with drawn := d }) → wpAny (model P w) A (choose .order (x :: l).length) Q' E s := fun {Q' s} q' => by
      intro Γ p hΓ
      exact ⟨by simp, q' _ _ (Nat.mod_lt _ (by simp))⟩
    refine ch fun i d hi => ?_
    rw [List.getElem?_eq_getElem hi]
    dsimp only
    refine wpAny_bind (wp_draw m _ (by rw [List.length_eraseIdx, if_pos hi]; omega) fun ps d' hp => wpAny_pure ?_)
    refine q _ _ ((hp.cons _).trans ?_)
    have key : ∀ (l : List α) (j : Nat) (h : j < l.length), (l[j] :: l.eraseIdx j).Perm l := by
      intro l
      induction l with
      | nil => intro j h; exact absurd h (Nat.not_lt_zero _)
      | cons x l ih =>
        intro j h
        cases j with
        | zero => exact List.Perm.refl _
        | succ j => exact (List.Perm.swap _ _ _).trans ((ih j (Nat.lt_of_succ_lt_succ h)).cons x)
    exact key _ i hi
theorem elems_strs {es : List (Int × Value)} (h : ElemsOf (strKind P w) es) : ∃ ks : List Str, StrsAre (es.map (·.2)) ks ∧ ∀ k, k ∈ ks ↔ ∃ e ∈ es, (strKind P w).is k e.2 = true := by
  induction es with
  | nil => exact ⟨[], .nil, fun k => (by simp)⟩
  | cons e es ih =>
    obtain ⟨ks, h1, h2⟩ := ih h.tail
    obtain ⟨⟨k, hk, _⟩, _⟩ := h.head
    obtain ⟨t, et⟩ := Value.isStrOf_shape hk
    refine ⟨k :: ks, ?_, fun y => ?_⟩
    · rw [List.map_cons, et]; exact .cons k t h1
    · rw [List.mem_cons, h2 y]
      constructor
      · rintro (rfl | ⟨e', he, q⟩)
        · exact ⟨e, List.mem_cons_self, hk⟩
        · exact ⟨e', List.mem_cons_of_mem _ he, q⟩
      · rintro ⟨e', he, q⟩
        rcases List.mem_cons.mp he with rfl | he
        · exact .inl ((strKind P w).inj _ _ _ q hk)
        · exact .inr ⟨e', he, q⟩
theorem strs_perm {vs us : List Value} {ks : List Str} (h : StrsAre us ks) (p : vs.Perm us) : ∃ ys, StrsAre vs ys ∧ ys.Perm ks := by
  induction p generalizing ks with
  | nil => exact ⟨ks, h, List.Perm.refl _⟩
  | cons x _ ih =>
    cases h with
    | cons y t r => obtain ⟨ys, h1, h2⟩ := ih r; exact ⟨y :: ys, .cons y t h1, h2.cons y⟩
  | swap x y l =>
    cases h with
    | cons k1 t1 r1 =>
      cases r1 with
      | cons k2 t2 r2 => exact ⟨k2 :: k1 :: _, .cons k2 t2 (.cons k1 t1 r2), List.Perm.swap _ _ _⟩
  | trans _ _ ih1 ih2 =>
    obtain ⟨ys, h1, h2⟩ := ih2 h
    obtain ⟨zs, h3, h4⟩ := ih1 h1
    exact ⟨zs, h3, h4.trans h2⟩
theorem strs_len {vs : List Value} {ys : List Str} (h : StrsAre vs ys) : vs.length = ys.length := by
  induction h with
  | nil => rfl
  | cons _ _ _ ih => rw [List.length_cons, List.length_cons, ih]
theorem perm_of_same {a b : List Str} (nd : a.Nodup) (hl : b.length = a.length) (h : ∀ x ∈ a, x ∈ b) : b.Perm a := by
  induction a generalizing b with
  | nil => have : b = [] := List.eq_nil_of_length_eq_zero hl; subst this; exact List.Perm.refl _
  | cons x a ih =>
    rw [List.nodup_cons] at nd
    have hx := h x List.mem_cons_self
    have p1 := List.perm_cons_erase hx
    have hl2 : (b.erase x).length = a.length := by rw [List.length_erase_of_mem hx, hl]; rfl
    have h2 : ∀ y ∈ a, y ∈ b.erase x := fun y hy => (List.mem_erase_of_ne (show y ≠ x from fun e => nd.1 (by rw [← e]; exact hy))).mpr (h y (List.mem_cons_of_mem _ hy))
    exact p1.trans ((ih nd.2 hl2 h2).cons x)
structure SetW (P : Program) (w : World) (a : Addr) (vs : List Value) (I : Addr) (fp : List Addr) (h : Heap) : Prop where
  go : ∃ St : Nat → Heap → Prop, (∀ A : Around, A.handled = none → Walks P w A I fp [I] vs.length (fun i v => vs[i]? = some v) St) ∧ St 0 h
theorem walk_int {o : Obj} {es : Array (Int × Value)} {ep : Nat} {t : SetTable} {I : Addr} (slot : Nat → Nat) {vs : List Value} (hne : a ≠ I) (hd : o.data = .set es ep t) (hf : t.fits es.size = true) (hn : es.size = vs.length) (h0 : slot 0 = 0) {h : Heap} (ho : h.get? a = some o) (hi : h.get? I = some (itO (.int 0 0) 0 a vs.length ep))
    (item : ∀ (A : Around) (s : Shared) (i : Nat) (v : Value) (E' : Value → Shared → Prop) (Q' : Option (Value × Nat) → Shared → Prop), s.heap.get? a = some o → vs[i]? = some v → Q' (some (v, slot (i + 1))) s → wpAny (model P w) A (setNext a (slot i) i ep) Q' E' s)
    (done : ∀ (A : Around) (s : Shared) (E' : Value → Shared → Prop) (Q' : Option (Value × Nat) → Shared → Prop), s.heap.get? a = some o → Q' none s → wpAny (model P w) A (setNext a (slot vs.length) vs.length ep) Q' E' s) : SetW P w a vs I [I, a] h := by
  refine ⟨fun i h => h.get? a = some o ∧ h.get? I = some (itO (.int (slot i) 0) i a vs.length ep), fun A hh => ⟨fun b hb => (by simp at hb; simp [hb]), fun i h h' st k => ⟨k a (by simp) _ st.1, k I (by simp) _ st.2⟩, fun i s Q E hi st q => ?_, fun s Q E st q => ?_, fun i s Q E st q => ?_⟩, ho, by rw [h0]; exact hi⟩
  · have hv : vs[i]? = some vs[i] := List.getElem?_eq_getElem hi
    refine next_int_item st.2 st.1 hd hf hn (fun E' Q' q' => item _ _ i _ E' Q' st.1 hv q') fun h' g sb => ?_
    exact q _ h' s.toks hv ⟨by rw [sb.2 a hne]; exact st.1, g⟩ fun b ob hb e => by rw [sb.2 b (fun z => hb (by simp [z]))]; exact e
  · exact next_int_end hh st.2 st.1 hd hf hn (fun E' Q' q' => done _ _ E' Q' st.1 q') fun h' k => q h' s.toks fun b ob hb e => k b ob (fun z => hb (by simp [z])) e
  · have hT : s.TypeIs (.ref I) "set_iterator" := ⟨_, st.2, rfl⟩
    refine wpAny_pyIter_slot hT slot_it_iter (wpAny_call_entry slot_it_iter hT entry_it_iter ?_ (args_it_iter _))
    show wpAny _ _ (ret (.ref I)) _ _ s
    exact wpAny_pure ⟨_, rfl, "set_iterator", _, hT, slot_it_next.lookup, q⟩
theorem walk_ref {o : Obj} {es : Array (Int × Value)} {ep : Nat} {t : SetTable} {I pt : Addr} {ps : List Nat} {vs : List Value} (hne : a ≠ I) (hnp : pt ≠ I) (hd : o.data = .set es ep t) (hf : t.fits es.size = true) (hn : es.size = vs.length) (hpl : ps.length = vs.length) {h : Heap} (ho : h.get? a = some o) (hi : h.get? I = some (itO (.ref pt) 0 a vs.length ep))
    {op : Obj} {c : Nat} (hp : h.get? pt = some op) (hdp : op.data = .seq (ps.map fun (j : Nat) => rawInt j).toArray c) (item : ∀ (i : Nat) (v : Value), vs[i]? = some v → ∃ pl z, ps[i]? = some pl ∧ es[pl]? = some (z, v)) : SetW P w a vs I [I, a, pt] h := by
  refine ⟨fun i h => h.get? a = some o ∧ h.get? pt = some op ∧ h.get? I = some (itO (.ref pt) i a vs.length ep), fun A hh => ⟨fun b hb => (by simp at hb; simp [hb]), fun i h h' st k => ⟨k a (by simp) _ st.1, k pt (by simp) _ st.2.1, k I (by simp) _ st.2.2⟩, fun i s Q E hi st q => ?_, fun s Q E st q => ?_, fun i s Q E st q => ?_⟩, ho, hp, hi⟩
  · have hv : vs[i]? = some vs[i] := List.getElem?_eq_getElem hi
    obtain ⟨pl, z, h1, h2⟩ := item i _ hv
    refine next_ref_item st.2.2 st.1 hd hf hn ⟨op, c, st.2.1, hdp⟩ h1 h2 fun h' g sb => ?_
    exact q _ h' s.toks hv ⟨by rw [sb.2 a hne]; exact st.1, by rw [sb.2 pt hnp]; exact st.2.1, g⟩ fun b ob hb e => by rw [sb.2 b (fun z => hb (by simp [z]))]; exact e
  · exact next_ref_end hh st.2.2 st.1 hd hf hn ⟨op, c, st.2.1, hdp⟩ (by omega) fun h' k => q h' s.toks fun b ob hb e => k b ob (fun z => hb (by simp [z])) e
  · have hT : s.TypeIs (.ref I) "set_iterator" := ⟨_, st.2.2, rfl⟩
    refine wpAny_pyIter_slot hT slot_it_iter (wpAny_call_entry slot_it_iter hT entry_it_iter ?_ (args_it_iter _))
    show wpAny _ _ (ret (.ref I)) _ _ s
    exact wpAny_pure ⟨_, rfl, "set_iterator", _, hT, slot_it_next.lookup, q⟩
end
end HS
namespace HS
open PySem PySem.Spec PyProof.Rows
theorem below_one (j k : Nat) : SetTable.below #[j] k = if j < k then 1 else 0 := by
  unfold SetTable.below
  show SetTable.below.go #[j] k 1 0 1 = _
  unfold SetTable.below.go
  by_cases h : j < k
  · simp [h, SetTable.below.go]
  · simp [h, SetTable.below.go]
theorem below_none (k : Nat) : SetTable.below #[] k = 0 := by unfold SetTable.below; rfl
section
variable {P : Program} {w : World} {A : Around} {E : Value → Shared → Prop} {s : Shared} {a : Addr} {xs : List Str}
theorem iter_set {Q : Value → Shared → Prop} (hS : SetX P w s.heap a xs) (nd : xs.Nodup)
    (q : ∀ (h' : Heap) (d' : Drawn) (I : Addr) (fp : List Addr) (vs : List Value) (ys : List Str), SetW P w a vs I fp h' → StrsAre vs ys → ys.Perm xs → (∀ b ∈ fp, b = a ∨ s.heap.objs.size ≤ b) → I ∈ fp → (∀ b ∈ fp, b < h'.objs.size) → s.heap.objs.size ≤ I → (∀ b ob, s.heap.get? b = some ob → h'.get? b = some ob) → Q (.ref I) { s with heap := h', drawn := d' }) :
    wpAny (model P w) A (pyIter (.ref a)) Q E s := by
  have hT := hS.typeIs
  obtain ⟨o, es, ep, t, ho, hex, hd, hel, hmem, hb, hf, hn, hled, hpl⟩ := hS
  have lta := Heap.lt_size ho
  obtain ⟨ks, k1, k2⟩ := elems_strs hel
  have kl : ks.length = xs.length := by have := strs_len k1; rw [List.length_map, Array.length_toList] at this; omega
  have kp : ks.Perm xs := perm_of_same nd kl fun x hx => (k2 x).mpr ((hmem x).mp hx)
  refine wpAny_pyIter_slot hT F.slot_set_iter (wpAny_call_entry F.slot_set_iter hT entry_s_iter ?_ (F.args_set_iter_1 _))
  unfold Builtin.«frozenset.__iter__» Builtin.Frozenset.slot0 Builtin.Frozenset.sizeOf setEntries setDrawn setsByText
  refine wpAny_bind (wpAny_bind (wpAny_pure (wpAny_pure ?_)))
  refine wpAny_bind (wpAny_bind (wpAny_bind (wpAny_setState_of ho hd hf (wpAny_pure (wpAny_pure ?_)))))
  dsimp only
  refine wpAny_bind (wpAny_bind (wpAny_setState_of ho hd hf ?_)); dsimp only
  refine wpAny_bind (wpAny_bind (wpAny_askSetting (wpAny_pure (wpAny_pure ?_))))
  show wpAny _ _ (if (!w.params.followText "set-order" && (!t.plain && decide (es.size > 1))) = true then _ else _) _ _ s
  by_cases big : (!w.params.followText "set-order" && (!t.plain && decide (es.size > 1))) = true
  · -- the places are drawn
    rw [if_pos big]
    refine wpAny_bind (wp_draw es.size (List.range es.size) (by simp) fun ps d hps => ?_)
    have pl : ps.length = es.size := by rw [hps.length_eq]; simp
    refine wpAny_bind (wpAny_newObj_type ?_ (by show (ps.map _).toArray.size ≤ sizeLine; rw [List.size_toArray, List.length_map, pl]; exact fits_of_scanBound hb))
    refine wpAny_bind ?_; unfold setEpoch
    refine wpAny_bind (wpAny_setState_of (Heap.get?_push_of_some _ ho) hd hf (wpAny_pure ?_))
    dsimp only
    refine wpAny_bind (wpAny_newObj_type (wpAny_pure ⟨_, rfl, "set_iterator", _, ⟨_, Heap.get?_push_size _ rfl, rfl⟩, slot_it_next.lookup, ?_⟩))
    have inb : ∀ p ∈ ps, p < es.size := fun p hp => List.mem_range.mp (hps.mem_iff.mp hp)
    let vs : List Value := ps.map fun p => (es.toList.map (·.2)).getD p .none
    have pv : vs.Perm (es.toList.map (·.2)) := by
      have e1 : (List.range es.size).map (fun p => (es.toList.map (·.2)).getD p .none) = es.toList.map (·.2) := by
        apply List.ext_getElem
        · simp
        · intro n h1 h2
          have : n < es.size := by simpa using h1
          simp [this]
      rw [← e1]; exact hps.map _
    obtain ⟨ys, y1, y2⟩ := strs_perm k1 pv
    have vl : vs.length = es.size := by show (ps.map _).length = _; rw [List.length_map, pl]
    have sz1 : (s.heap.push { cls := .type "tuple", data := .seq (ps.map fun (i : Nat) => rawInt i).toArray }).objs.size = s.heap.objs.size + 1 := Heap.size_push ..
    refine q _ d _ [_, a, s.heap.objs.size] vs ys (walk_ref (o := o) (op := { cls := .type "tuple", data := .seq (ps.map fun (i : Nat) => rawInt i).toArray }) (ps := ps) (by rw [sz1]; exact Nat.ne_of_lt (Nat.lt_succ_of_lt lta)) (by rw [sz1]; exact Nat.ne_of_lt (Nat.lt_succ_self _)) hd hf vl.symm (by rw [vl, pl]) (Heap.get?_push_of_some _ (Heap.get?_push_of_some _ ho)) ?_ (Heap.get?_push_of_some _ (Heap.get?_push_size _ rfl)) rfl ?_) y1 (y2.trans kp) ?_ List.mem_cons_self ?_ (by rw [sz1]; omega) fun b ob e => Heap.get?_push_of_some _ (Heap.get?_push_of_some _ e)
    · rw [Heap.get?_push_size _ rfl, vl]; rfl
    · intro i v hv
      have hv' : (ps.map fun p => (es.toList.map (·.2)).getD p .none)[i]? = some v := hv
      rw [List.getElem?_map] at hv'
      obtain ⟨p, hp, ev⟩ := Option.map_eq_some_iff.mp hv'
      have hlt := inb p (List.mem_of_getElem? hp)
      refine ⟨p, es[p].1, hp, ?_⟩
      rw [Array.getElem?_eq_getElem hlt]
      congr 1
      rw [← ev]
      simp [hlt]
    · intro b hb'
      simp only [List.mem_cons, List.not_mem_nil, or_false] at hb'
      rcases hb' with rfl | rfl | rfl
      · exact .inr (by rw [sz1]; omega)
      · exact .inl rfl
      · exact .inr (Nat.le_refl _)
    · intro b hb'
      simp only [List.mem_cons, List.not_mem_nil, or_false] at hb'
      rw [Heap.size_push, sz1]
      rcases hb' with z | z | z
      · rw [z, sz1]; exact Nat.lt_succ_self _
      · rw [z]; exact Nat.lt_succ_of_lt (Nat.lt_succ_of_lt lta)
      · rw [z]; exact Nat.lt_succ_of_lt (Nat.lt_succ_self _)
  · rw [if_neg big]
    refine wpAny_bind (wpAny_pure ?_)
    refine wpAny_bind ?_; unfold setEpoch
    refine wpAny_bind (wpAny_setState_of ho hd hf (wpAny_pure ?_))
    dsimp only
    refine wpAny_bind (wpAny_newObj_type (wpAny_pure ⟨_, rfl, "set_iterator", _, ⟨_, Heap.get?_push_size _ rfl, rfl⟩, slot_it_next.lookup, ?_⟩))
    have fpk : ∀ b ∈ [s.heap.objs.size, a], b = a ∨ s.heap.objs.size ≤ b := fun b hb' => by
      simp only [List.mem_cons, List.not_mem_nil, or_false] at hb'
      rcases hb' with rfl | rfl
      · exact .inr (Nat.le_refl _)
      · exact .inl rfl
    have fpl : ∀ (oo : Obj), ∀ b ∈ [s.heap.objs.size, a], b < (s.heap.push oo).objs.size := fun oo b hb' => by
      simp only [List.mem_cons, List.not_mem_nil, or_false] at hb'
      rw [Heap.size_push]
      rcases hb' with z | z
      · rw [z]; exact Nat.lt_succ_self _
      · rw [z]; exact Nat.lt_succ_of_lt lta
    cases bt : w.params.followText "set-order" with
    | true =>
      have sv : ∀ next : Nat → Nat, ((pickOrder next es).toList.map (·.2)).Perm (es.toList.map (·.2)) := fun next => by
        unfold pickOrder
        have := pick_perm next es.size 0 es.toList #[] (by simp)
        exact (by simpa using this : (pickOrder.go next es.size 0 es.toList #[]).toList.Perm es.toList).map _
      obtain ⟨ys, y1, y2⟩ := strs_perm k1 (sv (w.params.setOrder a ep))
      have vl := (sv (w.params.setOrder a ep)).length_eq
      rw [List.length_map, Array.length_toList, List.length_map, Array.length_toList] at vl
      refine q _ s.drawn _ [_, a] ((pickOrder (w.params.setOrder a ep) es).toList.map (·.2)) ys (walk_int (o := o) (fun _ => 0) (Nat.ne_of_lt lta) hd hf (by rw [List.length_map, Array.length_toList, vl]) rfl (Heap.get?_push_of_some _ ho) ?_ ?_ ?_) y1 (y2.trans kp) fpk List.mem_cons_self (fpl _) (Nat.le_refl _) fun b ob e => Heap.get?_push_of_some _ e
      · rw [Heap.get?_push_size _ rfl, List.length_map, Array.length_toList, vl]; rfl
      · intro A s i v E' Q' ha hv hq
        unfold setNext setsByText
        refine wpAny_bind (wpAny_setState_of ha hd hf ?_); dsimp only
        refine wpAny_bind (wpAny_bind (wpAny_askSetting (wpAny_pure ?_)))
        show wpAny _ _ (if w.params.followText "set-order" = true then _ else _) _ _ _
        rw [if_pos bt, if_neg (by simp)]
        unfold setWalk setsByText
        refine wpAny_bind (wpAny_bind (wpAny_setState_of ha hd hf ?_)); dsimp only
        refine wpAny_bind (wpAny_bind (wpAny_askSetting (wpAny_pure ?_)))
        show wpAny _ _ (if w.params.followText "set-order" = true then _ else _) _ _ _
        rw [if_pos bt]
        refine wpAny_bind (wpAny_askSetting (wpAny_pure (wpAny_pure ?_)))
        show Q' (((pickOrder (w.params.setOrder a ep) es)[i]?).map fun e => (e.2, 0)) s
        rw [List.getElem?_map, Array.getElem?_toList] at hv
        obtain ⟨e, he, ev⟩ := Option.map_eq_some_iff.mp hv
        rw [he]
        show Q' (some (e.2, 0)) s
        rw [ev]; exact hq
      · intro A s E' Q' ha hq
        unfold setNext setsByText
        refine wpAny_bind (wpAny_setState_of ha hd hf ?_); dsimp only
        refine wpAny_bind (wpAny_bind (wpAny_askSetting (wpAny_pure ?_)))
        show wpAny _ _ (if w.params.followText "set-order" = true then _ else _) _ _ _
        rw [if_pos bt, if_neg (by simp)]
        unfold setWalk setsByText
        refine wpAny_bind (wpAny_bind (wpAny_setState_of ha hd hf ?_)); dsimp only
        refine wpAny_bind (wpAny_bind (wpAny_askSetting (wpAny_pure ?_)))
        show wpAny _ _ (if w.params.followText "set-order" = true then _ else _) _ _ _
        rw [if_pos bt]
        refine wpAny_bind (wpAny_askSetting (wpAny_pure (wpAny_pure ?_)))
        show Q' (((pickOrder (w.params.setOrder a ep) es)[((pickOrder (w.params.setOrder a ep) es).toList.map (·.2)).length]?).map fun e => (e.2, 0)) s
        rw [Array.getElem?_eq_none (by simp)]
        exact hq
    | false =>
      have few : es.size ≤ 1 := by
        rw [bt] at big
        by_cases z : es.size ≤ 1
        · exact z
        · have hp := hpl (by omega)
          rw [hp] at big
          exact absurd (by simp; omega) big
      have led : t.led = true := by rw [hled, bt]; rfl
      have hfp : t.place.size = es.size := by
        have := hf
        simp only [SetTable.fits, Bool.and_eq_true, beq_iff_eq, decide_eq_true_eq] at this
        exact this.1
      refine q _ s.drawn _ [_, a] (es.toList.map (·.2)) ks (walk_int (o := o) (fun i => if i = 0 then 0 else t.place.getD 0 0 + 1) (Nat.ne_of_lt lta) hd hf (by rw [List.length_map, Array.length_toList]) rfl (Heap.get?_push_of_some _ ho) ?_ ?_ ?_) k1 kp fpk List.mem_cons_self (fpl _) (Nat.le_refl _) fun b ob e => Heap.get?_push_of_some _ e
      · rw [Heap.get?_push_size _ rfl, List.length_map, Array.length_toList]; rfl
      · intro A s i v E' Q' ha hv hq
        rw [List.getElem?_map, Array.getElem?_toList] at hv
        obtain ⟨e, he, ev⟩ := Option.map_eq_some_iff.mp hv
        have hi : i < es.size := (Array.getElem?_eq_some_iff.mp he).1
        have i0 : i = 0 := by omega
        subst i0
        obtain ⟨pl, epl⟩ : ∃ j, t.place = #[j] := by
          have : t.place.size = 1 := by omega
          exact ⟨t.place[0], by apply Array.ext; · simp [this]
                                · intro k h1 h2; have : k = 0 := by omega
                                  subst this; simp⟩
        unfold setNext setsByText
        refine wpAny_bind (wpAny_setState_of ha hd hf ?_); dsimp only
        refine wpAny_bind (wpAny_bind (wpAny_askSetting (wpAny_pure ?_)))
        show wpAny _ _ (if w.params.followText "set-order" = true then _ else _) _ _ _
        rw [if_neg (by rw [bt]; exact Bool.false_ne_true)]
        show wpAny _ _ (if (!t.plain && decide (es.size > 1)) = true then _ else _) _ _ _
        rw [if_neg (by simp; omega)]
        show wpAny _ _ ((if (!t.led && !es.isEmpty) = true then unsupported "set:maker-not-led" else pure ()) >>= _) _ _ _
        rw [led, if_neg (by simp)]
        refine wpAny_bind (wpAny_pure ?_)
        rw [epl, if_pos rfl, below_one, if_neg (by omega), he]
        refine wpAny_pure ?_
        show Q' (some (e.2, pl + 1)) s
        rw [ev]
        have : (if 0 + 1 = 0 then 0 else t.place.getD 0 0 + 1) = pl + 1 := by rw [epl]; rfl
        rw [this] at hq
        exact hq
      · intro A s E' Q' ha hq
        unfold setNext setsByText
        refine wpAny_bind (wpAny_setState_of ha hd hf ?_); dsimp only
        refine wpAny_bind (wpAny_bind (wpAny_askSetting (wpAny_pure ?_)))
        show wpAny _ _ (if w.params.followText "set-order" = true then _ else _) _ _ _
        rw [if_neg (by rw [bt]; exact Bool.false_ne_true)]
        show wpAny _ _ (if (!t.plain && decide (es.size > 1)) = true then _ else _) _ _ _
        rw [if_neg (by simp; omega)]
        show wpAny _ _ ((if (!t.led && !es.isEmpty) = true then unsupported "set:maker-not-led" else pure ()) >>= _) _ _ _
        rw [led, if_neg (by simp)]
        refine wpAny_bind (wpAny_pure ?_)
        have out : es[SetTable.below t.place (if (es.toList.map (·.2)).length = 0 then 0 else t.place.getD 0 0 + 1)]? = none := by
          rw [List.length_map, Array.length_toList]
          by_cases z : es.size = 0
          · have : t.place = #[] := Array.eq_empty_of_size_eq_zero (by omega)
            rw [this, below_none]
            exact Array.getElem?_eq_none (by omega)
          · have e1 : es.size = 1 := by omega
            obtain ⟨pl, epl⟩ : ∃ j, t.place = #[j] := by
              have : t.place.size = 1 := by omega
              exact ⟨t.place[0], by apply Array.ext; · simp [this]
                                    · intro k h1 h2; have : k = 0 := by omega
                                      subst this; simp⟩
            rw [if_neg z, epl, below_one]
            have : #[pl].getD 0 0 = pl := rfl
            rw [this, if_pos (by omega)]
            exact Array.getElem?_eq_none (by omega)
        rw [out]
        exact wpAny_pure hq
end
end HS
namespace HS
open PySem PySem.Spec PyProof.Rows PySem.W
section
variable {P : Program} {w : World} {A : Around} {E : Value → Shared → Prop} {s : Shared} {a : Addr} {xs : List Str}
theorem hint_set {Q : Bool → Shared → Prop} (hT : s.TypeIs (.ref a) "set") (h : Q false s) : wpAny (model P w) A (Builtin.List.listLengthHint (.ref a)) Q E s := by
  unfold Builtin.List.listLengthHint
  refine wpAny_bind (wpAny_specialOf hT PySem.F.slot_set_len.lookup ?_); generalize hid : ("set.__len__" : String) = id0
  wp_delta
  rw [show splitId id0 = some ("set", "__len__") from by subst hid; decide +kernel]; subst hid
  refine wpAny_bind (wpAny_isInstance (T := "set") (b := true) hT (by rw [isSubtype_type]; kernel_rfl) ?_)
  refine wpAny_ite_split (fun z => absurd z (by decide)) fun _ => wpAny_ite_split (fun _ => ?_) fun z => absurd (by decide +kernel) z
  exact wpAny_bind (wpAny_typeOf hT (wpAny_pure h))
theorem extend_set {R : Result → Shared → Prop} (hh : A.handled = none) (hS : SetX P w s.heap a xs) (nd : xs.Nodup) (S : Addr) (hSa : S ≠ a) (res : Value) (c₀ : Nat) (hL : s.heap.get? S = some { cls := .type "list", data := .seq #[] c₀ })
    (hR : ∀ h' d' tk (vs : List Value) (ys : List Str) c', (∀ b o, b ≠ S → s.heap.get? b = some o → h'.get? b = some o) → h'.get? S = some { cls := .type "list", dict := none, data := .seq vs.toArray c', slots := #[] } → StrsAre vs ys → ys.Perm xs → R (.ok (.ret res)) { s with heap := h', drawn := d', toks := tk }) :
    wpAny (model P w) A.in1 (Builtin.List.listExtendWith (.ref S) (.ref a) res)
      (fun fin s' => match fin with | .done f => R (.ok f) s' | .again c' => c'.quiet = true ∧ codeAny (model P w) A c' R s') (fun e s' => R (.error e) s') s := by
  have hT := hS.typeIs
  have hsz : xs.length < scanBound := by obtain ⟨o, es, ep, t, ho, hex, hd, hel, hmem, hb, hf, hn, _⟩ := hS; omega
  unfold Builtin.List.listExtendWith
  refine wpAny_bind (wpAny_typeOf (T := "set") hT ?_)
  have h1 : Builtin.List.listSameRef (.ref S) (.ref a) = false := by simp [Builtin.List.listSameRef, hSa]
  have h2 : (Value.type "set" == Value.type "list") = false := by decide
  have h3 : (Value.type "set" == Value.type "tuple") = false := by decide
  simp only [h1, h2, h3, Bool.or_false, Bool.false_eq_true, if_false]
  refine wpAny_bind (iter_set hS nd fun h' d' I fp vs ys W v1 v2 f1 f2 f3 f4 k => ?_)
  obtain ⟨St, Wk, st⟩ := W.go
  have W1 := Wk A.in1 (by simpa using hh)
  have vl : vs.length = xs.length := by rw [strs_len v1, v2.length_eq]
  have hSf : S ∉ fp := fun z => by
    rcases f1 S z with e | e
    · exact hSa e
    · exact absurd (Heap.lt_size hL) (Nat.not_lt.mpr e)
  have Tn : Shared.TypeIs { s with heap := h', drawn := d' } (.ref a) "set" := by
    obtain ⟨o, e, c⟩ := hT; exact ⟨o, k _ _ e, c⟩
  refine wpAny_bind (wpAny_holding (hint_set Tn ?_))
  have hL1 := k _ _ hL
  have key : ∀ (h : Heap) (c₁ : Nat), St 0 h → (∀ b o, b ≠ S → s.heap.get? b = some o → h.get? b = some o) → h.get? S = some { cls := .type "list", data := .seq #[] c₁ } →
      codeAny (model P w) A (.builtin "list.extend.loop" ⟨[.ref S, .ref I, res], []⟩) R { s with heap := h, drawn := d' } := by
    intro h c₁ hst hk hS₁
    refine codeAny_extend_loopS W1.toS (by rw [vl]; exact fits_of_scanBound hsz) S hSf res vs.length 0 _ #[] c₁ rfl (Nat.zero_le _) hst hS₁ (ItemsOf.nil _) fun s' acc' c' hm hS' hacc => ?_
    rw [Moved.eq_with hm]
    have ev : acc'.toList = vs := by
      apply List.ext_getElem?
      intro j
      rw [Array.getElem?_toList]
      by_cases hj : j < vs.length
      · have hj' : j < acc'.size := by rw [hacc.1]; exact hj
        rw [Array.getElem?_eq_getElem hj']
        exact (hacc.2 j _ (Array.getElem?_eq_getElem hj')).symm
      · rw [Array.getElem?_eq_none (by rw [hacc.1]; omega), List.getElem?_eq_none (by omega)]
    refine hR s'.heap d' s'.toks vs ys c' (fun b o hb e => hm.heap b o (fun hmem => ?_) (hk b o hb e)) (by rw [hS', ← ev]) v1 v2
    rcases List.mem_cons.mp hmem with e' | hmem
    · exact hb e'
    · exact absurd (Heap.lt_size e) (by rw [List.mem_singleton.mp hmem]; exact Nat.not_lt.mpr f4)
  refine wpAny_ite_split (fun _ => ?_) (fun _ => wpAny_pure ⟨plainId_quiet PySem.F.plain_extend_loop _, key _ c₀ st (fun b o _ e => k b o e) hL1⟩)
  refine wpAny_bind (wpAny_rule (wpAny_bind ?_))
  show wpAny _ _ (updateSeq S (·.push .none) >>= fun _ => updateSeq S (·.pop)) _ _ _
  refine wpAny_bind (wpAny_updateSeq hL1 rfl ?_)
  have hS₂ := Heap.get?_update_self (Obj.mapSeq (·.push Value.none)) hL1 rfl
  refine wpAny_updateSeq (hz := by seq_fits) hS₂ rfl ?_
  have hS₃ := Heap.get?_update_self (Obj.mapSeq (·.pop)) hS₂ rfl
  have oth : ∀ b o, b ≠ S → h'.get? b = some o → ((h'.update S (Obj.mapSeq (·.push Value.none))).update S (Obj.mapSeq (·.pop))).get? b = some o := fun b o hb e => (Heap.get?_update_other _ _ (Ne.symm hb)).trans ((Heap.get?_update_other _ _ (Ne.symm hb)).trans e)
  exact wpAny_pure ⟨plainId_quiet PySem.F.plain_extend_loop _, key _ _ (W1.frame 0 _ _ st fun b hb o e => oth b o (fun z => hSf (z ▸ hb)) e) (fun b o hb e => oth b o hb (k b o e)) hS₃⟩
theorem collect_set {Q : List Value → Shared → Prop} (hh : A.handled = none) (hS : SetX P w s.heap a xs) (nd : xs.Nodup)
    (hQ : ∀ h' d' tk (vs : List Value) (ys : List Str), (∀ b o, s.heap.get? b = some o → h'.get? b = some o) → StrsAre vs ys → ys.Perm xs → Q vs { s with heap := h', drawn := d', toks := tk }) : wpAny (model P w) A (collect (.ref a)) Q E s := by
  unfold collect
  refine wpAny_bind (wpAny_runValue (codeAny_builtin PySem.F.entry_proto_collect ?_)); rw [Around.under_plainId PySem.F.plain_proto_collect _]
  show wpAny _ A.in1 (newList [] >>= fun l => again (.builtin "list.__iadd__" ⟨[l, .ref a], []⟩)) _ _ s
  refine wpAny_bind (wpAny_newObj_type (wpAny_pure ⟨plainId_quiet PySem.F.plain_list_iadd _, codeAny_builtin PySem.F.entry_list_iadd ?_⟩)); rw [Around.under_plainId PySem.F.plain_list_iadd _]
  show wpAny _ A.in1 (Builtin.List.listExtendWith (.ref s.heap.objs.size) (.ref a) (.ref s.heap.objs.size)) _ _ _
  have hn : s.heap.objs.size ≠ a := Nat.ne_of_gt hS.lt
  refine extend_set (R := fun r s' => match r with | .ok (.ret v) => wpAny (model P w) A (match v with | .ref a => (do match (← load a).data with | .seq xs _ => pure xs.toList | _ => unsupported "internal:collect") | _ => unsupported "internal:collect") Q E s' | .ok _ => False | .error e => E e s') (s := { s with heap := s.heap.push { cls := .type "list", data := .seq ([] : List Value).toArray } }) hh (hS.keep fun o e => Heap.get?_push_of_some _ e) nd _ hn _ 0 (Heap.get?_push_size _ rfl) fun h' d' tk vs ys c' k hl v1 v2 => ?_
  show wpAny _ A (load s.heap.objs.size >>= _) _ _ _
  refine wpAny_bind (wpAny_load hl (wpAny_pure ?_))
  exact hQ h' d' tk vs ys (fun b o e => k b o (Nat.ne_of_lt (Heap.lt_size e)) (Heap.get?_push_of_some _ e)) v1 v2
theorem sorted_set {Q : Value → Shared → Prop} (hh : A.handled = none) (hS : SetX P w s.heap a xs) (nd : xs.Nodup) (h63 : xs.length ≤ 63)
    (hQ : ∀ D c h' d' tk (vs : List Value) (ys : List Str), (∀ b o, s.heap.get? b = some o → h'.get? b = some o) → (∀ b o, s.heap.get? b = some o → b ≠ D) → h'.get? D = some (listOf vs.toArray c) → StrsAre vs ys → ys.Perm xs → sortedS ys = true → Q (.ref D) { s with heap := h', drawn := d', toks := tk }) :
    wpAny (model P w) A (call (.builtin "sorted") [.ref a]) Q E s := by
  refine Calls.call_function_entry kind_sorted plain_sorted entry_sorted (args_sorted1 _) ?_
  unfold Builtin.«sorted»
  refine wpAny_bind (m := checkCount "sorted" 1 1 _) (wpAny_pure (wpAny_bind (collect_set (by simpa using hh) hS nd fun h1 d1 t1 vs ys k1 v1 p1 => ?_)))
  have vl : vs.length = xs.length := by rw [strs_len v1, p1.length_eq]
  refine wpAny_bind (wpAny_newList ?_ (by rw [sizeLine_eq]; omega))
  have at1 : (h1.push (seqObj "list" vs.toArray 0)).get? h1.objs.size = some (seqObj "list" vs.toArray 0) := Heap.get?_push_size _ rfl
  refine wpAny_bind (wpAny_holding (wpAny_call_entry slot_list_sort ⟨_, at1, rfl⟩ entry_list_sort (list_sort_treeK strKind_oneLt at1 v1.keysOf (fun v₁ v₂ rest e => keyKind_strs (by rw [← e]; exact v1)) (by omega) fun st' a1 a2 => ⟨_, rfl, ?_⟩) (args_list_sort _)))
  obtain ⟨ss', b1, b2, b3⟩ := sorted_out_str v1 a1 a2
  obtain ⟨c, hc⟩ := sortedHeap_at (n := 0) (vs := vs) (out := (arrOf st').map (·.2)) at1
  refine wpAny_pure ⟨_, rfl, hQ _ c _ d1 t1 _ ss' (fun b o e => ?_) (fun b o e => Nat.ne_of_lt (Heap.lt_size (k1 b o e))) (by rw [hc]) b1 (b2.trans p1) b3⟩
  have e1 := k1 b o e
  have lt1 := Heap.lt_size e1
  rw [sortedHeap_old (Nat.ne_of_lt lt1) (by rw [size_push']; exact Nat.lt_succ_of_lt lt1), Heap.get?_push_ne _ _ _ (Nat.ne_of_lt lt1)]
  exact e1
end
end HS
namespace L2
open PySem PySem.Spec PyProof.Rows PySem.W HS
def SetO (P : Program) (w : World) (a : Addr) (xs : List Str) : HO := .ext fun h => xs.Nodup ∧ SetX P w h a xs
theorem setO_mk {P : Program} {w : World} {H : Hp} {h : Heap} {a : Addr} {xs : List Str} (nd : xs.Nodup) (x : SetX P w h a xs) : ObjOk P w H h a (SetO P w a xs) :=
  ⟨⟨nd, x⟩, (let ⟨o, _, _, _, e, _⟩ := x; ⟨o, e⟩), fun _ _ q k => ⟨q.1, q.2.keep k⟩⟩
theorem Inv.draw {X : Cx} {pins : List (Addr × Obj)} {σ : List (Option V)} {H : Hp} {s : Shared} (I : Inv X pins σ H s) (d : Drawn) : Inv X pins σ H { s with drawn := d } := ⟨I.ok, I.os, I.bare, I.base, I.loc, I.cell, I.free, I.freeC, I.pin, I.hok, I.len⟩
theorem strs_at : ∀ {vs : List Value} {ys : List Str}, StrsAre vs ys → ∀ (i : Nat) (v : Value), vs[i]? = some v → ∃ t, v = .str (ys.getD i "") t
  | _, _, .nil, i, v, h => by simp at h
  | _, _, .cons y t r, 0, v, h => by simp at h; exact ⟨t, by rw [← h]; rfl⟩
  | _, _, .cons y t r, i + 1, v, h => by
    obtain ⟨t', e⟩ := strs_at r i v (by simpa using h)
    exact ⟨t', by rw [e]; rfl⟩
section
variable {X : Cx}
theorem call_set (hc : X.calm = true) : CallR X (.type "set") (fun vs H Q => ∃ (p : Addr) (ss : List Str), vs = [.ref p] ∧ (SqL X.K H p (ss.map V.str) ∨ SqT X.K H p (ss.map V.str)) ∧ ss.length ≤ 1000 ∧ ∀ a ds, H a = none → ds.Nodup → (∀ y, y ∈ ds ↔ y ∈ ss) → Q (.ref a) (upd H a (SetO X.prog X.w a ds))) := by
  intro pins s σ H vs us Q I r h
  obtain ⟨p, ss, rfl, hq, h1k, q⟩ := h
  obtain ⟨u, rfl, rx⟩ := vals1 r
  cases rx
  have fin : ∀ (its : List Value) {T : String} {ol : Obj}, Vals (ss.map V.str) its → Src X.prog X.w T p ol its.toArray.size (fun i v => its.toArray[i]? = some v) → s.heap.get? p = some ol → wpAny (model X.prog X.w) X.A (call (.type "set") [.ref p]) (EP X pins σ Q) X.xe s := fun its {T ol} rv C hp => by
    have st := strsAre_of rv
    have hlen : its.length = ss.length := strs_len st
    refine call_setS (val := fun i => ss.getD i "") (I.ok.hd hc) C hp (fun i v hv => strs_at st i v (by simpa using hv)) (by rw [List.size_toArray, hlen]; unfold scanBound; omega) fun h' tk x k => ?_
    have kp : ∀ b o, s.heap.get? b = some o → h'.get? b = some o := fun b o e => k b o (Heap.lt_size e) e
    have nd := metS_nd (fun i => ss.getD i "") its.toArray.size
    refine ⟨.ref s.heap.objs.size, _, I.laid (t' := tk) kp (Nat.le_refl _) (setO_mk nd x), rfl, q _ _ (I.hok.fresh (Nat.le_refl _)) nd fun y => ?_⟩
    rw [metS_mem, List.size_toArray, hlen]
    constructor
    · rintro ⟨j, hj, rfl⟩
      rw [show ss.getD j "" = ss[j] by simp [hj]]
      exact List.getElem_mem hj
    · intro hy
      obtain ⟨j, hj, e⟩ := List.mem_iff_getElem.mp hy
      exact ⟨j, hj, by simp [hj, e]⟩
  rcases hq with hq | hq
  · obtain ⟨its, r', pl, hz⟩ := I.list hq
    obtain ⟨o, ho, hcl, n, hd⟩ := pl.isList
    exact fin its r' (src_list hcl ⟨n, hd⟩) ho
  · obtain ⟨its, r', pl, hz⟩ := I.tuple hq
    obtain ⟨o, ho, hcl, n, hd⟩ := pl
    exact fin its r' (src_tup hcl ⟨n, hd⟩) ho
theorem call_lenSet : CallR X (.builtin "len") (fun vs H Q => ∃ (a : Addr) (ds : List Str), vs = [.ref a] ∧ H a = some (SetO X.prog X.w a ds) ∧ Q (.int ds.length) H) := by
  intro pins s σ H vs us Q I r h
  obtain ⟨a, ds, rfl, hq, q⟩ := h
  obtain ⟨u, rfl, rx⟩ := vals1 r
  cases rx
  obtain ⟨⟨nd, o, es, ep, t, ho, hex, hd, hel, hmem, hb, hf, hn, _⟩, _⟩ := (show ObjOk X.prog X.w H s.heap a (SetO X.prog X.w a ds) from I.hok a _ hq)
  refine call_len_set ho hex hd hf (by unfold scanBound at hb; omega) ?_
  rw [← hn] at q
  exact ⟨.int es.size, H, I.tok _, ⟨_, rfl⟩, q⟩
theorem call_sortedSet (hc : X.calm = true) : CallR X (.builtin "sorted") (fun vs H Q => ∃ (a : Addr) (ds : List Str), vs = [.ref a] ∧ H a = some (SetO X.prog X.w a ds) ∧ ds.length ≤ 63 ∧ ∀ D ss', H D = none → ss'.Perm ds → sortedS ss' = true → Q (.ref D) (upd H D (.lst (ss'.map V.str)))) := by
  intro pins s σ H vs us Q I r h
  obtain ⟨a, ds, rfl, hq, h63, q⟩ := h
  obtain ⟨u, rfl, rx⟩ := vals1 r
  cases rx
  obtain ⟨⟨nd, x⟩, _⟩ := (show ObjOk X.prog X.w H s.heap a (SetO X.prog X.w a ds) from I.hok a _ hq)
  obtain ⟨m, hm, _⟩ := id I.loc
  refine sorted_set (I.ok.hd hc) x nd h63 fun D c h' d' tk out ys k hD new st p srt => ?_
  obtain ⟨hn, I'⟩ := Inv.sorted (t' := tk) (ys := ys.map V.str) I hm (hm.at' fun o e => k _ _ e) (fun b o _ e => k b o e) hD new (vals_strs st) (by rw [List.length_map, p.length_eq, sizeLine_eq]; omega)
  exact ⟨.ref D, _, I'.draw d', rfl, q _ ys hn p srt⟩
end
end L2
namespace L2
open PySem PySem.W PySem.Calls PyProof.Rows
end L2
namespace L2
open PySem PySem.W PySem.Calls PyProof.Rows
end L2
namespace HS
open PySem PySem.Spec PyProof.Rows PySem.W
section
variable {P : Program} {w : World} {A : Around} {E : Value → Shared → Prop} {s : Shared}
theorem collect_tup {l : Addr} {vs : List Value} {Q : List Value → Shared → Prop} (ht : IsTup s.heap l vs.toArray) (hz : vs.length ≤ sizeLine) (q : ∀ h', (∀ b o, s.heap.get? b = some o → h'.get? b = some o) → Q vs { s with heap := h' }) :
    wpAny (model P w) A (collect (.ref l)) Q E s := by
  obtain ⟨o, ho, hc, n, hd⟩ := id ht
  unfold collect
  refine wpAny_bind (wpAny_runValue (codeAny_builtin PySem.F.entry_proto_collect ?_)); rw [Around.under_plainId PySem.F.plain_proto_collect _]
  show wpAny _ A.in1 (newList [] >>= fun z => again (.builtin "list.__iadd__" ⟨[z, .ref l], []⟩)) _ _ s
  refine wpAny_bind (wpAny_newList (wpAny_pure ⟨plainId_quiet PySem.F.plain_list_iadd _, codeAny_builtin PySem.F.entry_list_iadd ?_⟩)); rw [Around.under_plainId PySem.F.plain_list_iadd _]
  show wpAny _ _ (Builtin.List.listExtendWith (.ref s.heap.objs.size) (.ref l) (.ref s.heap.objs.size)) _ _ { s with heap := s.heap.push (seqObj "list" #[] 0) }
  unfold Builtin.List.listExtendWith
  have ho2 : (s.heap.push (seqObj "list" #[] 0)).get? l = some o := Heap.get?_push_of_some _ ho
  refine wpAny_bind (wpAny_typeOf (T := "tuple") ⟨o, ho2, hc⟩ ?_)
  have t1 : (Value.type "tuple" == Value.type "tuple") = true := by rfl
  rw [if_pos (by rw [t1]; simp)]
  refine wpAny_bind (listItems_at ho2 hd (wpAny_bind (listItems_at (xs := #[]) (n := 0) (Heap.get?_push_size _ rfl) rfl ?_)))
  rw [if_neg (by simp)]
  refine wpAny_bind (listUpdate_at (xs := #[]) (n := 0) (Heap.get?_push_size _ rfl) rfl (wpAny_pure ?_) (Nat.zero_le _) (by show (#[] ++ vs.toArray).size ≤ sizeLine + 1; simp only [Array.size_append, List.size_toArray, List.length_nil]; omega))
  show wpAny (model P w) A (load s.heap.objs.size >>= _) Q E { s with heap := (s.heap.push (seqObj "list" #[] 0)).update s.heap.objs.size (Obj.mapSeq (· ++ vs.toArray)) }
  refine wpAny_bind (wpAny_load (get?_update_seq (Heap.get?_push_size _ rfl) _) ?_)
  show wpAny _ _ (pure ((#[] : Array Value) ++ vs.toArray).toList) Q E _
  rw [show ((#[] : Array Value) ++ vs.toArray).toList = vs by simp]
  refine wpAny_pure (q _ fun b ob e => ?_)
  exact (Heap.get?_update_other _ _ (Nat.ne_of_gt (Heap.lt_size e))).trans (Heap.get?_push_of_some _ e)
theorem sorted_tup {l : Addr} {vs : List Value} {ys : List Str} {Q : Value → Shared → Prop} (ht : IsTup s.heap l vs.toArray) (v1 : StrsAre vs ys) (h63 : vs.length ≤ 63)
    (hQ : ∀ D c h' (us : List Value) (zs : List Str), (∀ b o, s.heap.get? b = some o → h'.get? b = some o) → (∀ b o, s.heap.get? b = some o → b ≠ D) → h'.get? D = some (listOf us.toArray c) → StrsAre us zs → zs.Perm ys → sortedS zs = true → Q (.ref D) { s with heap := h' }) :
    wpAny (model P w) A (call (.builtin "sorted") [.ref l]) Q E s := by
  refine Calls.call_function_entry kind_sorted plain_sorted entry_sorted (args_sorted1 _) ?_
  unfold Builtin.«sorted»
  refine wpAny_bind (m := checkCount "sorted" 1 1 _) (wpAny_pure (wpAny_bind (collect_tup ht (by rw [sizeLine_eq]; omega) fun h1 k1 => ?_)))
  refine wpAny_bind (wpAny_newList ?_ (by rw [sizeLine_eq]; omega))
  have at1 : (h1.push (seqObj "list" vs.toArray 0)).get? h1.objs.size = some (seqObj "list" vs.toArray 0) := Heap.get?_push_size _ rfl
  refine wpAny_bind (wpAny_holding (wpAny_call_entry slot_list_sort ⟨_, at1, rfl⟩ entry_list_sort (list_sort_treeK strKind_oneLt at1 v1.keysOf (fun v₁ v₂ rest e => keyKind_strs (by rw [← e]; exact v1)) (by omega) fun st' a1 a2 => ⟨_, rfl, ?_⟩) (args_list_sort _)))
  obtain ⟨ss', b1, b2, b3⟩ := sorted_out_str v1 a1 a2
  obtain ⟨c, hc⟩ := sortedHeap_at (n := 0) (vs := vs) (out := (arrOf st').map (·.2)) at1
  refine wpAny_pure ⟨_, rfl, hQ _ c _ _ ss' (fun b o e => ?_) (fun b o e => Nat.ne_of_lt (Heap.lt_size (k1 b o e))) (by rw [hc]) b1 b2 b3⟩
  have e1 := k1 b o e
  have lt1 := Heap.lt_size e1
  rw [sortedHeap_old (Nat.ne_of_lt lt1) (by rw [size_push']; exact Nat.lt_succ_of_lt lt1), Heap.get?_push_ne _ _ _ (Nat.ne_of_lt lt1)]
  exact e1
end
end HS
namespace L2
open PySem PySem.Spec PyProof.Rows PySem.W HS
section
variable {X : Cx}
theorem call_sortedT : CallR X (.builtin "sorted") (fun xs H Q => ∃ (p : Addr) (ss : List Str), xs = [.ref p] ∧ SqT X.K H p (ss.map V.str) ∧ ss.length ≤ 63 ∧ ∀ D ss', H D = none → ss'.Perm ss → sortedS ss' = true → Q (.ref D) (upd H D (.lst (ss'.map V.str)))) := by
  intro pins s σ H xs us Q I r ⟨p, ss, ex, hq, h63, q⟩
  subst ex
  obtain ⟨u, rfl, rx⟩ := vals1 r
  cases rx
  obtain ⟨its, rv, pl, hz⟩ := I.tuple hq
  have st := strsAre_of rv
  have hl := strs_len st
  obtain ⟨m, hm, _⟩ := id I.loc
  refine sorted_tup pl st (by omega) fun D c h' out ys k hD new st' p' srt => ?_
  obtain ⟨hn, I'⟩ := Inv.sorted (t' := s.toks) (ys := ys.map V.str) I hm (hm.at' fun o e => k _ _ e) (fun b o _ e => k b o e) hD new (vals_strs st') (by rw [List.length_map, p'.length_eq, sizeLine_eq]; omega)
  exact ⟨.ref D, _, I', rfl, q _ ys hn p' srt⟩
theorem op_isB : OpR X (compareOp .Is) (fun x y H Q => ∃ a b, x = .bl a ∧ y = .bl b ∧ Q (.bl (a == b)) H) := by
  intro pins s σ H x y v u Q I rx ry h
  obtain ⟨a, b, rfl, rfl, q⟩ := h
  cases rx; cases ry
  exact is_bool (fin_bl I q rfl)
end
end L2
namespace L2
open PySem PySem.Spec PyProof.Rows PySem.W
mutual
inductive Dt (p : Addr) (H : Hp) : V → PyData → Prop where
  | non : Dt p H .non .none
  | bl (b : Bool) : Dt p H (.bl b) (.bool b)
  | int (i : Int) : Dt p H (.int i) (.int i)
  | str (x : Str) : Dt p H (.str x) (.str x)
  | lst {a : Addr} {xs : List V} {ds : List PyData} : a ≠ p → H a = some (.lst xs) → Dts p H xs ds → Dt p H (.ref a) (.list ds)
  | tup {a : Addr} {xs : List V} {ds : List PyData} : a ≠ p → H a = some (.tup xs) → Dts p H xs ds → Dt p H (.ref a) (.tuple ds)
  | dct {a : Addr} : a ≠ p → H a = some (.dK []) → Dt p H (.ref a) (.dict [])
inductive Dts (p : Addr) (H : Hp) : List V → List PyData → Prop where
  | nil : Dts p H [] []
  | cons {x : V} {d : PyData} {xs : List V} {ds : List PyData} : Dt p H x d → Dts p H xs ds → Dts p H (x :: xs) (d :: ds)
end
section
variable {p : Addr} {H H' : Hp}
mutual
theorem Dt.keep (k : ∀ b o, H b = some o → b ≠ p → H' b = some o) : ∀ {v : V} {d : PyData}, Dt p H v d → Dt p H' v d
  | _, _, .non => .non
  | _, _, .bl b => .bl b
  | _, _, .int i => .int i
  | _, _, .str x => .str x
  | _, _, .lst n e rs => .lst n (k _ _ e n) (Dts.keep k rs)
  | _, _, .tup n e rs => .tup n (k _ _ e n) (Dts.keep k rs)
  | _, _, .dct n e => .dct n (k _ _ e n)
theorem Dts.keep (k : ∀ b o, H b = some o → b ≠ p → H' b = some o) : ∀ {vs : List V} {ds : List PyData}, Dts p H vs ds → Dts p H' vs ds
  | _, _, .nil => .nil
  | _, _, .cons r rs => .cons (Dt.keep k r) (Dts.keep k rs)
end
theorem Dts.length : ∀ {vs : List V} {ds : List PyData}, Dts p H vs ds → vs.length = ds.length
  | _, _, .nil => rfl
  | _, _, .cons _ rs => by rw [List.length_cons, List.length_cons, Dts.length rs]
theorem Dts.get : ∀ {vs : List V} {ds : List PyData}, Dts p H vs ds → ∀ {i : Nat} {d : PyData}, ds[i]? = some d → ∃ v, vs[i]? = some v ∧ Dt p H v d
  | _, _, .nil, i, v, h => by cases h
  | _, _, .cons r rs, 0, v, h => by cases h; exact ⟨_, rfl, r⟩
  | _, _, .cons r rs, i + 1, v, h => Dts.get rs (by simpa using h)
theorem Dts.app : ∀ {vs ws : List V} {ds es : List PyData}, Dts p H vs ds → Dts p H ws es → Dts p H (vs ++ ws) (ds ++ es)
  | _, _, _, _, .nil, r => r
  | _, _, _, _, .cons a as, r => .cons a (Dts.app as r)
theorem Dts.take : ∀ {vs : List V} {ds : List PyData} (n : Nat), Dts p H vs ds → Dts p H (vs.take n) (ds.take n)
  | _, _, 0, _ => .nil
  | _, _, _ + 1, .nil => .nil
  | _, _, n + 1, .cons a as => .cons a (Dts.take n as)
theorem Dts.drop : ∀ {vs : List V} {ds : List PyData} (n : Nat), Dts p H vs ds → Dts p H (vs.drop n) (ds.drop n)
  | _, _, 0, r => r
  | _, _, _ + 1, .nil => .nil
  | _, _, n + 1, .cons _ as => Dts.drop n as
end
def tyD : PyData → String
  | .none => "NoneType"
  | .bool _ => "bool"
  | .int _ => "int"
  | .str _ => "str"
  | .list _ => "list"
  | .tuple _ => "tuple"
  | .dict _ => "dict"
def isT (T : String) (d : PyData) : Bool := tyD d == T || (tyD d == "bool" && T == "int")
theorem Dt.ty {p : Addr} {H : Hp} {K : Frag} {v : V} {d : PyData} (r : Dt p H v d) : TyOf K H v (.type (tyD d)) := by
  cases r with
  | non => exact .non
  | bl b => exact .bl b
  | int i => exact .int i
  | str x => exact .str x
  | lst n e _ => exact .lst e
  | tup n e _ => exact .tup e
  | dct n e => exact .dK e
theorem kit_int (K : Frag) (d : PyData) : kitOne K (.type (tyD d)) (.type "int") = some (isT "int" d) := by cases d <;> rfl
theorem kit_bool (K : Frag) (d : PyData) : kitOne K (.type (tyD d)) (.type "bool") = some (isT "bool" d) := by cases d <;> rfl
theorem kit_str (K : Frag) (d : PyData) : kitOne K (.type (tyD d)) (.type "str") = some (isT "str" d) := by cases d <;> rfl
theorem kit_tuple (K : Frag) (d : PyData) : kitOne K (.type (tyD d)) (.type "tuple") = some (isT "tuple" d) := by cases d <;> rfl
theorem isi_sp {T : String} {p : Addr} {H : Hp} {K : Frag} {v : V} {d : PyData} {Q : VK} (kt : ∀ (K : Frag) (d : PyData), kitOne K (.type (tyD d)) (.type T) = some (isT T d)) (r : Dt p H v d) (q : Q (.bl (isT T d)) H) :
    (∃ x, (∃ C, [v, V.ty T] = [x, .ref C]) ∨ (∃ T', [v, V.ty T] = [x, .ty T'])) ∧ rIsi K [v, .ty T] H Q := ⟨⟨v, .inr ⟨T, rfl⟩⟩, v, .ty T, .type (tyD d), .type T, _, rfl, rfl, .inl r.ty, kt K d, q⟩
end L2
namespace HT
open PySem PyProof.Rows
section
open PySem.SeqAt
open PySem.AutoSeq1 (wpAny_loadPart')
open PySem.MeetsSeq PySem.MeetsSeq2 PySem.MeetsSeq3
theorem dict_eq_declines_str (l : Addr) (es : Array DictEntry) (ep : Nat) (dd : Option Addr) (sl : Array (Option Value)) (b : Str) (u : Tok) :
    Meets (Builtin.«dict.__eq__» ⟨[.ref l, .str b u], []⟩) (fun _ R s => s.heap.get? l = some { cls := .type "dict", dict := dd, data := .dict es ep, slots := sl } ∧ R (.ok (.ret .notImplemented)) s) :=
  .of_wp fun prog w A R s h => by obtain ⟨hp, g, d, tk, os⟩ := s; obtain ⟨hl, h⟩ := h; have f1 := F.sub_str_dict; wp_walk using wpAny_loadPart' hl, wpAny_load hl; exact ⟨_, rfl, h⟩
theorem str_eq_declines_dict (b : Str) (u : Tok) (l : Addr) (es : Array DictEntry) (ep : Nat) (dd : Option Addr) (sl : Array (Option Value)) :
    Meets (Builtin.«str.__eq__» ⟨[.str b u, .ref l], []⟩) (fun _ R s => s.heap.get? l = some { cls := .type "dict", dict := dd, data := .dict es ep, slots := sl } ∧ R (.ok (.ret .notImplemented)) s) :=
  .of_wp fun prog w A R s h => by obtain ⟨hp, g, d, tk, os⟩ := s; obtain ⟨hl, h⟩ := h; wp_walk using wpAny_loadPart' hl, wpAny_load hl; exact ⟨_, rfl, h⟩
variable {A : Around} {s : Shared}
theorem rc_str_dict {l : Addr} {es : Array DictEntry} {ep : Nat} {o : Obj} (b : Str) (u : Tok) (ho : s.heap.get? l = some o) (hc : o.cls = .type "dict") (hd : o.data = .dict es ep) (hu : A.units < cLine) : RcAt A s (.str b u) (.ref l) false := fun prog w E Q h => by
  obtain ⟨cls, dd, data, sl⟩ := o
  simp only at hc hd
  subst hc hd
  exact rc_eq_decline_or (k := false) (typeIs_str s b u) ⟨_, ho, rfl⟩ (by decide) F.sub_dict_str F.slot_str_eq F.slot_dict_eq_refl
    (fun _ hq => call_meets F.slot_str_eq (typeIs_str s b u) F.entry_str_eq (F.args_str_eq_2 _ _) (str_eq_declines_dict b u l es ep dd sl) ⟨ho, hq⟩)
    (fun _ hq => call_meets F.slot_dict_eq_refl ⟨_, ho, rfl⟩ F.entry_dict_eq (F.args_dict_eq_2 _ _) (dict_eq_declines_str l es ep dd sl b u) ⟨ho, hq⟩)
    (fun _ hq => wpAny_of_eq (rfl : isSame (.str b u) (.ref l) = pure false) hq) (.inr hu) h
theorem eqAt_str_dict {l : Addr} {es : Array DictEntry} {ep : Nat} {o : Obj} (b : Str) (u : Tok) (ho : s.heap.get? l = some o) (hc : o.cls = .type "dict") (hd : o.data = .dict es ep) (hu : A.units < cLine) : EqAt A s (.str b u) (.ref l) false := fun prog w E Q h => by
  unfold eqBool
  refine wpAny_holding ?_
  refine wpAny_ite_split (fun hab => absurd (eq_of_beq hab) nofun) (fun _ => ?_)
  exact wpAny_bind (rc_str_dict b u ho hc hd hu prog w E _ (wpAny_truthy_bool h))
end
end HT
namespace L2
open PySem PySem.Spec PyProof.Rows PySem.W HT
def isS (c : Str) (d : PyData) : Bool := match d with | .str x => x == c | _ => false
section
variable {X : Cx} {pins : List (Addr × Obj)} {σ : St} {H : Hp} {s : Shared} {p : Addr} {v : V} {d : PyData} {u : Value}
theorem Dt.eqS (I : Inv X pins σ H s) (r : Dt p H v d) (ru : RelV v u) (c : Str) (t : Tok) {A : Around} (hu : A.units < cLine) : SeqAt.EqAt A s (.str c t) u (isS c d) := by
  cases r with
  | non => cases ru; exact SeqAt.EqAt.str_none c t
  | bl b => cases ru; exact SeqAt.EqAt.str_bool c t b
  | int i => obtain ⟨k, rfl⟩ := ru; exact SeqAt.EqAt.str_int c t i k
  | str x => obtain ⟨k, rfl⟩ := ru; rw [show isS c (.str x) = (c == x) from Bool.beq_comm]; exact SeqAt.EqAt.str_str c t x k
  | @lst a xs ds n ea _ =>
    cases ru
    obtain ⟨its, _, pl, _⟩ := I.list (SqL.of ea)
    exact SeqAt.EqAt.str_list c t pl.isList hu
  | @tup a xs ds n ea _ =>
    cases ru
    obtain ⟨its, _, pl, _⟩ := I.tuple (SqT.of ea)
    exact SeqAt.EqAt.str_tuple c t pl hu
  | @dct a n ea =>
    cases ru
    obtain ⟨_, _, vs, _, o, es, ep, g1, g2, g3, _⟩ := (show ObjOk X.prog X.w H s.heap a (.dK []) from I.hok a _ ea)
    exact eqAt_str_dict c t g1 g2.1 g3 hu
end
section
variable {X : Cx}
theorem strs_vals : ∀ {cs : List Str} {us : List Value}, Vals (cs.map V.str) us → ∀ w ∈ us, ∃ c t, c ∈ cs ∧ w = Value.str c t
  | [], _, r, w, h => by cases r; cases h
  | c :: cs, _, r, w, h => by
    cases r with
    | cons a b =>
      rcases List.mem_cons.mp h with rfl | h
      · obtain ⟨t, rfl⟩ := a; exact ⟨c, t, List.mem_cons_self, rfl⟩
      · obtain ⟨c', t, m, e⟩ := strs_vals b w h; exact ⟨c', t, List.mem_cons_of_mem _ m, e⟩
def strOf? : Value → Option Str | .str c _ => some c | _ => none
theorem any_strs (g : Str → Bool) : ∀ {cs : List Str} {us : List Value}, Vals (cs.map V.str) us → (us.any fun w => match strOf? w with | some c => g c | none => false) = cs.any g
  | [], _, r => by cases r; rfl
  | c :: cs, _, r => by
    cases r with
    | cons a b => obtain ⟨t, rfl⟩ := a; rw [List.any_cons, List.any_cons, any_strs g b]; rfl
def rEqT0 : R2 := fun x y H Q => ∃ a b xs, x = .ref a ∧ y = .ref b ∧ H a = some (.tup xs) ∧ H b = some (.tup []) ∧ Q (.bl xs.isEmpty) H
theorem op_eqT0 (hu : X.A.units + 64 < cLine) : OpR X (compareOp .Eq) rEqT0 := by
  intro pins s σ H x y v u Q I rx ry h
  obtain ⟨a, b, xs, rfl, rfl, ha, hb, q⟩ := h
  cases rx; cases ry
  obtain ⟨its, rv, pl, _⟩ := I.tuple (SqT.of ha)
  obtain ⟨its2, rv2, pl2, _⟩ := I.tuple (SqT.of hb)
  cases rv2
  refine SeqAt.eq_tupleAt (e := fun _ => true) pl pl2 (by omega) (fun j h1 h2 => absurd h2 (by simp)) ⟨.bl _, H, I, rfl, ?_⟩
  have e : its.length = xs.length := rv.length.symm
  rw [show ((List.range (min its.toArray.size ([] : List Value).toArray.size)).all (fun _ => true) && its.toArray.size == ([] : List Value).toArray.size) = xs.isEmpty from by
    cases xs with
    | nil => simp only [List.length_nil, List.length_eq_zero_iff] at e; subst e; rfl
    | cons x xs =>
      cases its with
      | nil => cases e
      | cons i its => simp]
  exact q
end
end L2
namespace L2
open PySem PySem.Spec PyProof.Rows PySem.W HT
section
variable {X : Cx} {pins : List (Addr × Obj)} {σ : St} {H : Hp} {s : Shared} {p : Addr}
mutual
theorem Dt.reads (I : Inv X pins σ H s) : ∀ {v : V} {d : PyData} {u : Value}, Dt p H v d → RelV v u → ∃ as, Reads s.heap u d as
  | _, _, _, .non, r => by cases r; exact ⟨_, .none⟩
  | _, _, _, .bl b, r => by cases r; exact ⟨_, .bool b⟩
  | _, _, _, .int i, r => by obtain ⟨t, rfl⟩ := r; exact ⟨_, .int i t⟩
  | _, _, _, .str x, r => by obtain ⟨t, rfl⟩ := r; exact ⟨_, .str x t⟩
  | _, _, _, .lst (a := a) (xs := xs) _ e rs, r => by
    cases r
    obtain ⟨_, its, n, rv, at_⟩ := (show ObjOk X.prog X.w H s.heap a (.lst xs) from I.hok a _ e)
    obtain ⟨as, ra⟩ := Dts.reads I rs rv
    exact ⟨_, .list at_ rfl rfl ra⟩
  | _, _, _, .tup (a := a) (xs := xs) _ e rs, r => by
    cases r
    obtain ⟨_, its, rv, ob, at_, hc, n, hd, _⟩ := (show ObjOk X.prog X.w H s.heap a (.tup xs) from I.hok a _ e)
    obtain ⟨as, ra⟩ := Dts.reads I rs rv
    exact ⟨_, .tuple at_ hc hd ra⟩
  | _, _, _, .dct (a := a) _ e, r => by
    cases r
    obtain ⟨_, _, vs, kv, o, es, ep, g1, g2, g3, _, g4, _⟩ := (show ObjOk X.prog X.w H s.heap a (.dK []) from I.hok a _ e)
    cases kv
    have e0 : es.toList = [] := by cases h : es.toList with
      | nil => rfl
      | cons a b => rw [h] at g4; cases g4
    exact ⟨_, .dict (kvs := []) g1 g2.1 g3 (by rw [e0]; exact .nil) (by rw [e0]; exact .nil)⟩
theorem Dts.reads (I : Inv X pins σ H s) : ∀ {vs : List V} {ds : List PyData} {us : List Value}, Dts p H vs ds → Vals vs us → ∃ as, ReadsAll s.heap us ds as
  | _, _, _, .nil, r => by cases r; exact ⟨_, .nil⟩
  | _, _, _, .cons r rs, rv => by
    cases rv with
    | cons q qs =>
      obtain ⟨as, h1⟩ := Dt.reads I r q
      obtain ⟨bs, h2⟩ := Dts.reads I rs qs
      exact ⟨_, .cons h1 h2⟩
end
mutual
theorem Dt.reprK (I : Inv X pins σ H s) : ∀ {v : V} {d : PyData} {u : Value}, Dt p H v d → RelV v u → d.showable = true → d.shown.length ≤ sizeLine → ∃ bs, ReadAtMost s.heap d.depth bs ∧ ReprK X.prog X.w bs s.heap d.depth u d.shown
  | _, _, _, .non, r, _, _ => by cases r; exact ⟨[], (fun _ h => nomatch h), by simp only [PyData.shown]; exact .of_is ReprIs.none _ _ _⟩
  | _, _, _, .bl b, r, _, _ => by cases r; exact ⟨[], (fun _ h => nomatch h), by simp only [PyData.shown]; exact .of_is (ReprIs.bool b) _ _ _⟩
  | _, _, _, .int i, r, hs, _ => by obtain ⟨t, rfl⟩ := r; exact ⟨[], (fun _ h => nomatch h), by simp only [PyData.shown]; exact .of_is (ReprIs.int t (by simpa [PyData.showable] using hs)) _ _ _⟩
  | _, _, _, .str x, r, _, hz => by obtain ⟨t, rfl⟩ := r; exact ⟨[], (fun _ h => nomatch h), by simp only [PyData.shown]; exact .of_is (ReprIs.str x t (by simpa only [PyData.shown] using hz)) _ _ _⟩
  | _, _, _, .lst (a := a) (xs := xs) (ds := ds) n e rs, r, hs, hz => by
    cases r
    obtain ⟨_, its, n', rv, h1⟩ := (show ObjOk X.prog X.w H s.heap a (.lst xs) from I.hok a _ e)
    have hz' : (listText (PyData.shownAll ds)).length ≤ sizeLine := by simpa only [PyData.shown] using hz
    obtain ⟨bs, hb, hk⟩ := Dts.reprK I rs rv (by simpa [PyData.showable] using hs) (fun t ht => Nat.le_trans (listText_mem_le ht) hz')
    obtain ⟨as, ra⟩ := Dts.reads I rs rv
    have r : Reads s.heap (.ref a) (.list ds) _ := .list h1 rfl rfl ra
    have hna : a ∉ bs := not_mem_of_deeper r (by simp only [PyData.depth]; omega) hb
    refine ⟨a :: bs, ReadAtMost.cons r (by simp only [PyData.depth]; omega) hb, ?_⟩
    simp only [PyData.depth, PyData.shown]
    cases its with
    | nil =>
      cases ra
      simp only [PyData.shownAll, listText_nil]
      exact ReprK.listEmpty h1 rfl rfl
    | cons x l => exact ReprK.list h1 rfl rfl hna (by simpa using hk.length_eq) (fun i y e => hk.item i y (by simpa using e))
  | _, _, _, .tup (a := a) (xs := xs) (ds := ds) n e rs, r, hs, hz => by
    cases r
    obtain ⟨_, its, rv, ob, h1, h2, n', h3, _⟩ := (show ObjOk X.prog X.w H s.heap a (.tup xs) from I.hok a _ e)
    have hz' : (tupleText (PyData.shownAll ds)).length ≤ sizeLine := by simpa only [PyData.shown] using hz
    obtain ⟨bs, hb, hk⟩ := Dts.reprK I rs rv (by simpa [PyData.showable] using hs) (fun t ht => Nat.le_trans (tupleText_mem_le ht) hz')
    obtain ⟨as, ra⟩ := Dts.reads I rs rv
    have r : Reads s.heap (.ref a) (.tuple ds) _ := .tuple h1 h2 h3 ra
    have hna : a ∉ bs := not_mem_of_deeper r (by simp only [PyData.depth]; omega) hb
    refine ⟨a :: bs, ReadAtMost.cons r (by simp only [PyData.depth]; omega) hb, ?_⟩
    simp only [PyData.depth, PyData.shown]
    exact ReprK.tuple h1 h2 h3 hna hk
  | _, _, _, .dct (a := a) n e, r, hs, hz => by
    cases r
    obtain ⟨as, rd⟩ := Dt.reads I (.dct n e) (rfl : RelV (.ref a) (.ref a))
    obtain ⟨_, ns, vs, kv, o, es, ep, g1, g2, g3, _, g4, _⟩ := (show ObjOk X.prog X.w H s.heap a (.dK []) from I.hok a _ e)
    cases kv
    have e0 : es.toList = [] := by cases h : es.toList with
      | nil => rfl
      | cons a b => rw [h] at g4; cases g4
    refine ⟨a :: [], ReadAtMost.cons rd (Nat.zero_le _) (fun _ h => nomatch h), ?_⟩
    exact ReprK.dict (as := []) (d := 0) (ps := []) g1 g2.1 g3 ns (by simp) (by rw [e0]; exact .nil)
theorem Dts.reprK (I : Inv X pins σ H s) : ∀ {vs : List V} {ds : List PyData} {us : List Value}, Dts p H vs ds → Vals vs us → PyData.showableAll ds = true → (∀ t ∈ PyData.shownAll ds, t.length ≤ sizeLine) →
    ∃ bs, ReadAtMost s.heap (PyData.depthAll ds) bs ∧ ReprAllK X.prog X.w bs s.heap (PyData.depthAll ds) us (PyData.shownAll ds)
  | _, _, _, .nil, r, _, _ => by cases r; exact ⟨[], (fun _ h => nomatch h), by simp only [PyData.shownAll]; exact .nil⟩
  | _, _, _, .cons (d := d) (ds := ds) r rs, rv, hs, hz => by
    cases rv with
    | cons q qs =>
      have hs' : d.showable = true ∧ PyData.showableAll ds = true := by simpa [PyData.showableAll] using hs
      obtain ⟨b1, hb1, k1⟩ := Dt.reprK I r q hs'.1 (hz _ (by simp only [PyData.shownAll]; exact List.mem_cons_self ..))
      obtain ⟨b2, hb2, k2⟩ := Dts.reprK I rs qs hs'.2 (fun t ht => hz t (by simp only [PyData.shownAll]; exact List.mem_cons_of_mem _ ht))
      refine ⟨b1 ++ b2, ?_, ?_⟩
      · simp only [PyData.depthAll]
        exact (hb1.mono (Nat.le_max_left _ _)).append (hb2.mono (Nat.le_max_right _ _))
      · simp only [PyData.depthAll, PyData.shownAll]
        exact .cons ((k1.more fun b hb => List.mem_append_left _ hb).level_le (Nat.le_max_left _ _)) (k2.more_le (fun b hb => List.mem_append_right _ hb) (Nat.le_max_right _ _))
end
end
end L2
namespace HT
open PySem PyProof.Rows PySem.W
open PySem.AutoSeq1 (wpAny_loadPart')
end HT
namespace L2
open PySem PySem.Spec PyProof.Rows PySem.W HT
end L2
namespace L2
open PySem PySem.W PySem.Calls PyProof.Rows
end L2
namespace L2
open PySem PySem.W PySem.Calls PyProof.Rows HS
end L2
namespace HS
open PySem PySem.Spec PyProof.Rows PySem.W
section
variable {P : Program} {w : World} {A : Around} {E : Value → Shared → Prop} {s : Shared}
theorem idx_loop {vs : List Value} {ys : List Str} {y : Str} {t : Tok} {j : Nat} {Q : Option PySem.Fin × Unit → Shared → Prop} (st : StrsAre vs ys) (hj : ys[j]? = some y) (hno : ∀ m, m < j → ys[m]? ≠ some y) (q : ∀ tk, Q (some (.done (.ret (.int j tk))), ()) { s with toks := s.toks + 1 }) :
    ∀ (k i : Nat), i ≤ j → j < i + k → wpAny (model P w) A (forIn (m := Sem) (List.range' i k) ((none, ()) : Option PySem.Fin × Unit) fun (i : Nat) __s => match vs.toArray[i]? with
            | some y' => do
              let b ← eqBool y' (.str y t)
              if b = true then do
                  let r ← retInt (i : Int)
                  pure (ForInStep.done (some r, ()))
                else pure (ForInStep.yield (none, ()))
            | _ => pure (ForInStep.yield (none, ()))) Q E s
  | 0, i, h1, h2 => absurd h2 (by omega)
  | k + 1, i, h1, h2 => by
    rw [List.range'_succ, List.forIn_cons]
    have hlen := strs_len st
    have hjl : j < ys.length := (List.getElem?_eq_some_iff.mp hj).1
    have hi : i < vs.length := by omega
    obtain ⟨tk, ev⟩ := L2.strs_at st i vs[i] (List.getElem?_eq_getElem hi)
    have hiy : i < ys.length := by omega
    have e1 : vs.toArray[i]? = some (.str ys[i] tk) := by
      rw [List.getElem?_toArray, List.getElem?_eq_getElem hi, ev]; simp [hiy]
    rw [e1]
    dsimp only
    refine wpAny_bind (wpAny_bind (wpAny_eqBool_str ?_))
    by_cases e : ys[i] = y
    · rw [decide_eq_true e, if_pos rfl]
      have : i = j := by
        by_cases z : i < j
        · exact absurd (by rw [List.getElem?_eq_getElem hiy, e]) (hno i z)
        · omega
      subst this
      refine wpAny_bind ?_; unfold retInt
      exact wpAny_bind (wpAny_mkInt (wpAny_pure (wpAny_pure (wpAny_pure (q _)))))
    · rw [decide_eq_false e, if_neg Bool.false_ne_true]
      refine wpAny_pure ?_
      refine idx_loop st hj hno q k (i + 1) ?_ (by omega)
      by_cases z : i = j
      · subst z
        rw [List.getElem?_eq_getElem hiy] at hj
        exact absurd (Option.some.inj hj) e
      · omega
theorem index_tup {l : Addr} {vs : List Value} {ys : List Str} {y : Str} {t : Tok} {j : Nat} {Q : Value → Shared → Prop} (ht : IsTup s.heap l vs.toArray) (st : StrsAre vs ys) (hj : ys[j]? = some y) (hno : ∀ m, m < j → ys[m]? ≠ some y) (q : ∀ tk, Q (.int j tk) { s with toks := s.toks + 1 }) :
    wpAny (model P w) A (call (.builtin "tuple.index") [.ref l, .str y t]) Q E s := by
  obtain ⟨o, ho, hc, n, hd⟩ := ht
  have hjl : j < ys.length := (List.getElem?_eq_some_iff.mp hj).1
  have hlen := strs_len st
  refine wpAny_call_entry PySem.F.slot_tuple_index ⟨o, ho, hc⟩ PySem.F.entry_tuple_index ?_ (PySem.F.args_tuple_index_2 _ _)
  unfold Builtin.«tuple.index»
  refine wpAny_bind (wpAny_pure ?_)
  dsimp only
  refine wpAny_bind ?_; unfold Builtin.Tuple.tupleItemsOf seqItems?
  refine wpAny_bind (wpAny_bind (wpAny_load ho ?_))
  rw [hd]
  refine wpAny_pure (wpAny_pure ?_)
  refine wpAny_bind (wpAny_pure (wpAny_bind (wpAny_pure ?_)))
  rw [Std.Legacy.Range.forIn_eq_forIn_range']
  refine wpAny_bind ?_
  have e2 : ([0:min vs.toArray.size vs.toArray.size] : Std.Legacy.Range).size = vs.length := by simp [Std.Legacy.Range.size]
  rw [e2]
  refine idx_loop st hj hno (fun tk => ?_) vs.length 0 (Nat.zero_le _) (by omega)
  exact wpAny_pure ⟨_, rfl, q tk⟩
end
end HS
namespace L2
open PySem PySem.Spec PyProof.Rows PySem.W HS
section
variable {X : Cx}
def rIndexT (K : Frag) : V → List V → Hp → VK → Prop := fun x vs H Q => ∃ (l : Addr) (ys : List Str) (y : Str) (j : Nat), x = .ref l ∧ vs = [.str y] ∧ SqT K H l (ys.map V.str) ∧ ys[j]? = some y ∧ (∀ m, m < j → ys[m]? ≠ some y) ∧ Q (.int j) H
theorem mt_indexT : MtM X "tuple.index" (rIndexT X.K) := by
  intro pins s σ H x vs v us Q I rx rv h
  obtain ⟨l, ys, y, j, rfl, rfl, hH, hj, hno, q⟩ := h
  cases rx
  obtain ⟨u, rfl, t, rfl⟩ := rv.one
  obtain ⟨its, r, pl, hz⟩ := I.tuple hH
  exact index_tup pl (strsAre_of r) hj hno fun tk => ⟨.int j, H, I.tok _, ⟨tk, rfl⟩, q⟩
theorem mt_indexT_K (K : Frag) (h : X.K = K) : MtM X "tuple.index" (rIndexT K) := by subst h; exact mt_indexT
end
end L2
namespace L2
open PySem PySem.Spec PyProof.Rows PySem.W HT
section
variable {X : Cx}
def rNotInT : R2 := fun x y H Q => ∃ (p : Addr) (d : PyData) (l : Addr) (cs : List Str), Dt p H x d ∧ y = .ref l ∧ H l = some (.tup (cs.map V.str)) ∧ Q (.bl (!(cs.any fun c => isS c d))) H
theorem op_notInT (hu : X.A.units + 64 < cLine) : OpR X (compareOp .NotIn) rNotInT := by
  intro pins s σ H x y v u Q I rx ry h
  obtain ⟨p, d, l, cs, r, rfl, hl, q⟩ := h
  cases ry
  obtain ⟨its, rv, pl, _⟩ := I.tuple (SqT.of hl)
  refine SeqAt.notIn_tupleAt (fun w => match strOf? w with | some c => isS c d | none => false) pl (fun w hw => ?_) ⟨.bl _, H, I, rfl, ?_⟩
  · obtain ⟨c, t, _, rfl⟩ := strs_vals rv w (by simpa using hw)
    exact r.eqS I rx c t (show X.A.units + 1 < cLine by omega)
  · rw [← any_strs (fun c => isS c d) rv] at q
    rw [List.any_toArray]
    exact q
end
end L2
namespace L2
open PySem PySem.Spec PyProof.Rows PySem.W
end L2
namespace L2
open PySem PySem.Spec PyProof.Rows PySem.W
end L2
namespace L2
open PySem PySem.Spec PyProof.Rows PySem.W HS
def emitSet (elt : Expr) (acc : Value) (env : Env) : Sem Unit := do
  let v ← eval elt env
  standAt elt.pos
  let _ ← call (.builtin "set.add") [acc, v]
def CompWG (J : It) (g : TG) (ti : TT) (tem : Addr → St → Hp → (Hp → Prop) → Prop) (τ0 : St) (Q : VK) (p : Addr) (H1 : Hp) : Prop :=
  ∃ W : Nat → Nat → St → Hp → Prop, (∃ m, W 0 m τ0 H1) ∧ ∀ i m τ H2, W i m τ H2 →
    ((J.stop i H2 ∧ Q (.ref p) H2) ∨ (J.go i H2 ∧ ∀ x H3, J.yld i H2 x H3 → g x τ H3 fun τ4 H4 => ti τ4 H4 fun b H5 =>
      if b = true then tem p τ4 H5 fun H6 => ∃ m', m' < m ∧ W (i + 1) m' τ4 H6
      else ∃ m', m' < m ∧ W (i + 1) m' τ4 H5))
def PEm (X : Cx) (emit : Value → Env → Sem Unit) (tem : Addr → St → Hp → (Hp → Prop) → Prop) : Prop :=
  ∀ (pins : List (Addr × Obj)) (s : Shared) (σ : St) (H : Hp) (p : Addr) (Q : Hp → Prop), Inv X pins σ H s → tem p σ H Q → wpAny (model X.prog X.w) X.A (emit (.ref p) X.env) (fun _ s' => ∃ H', Inv X pins σ H' s' ∧ Q H') X.xe s
structure NewAcc (X : Cx) (newAcc : Sem Value) (start : Addr → HO) : Prop where
  run : ∀ (pins : List (Addr × Obj)) (s : Shared) (σ : St) (H : Hp) (E : Value → Shared → Prop) (Q : Value → Shared → Prop), Inv X pins σ H s →
    (∀ s', Inv X pins σ (upd H s.heap.objs.size (start s.heap.objs.size)) s' → (∀ b o, s.heap.get? b = some o → s'.heap.get? b = some o) → Q (.ref s.heap.objs.size) s') → wpAny (model X.prog X.w) X.A newAcc Q E s
def tCompG (wi : TI) (ixs : List (Option Nat)) (g : TG) (ti : TT) (tem : Addr → St → Hp → (Hp → Prop) → Prop) (start : Addr → HO) : TE := fun σ H Q => wi σ H fun J H1 => ∀ p, H1 p = none → CompWG J g ti tem (pick ixs σ) Q p (upd H1 p (start p))
section
variable {X : Cx} {elt k v : Expr} {te tk tv : TE}
def tmSet (P : Program) (w : World) (te : TE) (p : Addr) (σ : St) (H : Hp) (Q : Hp → Prop) : Prop := te σ H fun y H1 => ∃ ds x, y = .str x ∧ H1 p = some (SetO P w p ds) ∧ ds.length + 1 < 1000 ∧ Q (upd H1 p (SetO P w p (addS ds x)))
theorem em_set {P : Program} {w : World} (eP : X.prog = P) (ew : X.w = w) (hk : PE X elt te) : PEm X (emitSet elt) (tmSet P w te) := by
  subst eP ew
  intro pins s σ H p Q I h
  unfold emitSet
  refine wpAny_bind (thn (hk pins s σ H _ I h) fun u s1 ⟨y, H1, I1, ry, ds, x, ey, e, l, q⟩ => wpAny_bind (wpAny_standAt (wpAny_bind ?_)))
  subst ey
  obtain ⟨t, rfl⟩ := (show ∃ t, u = Value.str x t from ry)
  obtain ⟨⟨nd, hS⟩, _⟩ := (show ObjOk X.prog X.w H1 s1.heap p (SetO X.prog X.w p ds) from I1.hok p _ e)
  refine wpAny_call_entry F.slot_set_add hS.typeIs F.entry_set_add ?_ (F.args_set_add_2 _ _)
  unfold Builtin.«set.add» Builtin.Frozenset.oneOther
  simp only [List.isEmpty_nil, bind_assoc]
  unfold Builtin.Frozenset.addrOf setAdd
  refine wpAny_bind (wpAny_pure ?_)
  try dsimp only
  refine wpAny_bind (wpAny_pure ?_)
  try dsimp only
  refine wpAny_bind ?_
  refine wpAny_holding ?_
  have hkey : (strKind X.prog X.w).is x (.str x t) = true := by show Value.isStrOf x (.str x t) = true; simp [Value.isStrOf]
  refine wpAny_bind ((strKind X.prog X.w).pyHash (k := x) hkey ?_)
  have hb : ds.length + 1 < scanBound := by unfold scanBound; omega
  refine setX_add (s := { s1 with toks := s1.toks + 1 }) hS hb fun h' sb x2 b => ?_
  show wpAny _ _ (ret Value.none) _ _ _
  refine wpAny_pure ⟨_, rfl, wpAny_pure ⟨_, ?_, q⟩⟩
  have he : ∃ q, h'.get? p = some q := let ⟨q, _, _, _, hq, _⟩ := x2; ⟨q, hq⟩
  exact d_write (t' := s1.toks + 1) (I1.tok _) (by rw [e]; exact True.intro) sb he (setO_mk (addS_nd nd x) x2)
theorem new_set : NewAcc X (newSet (.type "set")) (fun p => SetO X.prog X.w p []) := ⟨fun pins s σ H E Q I h => by
  unfold newSet setsByText
  show wpAny _ _ (_ >>= _) _ _ _
  refine wpAny_bind (wpAny_bind (wpAny_askSetting (wpAny_pure ?_)))
  refine wpAny_newObj_type ?_
  exact h _ (I.laid (a := s.heap.objs.size) (o := SetO X.prog X.w s.heap.objs.size []) (t' := s.toks) (fun _ _ q => Heap.get?_push_of_some _ q) (Nat.le_refl _) (setO_mk List.nodup_nil (setX_new (Heap.get?_push_size _ rfl)))) fun b o e => Heap.get?_push_of_some _ e⟩
variable {N' : List Str} {ixs : List (Option Nat)} {scope : Scope} {tg iter : Expr} {ifs : List Expr} {pos : Pos} {wi : TI} {g : TG} {ti : TT}
end
def CWG (Pv : Nat → St → Hp → Prop) (n i m : Nat) (τ : St) (H : Hp) : Prop := m = n - i ∧ i ≤ n ∧ Pv i τ H
theorem cwg_next {Pv : Nat → St → Hp → Prop} {n i : Nat} {τ : St} {H : Hp} (h : i < n) (p : Pv (i + 1) τ H) : ∃ m', m' < n - i ∧ CWG Pv n (i + 1) m' τ H := ⟨n - (i + 1), by omega, rfl, h, p⟩
theorem compG_tup {K : Frag} {a : Addr} {xs : List V} {g : TG} {ti : TT} {tem : Addr → St → Hp → (Hp → Prop) → Prop} {τ0 : St} {Q : VK} {p : Addr} {H1 : Hp} (Pv : Nat → St → Hp → Prop) (h0 : Pv 0 τ0 H1) (hl : ∀ i τ H, Pv i τ H → SqT K H a xs)
    (hs : ∀ i x τ H, xs[i]? = some x → Pv i τ H → g x τ H fun τ4 H4 => ti τ4 H4 fun b H5 => if b = true then tem p τ4 H5 fun H6 => ∃ m', m' < xs.length - i ∧ CWG Pv xs.length (i + 1) m' τ4 H6 else ∃ m', m' < xs.length - i ∧ CWG Pv xs.length (i + 1) m' τ4 H5)
    (hd : ∀ τ H, Pv xs.length τ H → Q (.ref p) H) : CompWG (Itt K a) g ti tem τ0 Q p H1 := by
  refine ⟨CWG Pv xs.length, ⟨xs.length, by simp, Nat.zero_le _, h0⟩, ?_⟩
  rintro i m τ H ⟨rfl, hi, pv⟩
  have hq := hl i τ H pv
  by_cases hlt : i < xs.length
  · refine .inr ⟨⟨xs, xs[i], hq, by simp [hlt]⟩, fun x H3 y3 => ?_⟩
    obtain ⟨e3, ex⟩ := y3
    subst e3
    exact hs i x τ _ (ex xs hq) pv
  · have e : i = xs.length := by omega
    subst e
    exact .inl ⟨⟨xs, hq, Nat.le_refl _⟩, hd τ H pv⟩
end L2
namespace HS
open PySem PySem.Spec PyProof.Rows PySem.W L2
section
variable {P : Program} {w : World} {A : Around} {E : Value → Shared → Prop} {s : Shared} {T : String} {r d : Addr} {n : Nat} {Pv : Nat → Value → Prop} {OK : Heap → Prop}
theorem collect_kdl {Q : List Value → Shared → Prop} (K : KdlSrc P w T r d n Pv OK) (hh : A.handled = none) (hok : OK s.heap) (hn : n ≤ sizeLine)
    (q : ∀ h' tk (vs : List Value), (∀ b o, s.heap.get? b = some o → h'.get? b = some o) → ItemsOf Pv vs.toArray n → Q vs { s with heap := h', toks := tk }) : wpAny (model P w) A (collect (.ref r)) Q E s := by
  have lt := K.there _ hok
  have key : ∀ R : Result → Shared → Prop, (∀ h' tk (acc : Array Value) c, (∀ b o, b ≠ s.heap.objs.size → (s.heap.push (seqObj "list" #[] 0)).get? b = some o → h'.get? b = some o) → h'.get? s.heap.objs.size = some { cls := .type "list", dict := none, data := .seq acc c, slots := #[] } → ItemsOf Pv acc n → R (.ok (.ret (.ref s.heap.objs.size))) { s with heap := h', toks := tk }) →
      codeAny (model P w) A (.builtin "list.__iadd__" ⟨[.ref s.heap.objs.size, .ref r], []⟩) R { s with heap := s.heap.push (seqObj "list" #[] 0) } := fun R hR => by
    refine codeAny_builtin PySem.F.entry_list_iadd ?_; rw [Around.under_plainId PySem.F.plain_list_iadd _]
    show wpAny _ _ (Builtin.List.listExtendWith (.ref s.heap.objs.size) (.ref r) (.ref s.heap.objs.size)) _ _ { s with heap := s.heap.push (seqObj "list" #[] 0) }
    exact kdl_extend (s := { s with heap := s.heap.push (seqObj "list" #[] 0) }) K hh (K.keep _ _ hok fun b _ o e => Heap.get?_push_of_some _ e) s.heap.objs.size (Nat.ne_of_gt lt.1) (Nat.ne_of_gt lt.2) _ 0 (Heap.get?_push_size _ rfl) (fun h' tk acc c kp e it => hR h' tk acc c kp e it) hn
  unfold collect
  refine wpAny_bind (wpAny_runValue (codeAny_builtin PySem.F.entry_proto_collect ?_)); rw [Around.under_plainId PySem.F.plain_proto_collect _]
  show wpAny _ A.in1 (newList [] >>= fun z => again (.builtin "list.__iadd__" ⟨[z, .ref r], []⟩)) _ _ s
  refine wpAny_bind (wpAny_newList (wpAny_pure ⟨plainId_quiet PySem.F.plain_list_iadd _, key _ fun h' tk acc c kp e it => ?_⟩))
  show wpAny (model P w) A (load s.heap.objs.size >>= _) Q E _
  refine wpAny_bind (wpAny_load e ?_)
  show wpAny _ _ (pure acc.toList) Q E _
  exact wpAny_pure (q h' tk acc.toList (fun b o hb => kp b o (Nat.ne_of_lt (Heap.lt_size hb)) (Heap.get?_push_of_some _ hb)) (by rw [Array.toArray_toList]; exact it))
theorem sorted_kdl {ys : List Str} {Q : Value → Shared → Prop} (K : KdlSrc P w T r d n Pv OK) (hh : A.handled = none) (hok : OK s.heap) (h63 : n ≤ 63) (hy : ∀ vs : List Value, ItemsOf Pv vs.toArray n → StrsAre vs ys)
    (hQ : ∀ D c h' tk (us : List Value) (zs : List Str), (∀ b o, s.heap.get? b = some o → h'.get? b = some o) → (∀ b o, s.heap.get? b = some o → b ≠ D) → h'.get? D = some (listOf us.toArray c) → StrsAre us zs → zs.Perm ys → sortedS zs = true → Q (.ref D) { s with heap := h', toks := tk }) :
    wpAny (model P w) A (call (.builtin "sorted") [.ref r]) Q E s := by
  refine Calls.call_function_entry kind_sorted plain_sorted entry_sorted (args_sorted1 _) ?_
  unfold Builtin.«sorted»
  refine wpAny_bind (m := checkCount "sorted" 1 1 _) (wpAny_pure (wpAny_bind (collect_kdl K hh hok (by rw [sizeLine_eq]; omega) fun h1 tk vs k1 it => ?_)))
  have v1 := hy vs it
  have lv : vs.length = n := by have := it.1; simpa using this
  refine wpAny_bind (wpAny_newList ?_ (by rw [sizeLine_eq]; omega))
  have at1 : (h1.push (seqObj "list" vs.toArray 0)).get? h1.objs.size = some (seqObj "list" vs.toArray 0) := Heap.get?_push_size _ rfl
  refine wpAny_bind (wpAny_holding (wpAny_call_entry slot_list_sort ⟨_, at1, rfl⟩ entry_list_sort (list_sort_treeK strKind_oneLt at1 v1.keysOf (fun v₁ v₂ rest e => keyKind_strs (by rw [← e]; exact v1)) (by omega) fun st' a1 a2 => ⟨_, rfl, ?_⟩) (args_list_sort _)))
  obtain ⟨ss', b1, b2, b3⟩ := sorted_out_str v1 a1 a2
  obtain ⟨c, hc⟩ := sortedHeap_at (n := 0) (vs := vs) (out := (arrOf st').map (·.2)) at1
  refine wpAny_pure ⟨_, rfl, hQ _ c _ _ _ ss' (fun b o e => ?_) (fun b o e => Nat.ne_of_lt (Heap.lt_size (k1 b o e))) (by rw [hc]) b1 b2 b3⟩
  have e1 := k1 b o e
  have lt1 := Heap.lt_size e1
  rw [sortedHeap_old (Nat.ne_of_lt lt1) (by rw [size_push']; exact Nat.lt_succ_of_lt lt1), Heap.get?_push_ne _ _ _ (Nat.ne_of_lt lt1)]
  exact e1
end
end HS
namespace L2
open PySem PySem.Spec PyProof.Rows PySem.W HS
theorem ints_of_vals : ∀ {ns : List Int} {us : List Value}, Vals (ns.map V.int) us → IntsAre us ns
  | [], _, .nil => .nil
  | n :: ns, _, .cons r rs => by
    obtain ⟨t, rfl⟩ := (show ∃ t, _ = Value.int n t from r)
    exact .cons _ t (ints_of_vals rs)
theorem vals_of_ints : ∀ {us : List Value} {ns : List Int}, IntsAre us ns → Vals (ns.map V.int) us
  | _, _, .nil => .nil
  | _, _, .cons _ t r => .cons ⟨t, rfl⟩ (vals_of_ints r)
section
variable {X : Cx}
theorem call_sortedI : CallR X (.builtin "sorted") (fun xs H Q => ∃ p ns, xs = [.ref p] ∧ SqL X.K H p (ns.map V.int) ∧ ns.length ≤ 63 ∧ ∀ D (ns' : List Int), H D = none → ns'.Perm ns → ns'.Pairwise (· ≤ ·) → Q (.ref D) (upd H D (.lst (ns'.map V.int)))) := by
  intro pins s σ H xs us Q I r ⟨p, ns, ex, hq, h63, q⟩
  subst ex
  obtain ⟨u, rfl, rx⟩ := vals1 r
  cases rx
  obtain ⟨its, rv, pl, hz⟩ := I.list hq
  have hl := rv.length
  rw [List.length_map] at hl
  obtain ⟨m, hm, _⟩ := id I.loc
  obtain ⟨g0, hg0, hg1⟩ : ∃ g0 : Heap, g0.objs.size = 0 ∧ ∀ b, g0.get? b = none := ⟨{ s.heap with objs := #[] }, rfl, fun b => Heap.get?_none_of_le (Nat.zero_le _)⟩
  have F : Fr g0 X.env.locals s.heap m := ⟨hm, fun b o e => (by rw [hg1] at e; cases e), by rw [hg0]; exact Nat.zero_le _⟩
  refine sorted_N F (news_all (g := g0) (L := X.env.locals)) pl.isList (ints_of_vals rv) (by omega) fun h' vs' ns' e F' N' hS' hp' hs' => ?_
  obtain ⟨hn, I'⟩ := Inv.sorted (t' := s.toks) (ys := ns'.map V.int) I hm F'.ns (fun b o n e => (N' (b, o) (List.mem_cons_of_mem _ (mem_allNews n (hg1 b) e))).1) (fun b o e => Nat.ne_of_lt (Nat.lt_succ_of_lt (Heap.lt_size e))) (N' _ List.mem_cons_self).1 (vals_of_ints hS') (by rw [List.length_map, hp'.length_eq, sizeLine_eq]; omega)
  exact ⟨.ref _, _, I', rfl, q _ ns' hn hp' hs'⟩
theorem strs_at_keys : ∀ {ks : List Str} {us : List Value}, ks.length = us.length → (∀ (i : Nat) x u, ks[i]? = some x → us[i]? = some u → ∃ t, u = Value.str x t) → StrsAre us ks
  | [], [], _, _ => .nil
  | [], _ :: _, h, _ => by simp at h
  | _ :: _, [], h, _ => by simp at h
  | x :: xs, u :: us, h, f => by
    obtain ⟨t, rfl⟩ := f 0 x u rfl rfl
    exact .cons _ t (strs_at_keys (by simpa using h) fun i y v a b => f (i + 1) y v (by simpa using a) (by simpa using b))
theorem call_sortedD (hc : X.calm = true) : CallR X (.builtin "sorted") (fun xs H Q => ∃ (d : Addr) (ks : List (Str × V)), xs = [.ref d] ∧ H d = some (.dK (ks.map fun p => (Sum.inr p.1, p.2))) ∧ ks.length ≤ 63 ∧ ∀ D ss', H D = none → ss'.Perm (ks.map (·.1)) → sortedS ss' = true → Q (.ref D) (upd H D (.lst (ss'.map V.str)))) := by
  intro pins s σ H xs us Q I r h
  obtain ⟨d, ks, rfl, hd, h63, q⟩ := h
  obtain ⟨u, rfl, rx⟩ := vals1 r
  cases rx
  obtain ⟨hz, lo, vs, kv, dd⟩ := dk_of I.hok hd
  obtain ⟨ep, da⟩ := dd.dictAt
  have hlen : (ks.map fun p => ((Sum.inr p.1 : Key), p.2)).length = vs.length := kv.length
  have hlen' : ks.length = vs.length := by rw [← hlen, List.length_map]
  obtain ⟨m, hm, _⟩ := id I.loc
  refine sorted_kdl (ys := ks.map (·.1)) (kdl_dict (kvs := vs) (ep := ep) lo) (I.ok.hd hc) da (by omega) (fun us it => ?_) fun D c h' tk out ys k hD new st' p' srt => ?_
  · refine strs_at_keys (by rw [List.length_map, hlen']; have := it.1; simpa using this.symm) fun i x v hx hv => ?_
    obtain ⟨key, y, hk, hi⟩ := it.2 i v (by simpa using hv)
    obtain ⟨p, hp, rfl⟩ := Option.map_eq_some_iff.mp (by rw [← List.getElem?_map]; exact hx)
    have e : (Sum.inr p.1 : Key) = key := by
      have hkv : (ks.map fun p => ((Sum.inr p.1 : Key), p.2))[i]? = some (Sum.inr p.1, p.2) := by rw [List.getElem?_map, hp]; rfl
      clear it hx hv hlen hlen' da dd q hz hd hp h63
      generalize (ks.map fun p => ((Sum.inr p.1 : Key), p.2)) = kl at kv hkv
      induction kv generalizing i with
      | nil => simp at hkv
      | cons p _ ih =>
        cases i with
        | zero =>
          simp at hkv hk
          subst hkv
          have := p.1
          rw [hk] at this
          exact this
        | succ i => exact ih i (by simpa using hk) (by simpa using hkv)
    subst e
    exact Value.isStrOf_shape (show Value.isStrOf p.1 v = true from hi)
  · obtain ⟨hn, I'⟩ := Inv.sorted (t' := tk) (ys := ys.map V.str) I hm (hm.at' fun o e => k _ _ e) (fun b o _ e => k b o e) hD new (vals_strs st') (by rw [List.length_map, p'.length_eq, List.length_map, sizeLine_eq]; omega)
    exact ⟨.ref D, _, I', rfl, q _ ys hn p' srt⟩
theorem keyed {kvs : List (Key × V)} : ∀ {ks : List Str}, kvs.map (·.1) = ks.map Sum.inr → ∃ ps : List (Str × V), kvs = ps.map (fun p => (Sum.inr p.1, p.2)) ∧ ps.map (·.1) = ks := by
  induction kvs with
  | nil => intro ks h; cases ks with
    | nil => exact ⟨[], rfl, rfl⟩
    | cons _ _ => simp at h
  | cons kv kvs ih =>
    intro ks h
    cases ks with
    | nil => simp at h
    | cons k ks =>
      simp only [List.map_cons, List.cons.injEq] at h
      obtain ⟨ps, e1, e2⟩ := ih h.2
      refine ⟨(k, kv.2) :: ps, ?_, ?_⟩
      · rw [List.map_cons, ← e1, ← h.1]
      · rw [List.map_cons, e2]
theorem call_sortedDk (hc : X.calm = true) : CallR X (.builtin "sorted") (fun xs H Q => ∃ (d : Addr) (kvs : List (Key × V)) (ks : List Str), xs = [.ref d] ∧ H d = some (.dK kvs) ∧ kvs.map (·.1) = ks.map Sum.inr ∧ ks.length ≤ 63 ∧ ∀ D ss', H D = none → ss'.Perm ks → sortedS ss' = true → Q (.ref D) (upd H D (.lst (ss'.map V.str)))) := by
  intro pins s σ H xs us Q I r h
  obtain ⟨d, kvs, ks, ex, hd, hk, h63, q⟩ := h
  obtain ⟨ps, e1, e2⟩ := keyed hk
  subst e1
  subst e2
  exact call_sortedD hc pins s σ H xs us Q I r ⟨d, ps, ex, hd, by simpa using h63, q⟩
end
end L2
namespace L2
open PySem PySem.Spec PyProof.Rows PySem.W HS
structure CompFm (n0 : Nat) (e tg iter : Expr) (ifs : List Expr) (emit : Value → Env → Sem Unit) : Prop where
  cl : (clausesOf e)[n0]? = some ⟨tg, iter, ifs, 0⟩
  turn : ∀ it acc env, compTurn e n0 it acc env = (do
      standAt iter.pos
      match ← pyNext it with
      | none => pure (.done .next)
      | some v =>
        letOwnedTupleGo tg it v
        assign tg env v
        let mut ok := true
        for c in ifs do
          if ok then ok ← isTrue c env (eval c env)
        if ok then emit acc env
        again (.compLoop e n0 it acc env))
  loop : ∀ (prog : Program) (w : World) (A : Around) it acc env, A.under (.compLoop e n0 it acc env) = A ∧ (model prog w).den (.compLoop e n0 it acc env) = (compTurn e n0 it acc env).onRaise (fun x => do noteFrame x env; theTreesLotGoes x)
  begin_ : ∀ (prog : Program) (w : World) (A : Around) it acc env, A.under (.compStart e n0 it acc env) = A ∧ (model prog w).den (.compStart e n0 it acc env) = (compStart e n0 it acc env).onRaise (fun x => do noteFrame x env; standAt theWindowsPlace)
theorem code_compLoopR {prog : Program} {w : World} {A : Around} {R : Result → Shared → Prop} {s : Shared} {n0 : Nat} {e tg iter : Expr} {ifs : List Expr} {emit : Value → Env → Sem Unit} {it acc : Value} {env : Env} (F : CompFm n0 e tg iter ifs emit) (I : Nat → Shared → Prop)
    (turn : ∀ n s, I n s → wpAny (model prog w) A (pyNext it) (fun r s1 => match r with
      | none => R (.ok .next) s1
      | some v => wpAny (model prog w) A (letOwnedTupleGo tg it v) (fun _ s2 => wpAny (model prog w) A (assign tg env v) (fun _ s3 =>
          wpAny (model prog w) A (forIn ifs true fun c r => if r = true then do let ok ← isTrue c env (eval c env); pure (ForInStep.yield ok) else pure (ForInStep.yield r)) (fun ok s4 =>
            if ok = true then wpAny (model prog w) A (emit acc env) (fun _ s6 => ∃ m, m < n ∧ I m s6) (fun _ _ => False) s4
            else ∃ m, m < n ∧ I m s4) (fun _ _ => False) s3) (fun _ _ => False) s2) (fun _ _ => False) s1) (fun _ _ => False) s)
    (n : Nat) (h : I n s) :
    codeAny (model prog w) A (.compLoop e n0 it acc env) R s := by
  refine codeAny_loop rfl I (fun n s hI => ?_) n h
  rw [(F.loop prog w A it acc env).1, (F.loop prog w A it acc env).2]
  refine wpAny_noted (wpAny_noRaise ?_)
  rw [F.turn]
  refine wpAny_bind (wpAny_standAt (wpAny_bind (thn (turn n s hI) fun r s1 h1 => ?_)))
  cases r with
  | none => exact wpAny_pure h1
  | some v =>
    refine wpAny_bind (thn h1 fun _ s2 h2 => wpAny_bind (thn h2 fun _ s3 h3 => wpAny_bind (thn h3 fun ok s4 h4 => ?_)))
    cases ok with
    | false => exact wpAny_pure ⟨rfl, h4⟩
    | true => exact wpAny_bind (thn h4 fun x s5 h5 => wpAny_pure ⟨rfl, h5⟩)
theorem code_compStartR {prog : Program} {w : World} {A : Around} {R : Result → Shared → Prop} {s : Shared} {n0 : Nat} {e tg iter : Expr} {ifs : List Expr} {emit : Value → Env → Sem Unit} {it acc : Value} {env : Env} (F : CompFm n0 e tg iter ifs emit)
    (h0 : codeAny (model prog w) A (.compLoop e n0 it acc env) R s)
    (h : wpAny (model prog w) A (pyIter it) (fun it' s' => codeAny (model prog w) A (.compLoop e n0 it' acc env) R s')
      (notedBy (model prog w) A env fun x s' => R (.error x) s') s) :
    codeAny (model prog w) A (.compStart e n0 it acc env) R s := by
  refine codeAny_of_tree ?_
  rw [(F.begin_ prog w A it acc env).1, (F.begin_ prog w A it acc env).2]
  refine wpAny_notedAt ?_
  unfold compStart
  rw [F.cl]
  show wpAny _ _ (ask >>= _) _ _ s
  refine wpAny_bind (wpAny_askSetting (wpAny_ite ?_))
  split
  · first
      | exact wpAny_bind (wpAny_pure (wpAny_pure (And.intro rfl h0)))
      | exact wpAny_pure (And.intro rfl h0)
  · first
      | exact wpAny_bind (wpAny_rule (wpAny_bind (wpAny_standAt (wpAny_bind (wpAny_mono h (fun it' s' h' => wpAny_pure (And.intro rfl h')) fun _ _ x => x)))))
      | (refine wpAny_bind (wpAny_rule ?_); show wpAny _ _ (standAt iter.pos >>= _) _ _ s; exact wpAny_bind (wpAny_standAt (wpAny_bind (wpAny_mono h (fun it' s' h' => wpAny_pure (And.intro rfl h')) fun _ _ x => x))))
section
variable {X : Cx} {pins : List (Addr × Obj)} {σ : St} {H2 : Hp} {s2 : Shared} {N' : List Str} {ixs : List (Option Nat)} {scope : Scope} {e tg elt iter : Expr} {ifs : List Expr} {pos : Pos} {emit : Value → Env → Sem Unit} {tem : Addr → St → Hp → (Hp → Prop) → Prop}
theorem comp_coreR {J : It} {fp : List Addr} {it : Addr} {tn : Nat → Heap → Prop} {g : TG} {ti : TT} {Q : VK} {E : Value → Shared → Prop} {RR : Value → Addr → Result → Shared → Prop} {newAcc : Sem Value} {start : Addr → HO} (F : CompFm 0 e tg iter ifs emit) (hc : X.calm = true) (S : CompScope X.N X.env.scope N' ixs scope)
    (I2 : Inv X pins σ H2 s2) (T : Turn X.prog X.w X.K tg J fp it tn) (st : tn 0 s2.heap) (hf : ∀ b ∈ fp, FpOk X pins H2 b) (hnew : NewAcc X newAcc start)
    (hb : ∀ s H fp, PG (cxComp X N' scope s H fp) tg g ∧ PIfs (cxComp X N' scope s H fp) ifs ti ∧ PEm (cxComp X N' scope s H fp) emit tem)
    (hw : ∀ p, H2 p = none → CompWG J g ti tem (pick ixs σ) Q p (upd H2 p (start p))) (hR : ∀ acc C s', CompEnd X pins σ Q acc C s' → RR acc C (.ok .next) s') :
    wpAny (model X.prog X.w) X.A newAcc (fun acc s3 => wpAny (model X.prog X.w) X.A (newFunctionEnv scope X.env.globals (closL X.env.cells scope.names []) [] X.env.qual none .none (some X.env)) (fun cenv s4 =>
      codeAny (model X.prog X.w) X.A (.compStart e 0 (.ref it) acc { cenv with scope := relabel scope X.env }) (RR acc cenv.locals) s4) E s3) E s2 := by
  refine hnew.run pins s2 σ H2 E _ I2 fun s3 I3 get3 => ?_
  have hp := hw s2.heap.objs.size I2.fresh
  generalize eH : upd H2 s2.heap.objs.size (start s2.heap.objs.size) = H3 at I3 hp
  have flt : ∀ b ∈ fp, b < s2.heap.objs.size := fun b hb => let ⟨_, e, _⟩ := T.obj _ _ st b hb; Heap.lt_size e
  have st3 : tn 0 s3.heap := T.keep _ _ _ st fun b _ o e => get3 b o e
  have hf3 : ∀ b ∈ fp, FpOk X pins H3 b := fun b hb => ⟨by rw [← eH, upd_ne (Nat.ne_of_lt (flt b hb))]; exact (hf b hb).1, (hf b hb).2⟩
  have ho3 : ∀ b ∈ fp, ∃ o, s3.heap.get? b = some o := fun b hb => let ⟨o, e, _⟩ := T.obj _ _ st3 b hb; ⟨o, e⟩
  refine newEnv_comp fun h4 hn hk hcl hpw => ?_
  have I4 : Inv (cxComp X N' scope s3 H3 fp) [] (pick ixs σ) H3 { s3 with heap := h4 } := inv_comp I3 S hf3 ho3 hn hk hcl hpw
  have st4 : tn 0 ({ s3 with heap := h4 } : Shared).heap := T.keep _ _ _ st3 fun b _ o e => hk b o e
  obtain ⟨hG, hI, hE⟩ := hb s3 H3 fp
  obtain ⟨W, ⟨m0, w0⟩, turn⟩ := hp
  have stat : ∀ {H' : Hp}, (∀ b ∈ fp, H' b = none) → ∀ b ∈ fp, FpOk (cxComp X N' scope s3 H3 fp) [] H' b := fun hn b hb =>
    ⟨hn b hb, (I4.ok.exf b hb).1, I4.ok.exfs b hb, .inl hb, fun x c e => (I4.ok.exf b hb).2 x c e, fun p hp => absurd (show p ∈ ([] : List (Addr × Obj)) from hp) (by simp)⟩
  have loop : codeAny (model X.prog X.w) X.A (.compLoop e 0 (.ref it) (.ref s2.heap.objs.size) (compEnv2 scope s3.heap.objs.size X.env))
      (RR (.ref s2.heap.objs.size) s3.heap.objs.size) { s3 with heap := h4 } := by
    refine code_compLoopR F (fun n s' => ∃ i τ H', Inv (cxComp X N' scope s3 H3 fp) [] τ H' s' ∧ tn i s'.heap ∧ (∀ b ∈ fp, H' b = none) ∧ W i n τ H') ?_ m0 ⟨0, _, H3, I4, st4, fun b hb => (hf3 b hb).1, w0⟩
    rintro n s5 ⟨i, τ, H5, I5, st5, fr5, w5⟩
    have w5 := turn i n τ H5 w5
    rcases w5 with ⟨stop, qn⟩ | ⟨go, step⟩
    · refine thn (T.done (cxComp X N' scope s3 H3 fp) rfl rfl rfl hc i [] s5 τ H5 _ I5 (stat fr5) st5 stop) fun r s6 ⟨hr, I6⟩ => ?_
      subst hr
      refine hR _ _ _ ⟨_, H5, rfl, ?_, ?_, ?_, qn⟩
      · exact I3.call' (s' := s6) (ch := fp) I6.os I6.base I6.hok I6.bare fun b hb => ⟨(hf3 b hb).2.2.2.1, (hf3 b hb).2.1, (hf3 b hb).2.2.2.2.1, (hf3 b hb).2.2.2.2.2⟩
      · exact I3.fpOk (Nat.le_refl _) I6.free
      · obtain ⟨m, hm, _⟩ := I6.loc
        exact ⟨m, hm⟩
    · refine thn (T.item (cxComp X N' scope s3 H3 fp) rfl rfl rfl hc i [] s5 τ H5 _ I5 (stat fr5) st5 go) fun r s6 ⟨u, hr, h6⟩ => ?_
      subst hr
      refine thn h6 fun _ s7 ⟨x, H7, I7, r7, y7, st7, fr7⟩ => ?_
      have I7' := I7.pinned (stat fr7) (T.obj _ _ st7)
      refine thn (hG _ s7 τ H7 x u _ I7' r7 (step x H7 y7)) fun _ s8 ⟨τ8, H8, I8, q8⟩ => ?_
      refine thn (hI _ s8 τ8 H8 _ I8 q8) fun b s9 ⟨H9, I9, q9⟩ => ?_
      have again : ∀ {τ' : St} {H' : Hp} {s' : Shared} {m' : Nat}, Inv (cxComp X N' scope s3 H3 fp) ([] ++ pinsAt fp s7.heap) τ' H' s' → m' < n → W (i + 1) m' τ' H' →
          ∃ m, m < n ∧ ∃ i τ H', Inv (cxComp X N' scope s3 H3 fp) [] τ H' s' ∧ tn i s'.heap ∧ (∀ b ∈ fp, H' b = none) ∧ W i m τ H' := fun {τ' H' s' m'} I' hm w' => by
        refine ⟨m', hm, i + 1, τ', H', I'.unpinned, T.keep _ _ _ st7 fun b hb o e => (I'.pin (b, o) (List.mem_append_right _ (List.mem_append_right _ (mem_pinsAt hb e)))).1, fun b hb => ?_, w'⟩
        obtain ⟨o, e, d⟩ := T.obj _ _ st7 b hb
        exact (I'.pin (b, o) (List.mem_append_right _ (List.mem_append_right _ (mem_pinsAt hb e)))).2.1
      cases b with
      | false =>
        obtain ⟨m', hm, w'⟩ := q9
        exact again I9 hm w'
      | true => exact thn (hE _ s9 τ8 H9 _ _ I9 q9) fun _ s10 ⟨H10, I10, m', hm, w'⟩ => again I10 hm w'
  exact code_compStartR F loop (T.self X.A 0 _ _ _ st4 loop)
theorem pe_compR {gs : List Comprehension} {wi : TI} {g : TG} {ti : TT} {newAcc : Sem Value} {start : Addr → HO} (F : CompFm 0 e tg iter ifs emit) (hcl : clausesOf e = ⟨tg, iter, ifs, 0⟩ :: gs) (hev : eval e X.env = comprehension e scope X.env pos newAcc false (eval iter X.env)) (hnew : NewAcc X newAcc start) (hc : X.calm = true) (S : CompScope X.N X.env.scope N' ixs scope) (hi : PI X tg iter wi)
    (hb : ∀ s H fp, PG (cxComp X N' scope s H fp) tg g ∧ PIfs (cxComp X N' scope s H fp) ifs ti ∧ PEm (cxComp X N' scope s H fp) emit tem)
    (hs : ∀ x, foldedSetIterable iter X.env x = pure x := by intro _; rfl) : PE X e (tCompG wi ixs g ti tem start) := by
  intro pins s σ H Q I h
  rw [hev]
  refine wpAny_comprehension_free (use := none) hcl hs (closureFor_eq fun n hn => comp_free I S hn) S.kind (fun x hx hl => lookup_of_mem S.keys (by rw [← hl]; exact hx)) ?_
  refine thn (hi pins s σ H _ I h) fun v s1 h1 => thn h1 fun itv s2 h2 => ?_
  obtain ⟨it, fp, tn, J, H2, e, I2, T, st2, f2, hw⟩ := h2
  subst e
  refine comp_coreR (RR := fun acc C => compPost (model X.prog X.w) X.A X.xe none (EP X pins σ Q) acc C) F hc S I2 T st2 f2 hnew hb hw ?_
  rintro acc C s' ⟨p, H', rfl, I', fC, ⟨m, hm⟩, q⟩
  refine ⟨m, hm, fun h' hs' => ⟨.ref p, H', ?_, rfl, q⟩⟩
  exact I'.turned (it := C) (t' := s'.toks) (fun b o hb e => (hs'.2 b hb).trans e) fC.1 fC.2.1 fC.2.2.2.1 fC.2.2.2.2.1 fC.2.2.2.2.2
end
def emit2 (e it2 : Expr) (acc : Value) (env : Env) : Sem Unit := do
  let x ← eval it2 env
  standAt it2.pos
  let x ← foldedSetIterable it2 env x
  let _ ← runOwn (.compStart e 1 (← holding [x] (pyIter x)) acc env) env
abbrev set2 (elt tg1 it1 tg2 it2 : Expr) (scope : Scope) (pos : Pos) : Expr := .SetComp elt [⟨tg1, it1, [], 0⟩, ⟨tg2, it2, [], 0⟩] scope pos
theorem form_set2 {elt tg1 it1 tg2 it2 : Expr} {scope : Scope} {pos : Pos} : CompFm 0 (set2 elt tg1 it1 tg2 it2 scope pos) tg1 it1 [] (emit2 (set2 elt tg1 it1 tg2 it2 scope pos) it2) := ⟨rfl, fun it acc env => by
  unfold compTurn emit2
  simp only [bind_assoc]
  rfl, fun _ _ _ _ _ _ => ⟨rfl, rfl⟩, fun _ _ _ _ _ _ => ⟨rfl, rfl⟩⟩
theorem form_set2i {elt tg1 it1 tg2 it2 : Expr} {scope : Scope} {pos : Pos} : CompFm 1 (set2 elt tg1 it1 tg2 it2 scope pos) tg2 it2 [] (emitSet elt) := ⟨rfl, fun _ _ _ => rfl, fun _ _ _ _ _ _ => ⟨rfl, rfl⟩, fun _ _ _ _ _ _ => ⟨rfl, rfl⟩⟩
end L2
namespace L2
open PySem PySem.Spec PyProof.Rows PySem.W HS
def Forget (τ σ : St) : Prop := σ.length = τ.length ∧ ∀ (i : Nat) v, σ[i]? = some (some v) → τ[i]? = some (some v)
def tmTwo (wi : TI) (g : TG) (tem : Addr → St → Hp → (Hp → Prop) → Prop) (p : Addr) (σ : St) (H : Hp) (Q : Hp → Prop) : Prop :=
  wi σ H fun J H1 => ∃ W : Nat → Nat → St → Hp → Prop, (∃ m, W 0 m σ H1) ∧ ∀ i m τ H2, W i m τ H2 →
    ((J.stop i H2 ∧ Forget τ σ ∧ Q H2) ∨ (J.go i H2 ∧ ∀ x H3, J.yld i H2 x H3 → g x τ H3 fun τ4 H4 => tem p τ4 H4 fun H6 => ∃ m', m' < m ∧ W (i + 1) m' τ4 H6))
section
variable {X : Cx} {e tg it2 : Expr} {emit : Value → Env → Sem Unit} {tem : Addr → St → Hp → (Hp → Prop) → Prop} {wi : TI} {g : TG}
theorem em_two (hc : X.calm = true) (h0 : X.xe = fun _ _ => False) (F : CompFm 1 e tg it2 [] emit) (hi : PI X tg it2 wi) (hg : PG X tg g) (he : PEm X emit tem) (hs : ∀ x, foldedSetIterable it2 X.env x = pure x) : PEm X (emit2 e it2) (tmTwo wi g tem) := by
  intro pins s σ H p Q I h
  have nr : ∀ {α : Type} {tt : Sem α} {Q : α → Shared → Prop} {E : Value → Shared → Prop} {s' : Shared}, wpAny (model X.prog X.w) X.A tt Q X.xe s' → wpAny (model X.prog X.w) X.A tt Q E s' := fun z => by rw [h0] at z; exact wpAny_noRaise z
  unfold emit2
  refine wpAny_bind (thn (hi pins s σ H _ I h) fun v s1 h1 => wpAny_bind (wpAny_standAt ?_))
  rw [hs]
  refine wpAny_bind (wpAny_pure (wpAny_bind (wpAny_holding (thn h1 fun itv s2 h2 => ?_))))
  obtain ⟨it, fp, tn, J, H2, ee, I2, T, st2, f2, W, ⟨m0, w0⟩, turn⟩ := h2
  subst ee
  have stat : ∀ {H' : Hp}, (∀ b ∈ fp, H' b = none) → ∀ b ∈ fp, FpOk X pins H' b := fun hn b hb => ⟨hn b hb, (f2 b hb).2⟩
  have loop : codeAny (model X.prog X.w) X.A (.compLoop e 1 (.ref it) (.ref p) X.env) (fun r s' => r = .ok .next ∧ ∃ H', Inv X pins σ H' s' ∧ Q H') s2 := by
    refine code_compLoopR F (fun n s' => ∃ i τ H', Inv X pins τ H' s' ∧ tn i s'.heap ∧ (∀ b ∈ fp, H' b = none) ∧ W i n τ H') ?_ m0 ⟨0, σ, H2, I2, st2, fun b hb => (f2 b hb).1, w0⟩
    rintro n s3 ⟨i, τ, H3, I3, st3, fr3, w3⟩
    rcases turn i n τ H3 w3 with ⟨stop, fg, qn⟩ | ⟨go, step⟩
    · refine thn (T.done X rfl rfl rfl hc i pins s3 τ H3 _ I3 (stat fr3) st3 stop) fun r s4 ⟨hr, I4⟩ => ?_
      subst hr
      exact ⟨rfl, H3, I4.weak fg.1 fg.2, qn⟩
    · refine thn (T.item X rfl rfl rfl hc i pins s3 τ H3 _ I3 (stat fr3) st3 go) fun r s4 ⟨u, hr, h4⟩ => ?_
      subst hr
      refine thn h4 fun _ s5 ⟨x, H5, I5, r5, y5, st5, fr5⟩ => ?_
      have I5' := I5.pinned (stat fr5) (T.obj _ _ st5)
      refine thn (nr (hg _ s5 τ H5 x u _ I5' r5 (step x H5 y5))) fun _ s6 ⟨τ6, H6, I6, q6⟩ => ?_
      refine wpAny_pure ?_
      refine thn (nr (he _ s6 τ6 H6 _ _ I6 q6)) fun _ s7 ⟨H7, I7, m', hm, w7⟩ => ?_
      refine ⟨m', hm, i + 1, τ6, H7, I7.unpinned, T.keep _ _ _ st5 fun b hb o e => (I7.pin (b, o) (List.mem_append_right _ (List.mem_append_right _ (mem_pinsAt hb e)))).1, fun b hb => ?_, w7⟩
      obtain ⟨o, e, d⟩ := T.obj _ _ st5 b hb
      exact (I7.pin (b, o) (List.mem_append_right _ (List.mem_append_right _ (mem_pinsAt hb e)))).2.1
  refine wpAny_bind (wpAny_runOwn (codeAny_mono (code_compStartR F loop (T.self X.A 0 _ _ _ st2 loop)) fun r s3 hr => ?_) ?_)
  · obtain ⟨rfl, H', I', q⟩ := hr
    exact wpAny_pure ⟨H', I', q⟩
  · intro z; cases z
theorem pe_set2 {elt tg1 it1 tg2 : Expr} {scope : Scope} {pos : Pos} {N' : List Str} {ixs : List (Option Nat)} {g1 g2 : TG} {w1 w2 : TI} {te : TE} (hc : X.calm = true) (S : CompScope X.N X.env.scope N' ixs scope) (hi : PI X tg1 it1 w1)
    (hb : ∀ s H fp, PG (cxComp X N' scope s H fp) tg1 g1 ∧ PI (cxComp X N' scope s H fp) tg2 it2 w2 ∧ PG (cxComp X N' scope s H fp) tg2 g2 ∧ PEm (cxComp X N' scope s H fp) (emitSet elt) (tmSet X.prog X.w te))
    (hs : ∀ x, foldedSetIterable it1 X.env x = pure x := by intro _; rfl) (hs2 : ∀ (env : Env) x, foldedSetIterable it2 env x = pure x := by intro _ _; rfl) :
    PE X (set2 elt tg1 it1 tg2 it2 scope pos) (tCompG w1 ixs g1 (fun σ H Q => Q true H) (tmTwo w2 g2 (tmSet X.prog X.w te)) fun p => SetO X.prog X.w p []) :=
  pe_compR form_set2 rfl rfl new_set hc S hi (fun s H fp => ⟨(hb s H fp).1, pifs_nil, em_two hc rfl form_set2i (hb s H fp).2.1 (hb s H fp).2.2.1 (hb s H fp).2.2.2 fun x => hs2 _ x⟩) hs
end
end L2
namespace L2
open PySem PySem.W PySem.Spec PyProof.Rows
section
variable {X : Cx}
theorem pe_bm_K (K : Frag) (hK : X.K = K) {o e : Expr} {es : List Expr} {to : TE} {t : TA} {name : Str} {apos cpos : Pos} {T id : String} {r : V → List V → Hp → VK → Prop} (pa : PlainAttrs T) (slot : Slot T name id) (hty : typeOf (.builtin id) = pure (.type "method_descriptor")) (hm : MtR X id r) (ho : PE X o to) (ha : PA X (e :: es) t)
    (hbase : attributeBase o name X.env (eval o X.env) = eval o X.env := by rfl)
    (hfew : ((backTo cpos (starEach (e :: es) X.env)).all (fun x => !x.1) && (backToKw cpos (keywordEach [] X.env)).all (fun x => x.1.isSome) && decide ((e :: es).length + ([] : List Keyword).length + (if ([] : List Keyword).isEmpty then 0 else 1) < 30)) = true := by rfl)
    (hline : (apos.endLine == cpos.line) = true := by rfl) (hs : starEach (e :: es) X.env = (false, eval e X.env) :: starEach es X.env := by rfl) (hplain : (backTo cpos (starEach es X.env)).any (·.1) = false := by rfl) :
    PE X (.Call (.Attribute o name apos) (e :: es) [] cpos) (tBM K T r to t) := by subst hK; exact pe_bm pa slot hty hm ho ha hbase hfew hline hs hplain
end
end L2
namespace L2
open PySem PySem.Spec PyProof.Rows
abbrev fnR (oc : Value) (od : Option Addr) (x q : Str) (st : Stmt) (dv kV doc pm : Value) (an : Option Addr) (cd ct : Value) (sl : Array (Option Value)) : Obj := ⟨oc, od, .func (PySem.W.fnOf x q (defArgs st) (defBody st) (defScope st) dv kV doc pm an cd ct), sl⟩
end L2
namespace L2
open PySem
def RowsV (H : Hp) (vs : List V) (rows : List (List Str)) : Prop := Paired (fun y r => ∃ a, y = V.ref a ∧ H a = some (.tup (r.map V.str))) vs rows
theorem RowsV.same {H H' : Hp} {vs : List V} {rows : List (List Str)} (h : RowsV H vs rows) (s : Same H H') : RowsV H' vs rows := Paired.imp' (fun _ _ ⟨a, e, q⟩ => ⟨a, e, s _ _ q⟩) h
theorem RowsV.length {H : Hp} {vs : List V} {rows : List (List Str)} (h : RowsV H vs rows) : vs.length = rows.length := Paired.length h
theorem RowsV.get {H : Hp} : ∀ {vs : List V} {rows : List (List Str)} {i : Nat} {v : V}, RowsV H vs rows → vs[i]? = some v → ∃ a r, v = V.ref a ∧ rows[i]? = some r ∧ H a = some (.tup (r.map V.str))
  | _, _, i, v, .nil, e => by simp at e
  | _, _, 0, v, .cons p _, e => by
    obtain ⟨a, rfl, q⟩ := p
    simp at e; subst e
    exact ⟨a, _, rfl, rfl, q⟩
  | _, _, i + 1, v, .cons _ t, e => by
    obtain ⟨a, r, e1, e2, q⟩ := RowsV.get (i := i) t (by simpa using e)
    exact ⟨a, r, e1, by simpa using e2, q⟩
theorem RowsV.append {H : Hp} {vs : List V} {rows : List (List Str)} {a : Addr} {r : List Str} : RowsV H vs rows → H a = some (.tup (r.map V.str)) → RowsV H (vs ++ [.ref a]) (rows ++ [r])
  | .nil, q => .cons ⟨a, rfl, q⟩ .nil
  | .cons p t, q => .cons p (RowsV.append t q)
end L2
namespace K14
open PySem L2 PySem.W
def top (i : Nat) : Stmt := PySem.Challenge.pw_parentlines_k14_whole_orders_and_rings_t.main.body.getD i (.Pass ⟨0, 0, 0, 0⟩)
abbrev sIsWhole : Stmt := top 1
abbrev sIsName : Stmt := top 2
abbrev sKeeps : Stmt := top 4
abbrev sIsRow : Stmt := top 5
abbrev sNW : Stmt := top 6
abbrev sIsRing : Stmt := top 7
abbrev sIsWish : Stmt := top 8
abbrev sPot : Stmt := top 10
abbrev sDigit : Stmt := top 11
abbrev sNames : Stmt := top 12
abbrev sShuf : Stmt := top 13
abbrev sWished : Stmt := top 14
abbrev sRingOf : Stmt := top 15
abbrev sPlain : Stmt := top 16
abbrev sIsKept : Stmt := top 17
abbrev sLWish : Stmt := top 18
abbrev sRound : Stmt := top 19
abbrev sOdd : Stmt := top 20
abbrev sPartS : Stmt := top 21
abbrev sSpoilt : Stmt := top 22
abbrev sTold : Stmt := top 23
abbrev sLaw : Stmt := top 24
structure Blt (mg : Str → Option Value) : Prop where
  len : mg "len" = none
  max : mg "max" = none
  min : mg "min" = none
  abs : mg "abs" = none
  range : mg "range" = none
  any : mg "any" = none
  all : mg "all" = none
  list : mg "list" = none
  tuple : mg "tuple" = none
  enu : mg "enumerate" = none
theorem same_new {H : Hp} {q : Addr} {o : HO} (hq : H q = none) : Same H (upd H q o) := fun b u e => by rw [upd_ne (ne_of_none e hq)]; exact e
end K14
namespace K14
open PySem L2 PySem.W
end K14
namespace K14
open PySem L2 PySem.W
end K14
namespace K14
open PySem L2 PySem.W
def forBody (s : Stmt) : List Stmt := match s with | .For _ _ b _ _ => b | _ => []
def bodyAt (l : List Stmt) (i : Nat) : Stmt := l.getD i (.Pass ⟨0, 0, 0, 0⟩)
def asgV (s : Stmt) : Expr := match s with | .Assign _ v _ => v | _ => .Constant .none 0 ⟨0, 0, 0, 0⟩
def retV (s : Stmt) : Expr := match s with | .Return (some v) _ => v | _ => .Constant .none 0 ⟨0, 0, 0, 0⟩
def arg0 (e : Expr) : Expr := match e with | .Call _ (a :: _) _ _ => a | _ => .Constant .none 0 ⟨0, 0, 0, 0⟩
def subV (e : Expr) : Expr := match e with | .Subscript a _ _ => a | _ => .Constant .none 0 ⟨0, 0, 0, 0⟩
def eltOf (e : Expr) : Expr := match e with | .ListComp x _ _ _ => x | _ => .Constant .none 0 ⟨0, 0, 0, 0⟩
def compSc (e : Expr) : Scope := match e with | .ListComp _ _ sc _ => sc | _ => { kind := .function, names := [], isGenerator := false, isCoroutine := false }
theorem boot_tuple : bootBuiltins "tuple" = some (.type "tuple") := by decide +kernel
theorem boot_list : bootBuiltins "list" = some (.type "list") := by decide +kernel
section
variable {P : Program} {w : World} {K : Frag} {mg : Str → Option Value} {base : Heap} {f : Addr} {fd : FuncData}
structure Small (rows : List (List Str)) : Prop where
  few : rows.length ≤ 10
  short : ∀ r ∈ rows, r.length ≤ 20
  nm : ∀ r ∈ rows, ∀ n ∈ r, Nm n
theorem few_of {ps hs : List Str} (nd : ps.Nodup) (h : ∀ n ∈ ps, n ∈ hs) : ps.length ≤ hs.length := by
  by_cases z : ps.length ≤ hs.length
  · exact z
  · obtain ⟨y, hy, hn⟩ := pigeon (found := hs) nd (by omega)
    exact absurd (h y hy) hn
end
end K14
namespace K14
open PySem L2 PySem.W
theorem relabel_cell {env : Env} : ∀ {names : List (Str × NameKind)} {x : Str}, names.lookup x = some .cell →
    (names.map fun (n, k) => if (k == NameKind.free && env.scope.kind == .function && env.kindOf n == some .cell) then (n, NameKind.cell) else (n, k)).lookup x = some .cell
  | [], _, h => by simp at h
  | (n, k0) :: r, x, h => by
    have ih := @relabel_cell env r x
    show List.lookup x ((if (k0 == NameKind.free && env.scope.kind == .function && env.kindOf n == some .cell) = true then (n, NameKind.cell) else (n, k0)) :: _) = _
    rw [List.lookup_cons] at h
    cases hx : x == n with
    | true =>
      rw [hx] at h
      cases h
      rw [if_neg (by simp), List.lookup_cons, hx]
    | false =>
      rw [hx] at h
      by_cases hc : (k0 == NameKind.free && env.scope.kind == .function && env.kindOf n == some .cell) = true
      · rw [if_pos hc, List.lookup_cons, hx]; exact ih h
      · rw [if_neg hc, List.lookup_cons, hx]; exact ih h
theorem nest {N N' : List Str} {ixs : List (Option Nat)} {scO sc : Scope} {env : Env} (kind : sc.kind = .function) (keys : (sc.names.map (·.1)).Nodup) (nd : N'.Nodup) (len : ixs.length = N'.length) (fv : fvOk N N' ixs sc = true)
    (free : ∀ p ∈ sc.names, p.2 = .free → scO.names.lookup p.1 = some .cell ∨ scO.names.lookup p.1 = some .free) : CompScope N (relabel scO env) N' ixs sc :=
  ⟨kind, keys, nd, len, fv_of fv, fun p hp e => by
    rcases free p hp e with z | z
    · exact .inl (relabel_cell z)
    · exact lookup_relabel_of z⟩
theorem call_tuple_K {X : Cx} (K : Frag) (h : X.K = K) : CallR X (.type "tuple") (fun xs H Q => ∃ p ys, xs = [.ref p] ∧ ((SqL K H p ys ∧ ∀ l, H l = none → Q (.ref l) (upd H l (.tup ys))) ∨ (SqT K H p ys ∧ Q (.ref p) H))) := by subst h; exact call_tuple_of
theorem boot_any : bootBuiltins "any" = some (.builtin "any") := by decide +kernel
end K14
namespace K14
open PySem L2 PySem.W
theorem rows_keep {H H' : Hp} {vs : List V} {rows : List (List Str)} (h : RowsV H vs rows) (s : ∀ b xs, H b = some (.tup xs) → H' b = some (.tup xs)) : RowsV H' vs rows := Paired.imp' (fun _ _ ⟨a, e, q⟩ => ⟨a, e, s _ _ q⟩) h
end K14
namespace K14
open PySem L2
theorem boot_max : bootBuiltins "max" = some (.builtin "max") := by decide +kernel
theorem boot_abs : bootBuiltins "abs" = some (.builtin "abs") := by decide +kernel
section
variable {P : Program} {w : World} {K : PySem.W.Frag} {mg : Str → Option Value} {base : Heap}
@[irreducible] def spPot (K : PySem.W.Frag) : Sp := fun vs H Q _ => ∃ (a : Addr) (ns : List Int) (k : Int), vs = [.ref a, .int k] ∧ SqL K H a (ns.map V.int) ∧ 0 ≤ k ∧ k ≤ 100 ∧ ns.length ≤ 63 ∧
  ∀ (p : Addr) (x y : Int), H p = none → 0 ≤ x → 0 ≤ y → y < 4294967296 → Q (.ref p) (upd H p (.lst [.int x, .int y]))
theorem scPot : FnScope ["_law_script", "_law_k", "_law_cell"] ["_law_script", "_law_k"] (defScope sPot) := ⟨rfl, rfl, rfl, by decide +kernel, rfl, by decide +kernel, by decide +kernel⟩
theorem get_int {ns : List Int} {i : Nat} (h : i < ns.length) : ∃ z, (ns.map V.int)[i]? = some (V.int z) := ⟨ns[i], by rw [List.getElem?_map, List.getElem?_eq_getElem h]; rfl⟩
theorem ok_pot {f : Addr} {fd : FuncData} (F : Fun K "_law_pot" "_law_pot" sPot f fd) (B : Blt mg) : FnOk P w K mg base CX0 1 f fd ["_law_script", "_law_k"] (spPot K) := by
  refine F.ok scPot (fun vs H Q E h => ?_) (fun cdv A outer s H vs Q E hr h => ?_)
  · unfold spPot at h; obtain ⟨a, ns, k, rfl, _⟩ := h; rfl
  · unfold spPot at h
    obtain ⟨a, ns, k, rfl, hS, k0, k1, hl, q⟩ := h
    refine ⟨_, pss_cons (ps_set (i := 2) scPot.nd rfl (Or.inl rfl) pe_int)
      (pss_cons (ps_if (pt_cmpR op_lt (pv 1) (pe_callB call_len_seq (by rfl) B.len boot_len (pa_cons (pv 0) pa_nil)) (nomark _))
          (pss_one (ps_set (i := 2) scPot.nd rfl (Or.inl rfl) (pe_ix ix_list (pv 0) (pv 1) (fun _ _ => rfl)))) pss_nil)
      (pss_one (ps_ret (pe_lst (pa_cons (pe_callB (call_max2 rfl) (by rfl) B.max boot_max (pa_cons pe_int (pa_cons (pe_op op_sub (pe_callB call_abs (by rfl) B.abs boot_abs (pa_cons (pv 2) pa_nil)) (pe_op op_pow pe_int pe_int)) pa_nil)))
        (pa_cons (pe_op op_add (pe_op op_add (pe_op op_mod (pe_callB call_abs (by rfl) B.abs boot_abs (pa_cons (pv 2) pa_nil)) pe_int) (pe_op op_mul pe_int (pv 1))) pe_int) pa_nil)))))), ?_⟩
    refine ⟨_, rfl, _, rfl, a, _, rfl, .inl hS, _, _, rfl, rfl, _, rfl, ?_⟩
    have abs0 : ∀ c : Int, 0 ≤ (if c < 0 then -c else c) := fun c => by split <;> omega
    have fin : ∀ c : Int, ∀ p, H p = none → Q (.ref p) (upd H p (.lst [.int (if (if c < 0 then -c else c) - 10 ^ (18 : Int).toNat > 0 then (if c < 0 then -c else c) - 10 ^ (18 : Int).toNat else 0), .int ((if c < 0 then -c else c) % 2147483587 + 101 * k + 3)])) := fun c p hp => by
      have h1 := Int.emod_nonneg (if c < 0 then -c else c) (show (2147483587 : Int) ≠ 0 by decide)
      have h2 := Int.emod_lt_of_pos (if c < 0 then -c else c) (show (0 : Int) < 2147483587 by decide)
      refine q p _ _ hp ?_ (by omega) (by omega)
      generalize (if c < 0 then -c else c) - 10 ^ (18 : Int).toNat = d
      split <;> omega
    have tail : ∀ c : Int, ∃ (x : V), ([some (.ref a), some (.int k), some (.int c)] : St)[2]? = some (some x) := fun c => ⟨_, rfl⟩
    refine ite2 (fun hk => ?_) (fun hk => ?_)
    · have hk' : k < ((ns.map V.int).length : Int) := of_decide_eq_true hk
      rw [List.length_map] at hk'
      obtain ⟨z, hz⟩ := get_int (ns := ns) (i := k.toNat) (by omega)
      refine ⟨_, rfl, _, rfl, a, _, _, _, rfl, rfl, hS, (by rw [show k = ((k.toNat : Nat) : Int) by omega]; exact atI_nat hz), ?_⟩
      refine ⟨_, rfl, z, rfl, _, _, rfl, rfl, ⟨by decide, by decide, by decide⟩, _, _, rfl, rfl, _, _, rfl, ?_⟩
      refine ⟨_, rfl, z, rfl, _, _, rfl, rfl, (by show (0 : Int) < 2147483587; decide), _, rfl, _, _, rfl, rfl, .inl ⟨by decide, by decide⟩, _, _, rfl, rfl, _, _, rfl, rfl, (by show 2 ≤ sizeLine; rw [sizeLine_eq]; decide), fun p hp => fin z p hp⟩
    · refine ⟨_, rfl, 0, rfl, _, _, rfl, rfl, ⟨by decide, by decide, by decide⟩, _, _, rfl, rfl, _, _, rfl, ?_⟩
      refine ⟨_, rfl, 0, rfl, _, _, rfl, rfl, (by show (0 : Int) < 2147483587; decide), _, rfl, _, _, rfl, rfl, .inl ⟨by decide, by decide⟩, _, _, rfl, rfl, _, _, rfl, rfl, (by show 2 ≤ sizeLine; rw [sizeLine_eq]; decide), fun p hp => fin 0 p hp⟩
@[irreducible] def spDigit : Sp := fun vs H Q _ => ∃ (p : Addr) (m x y : Int), vs = [.ref p, .int m] ∧ H p = some (.lst [.int x, .int y]) ∧ 0 ≤ x ∧ 0 ≤ y ∧ y < 4294967296 ∧ 0 < m ∧ m < 4611686018427387904 ∧
  ∀ (d x' y' : Int), 0 ≤ d → d < m → 0 ≤ x' → 0 ≤ y' → y' < 4294967296 → Q (.int d) (upd H p (.lst [.int x', .int y']))
theorem scDigit : FnScope ["_law_pot_here", "_law_many", "_law_digit_here"] ["_law_pot_here", "_law_many"] (defScope sDigit) := ⟨rfl, rfl, rfl, by decide +kernel, rfl, by decide +kernel, by decide +kernel⟩
theorem ok_digit {f : Addr} {fd : FuncData} (F : Fun K "_law_digit" "_law_digit" sDigit f fd) : FnOk P w K mg base CX0 1 f fd ["_law_pot_here", "_law_many"] spDigit := by
  refine F.ok scDigit (fun vs H Q E h => ?_) (fun cdv A outer s H vs Q E hr h => ?_)
  · unfold spDigit at h; obtain ⟨p, m, x, y, rfl, _⟩ := h; rfl
  · unfold spDigit at h
    obtain ⟨p, m, x, y, rfl, hp, x0, y0, y1, m0, m1, q⟩ := h
    refine ⟨_, pss_cons (ps_if (pt_cmpR op_gt (pe_ix ix_list (pv 0) pe_int (fun _ _ => rfl)) pe_int (nomark _))
        (pss_cons (ps_set (i := 2) scDigit.nd rfl (Or.inl rfl) (pe_op op_mod (pe_ix ix_list (pv 0) pe_int (fun _ _ => rfl)) (pv 1)))
        (pss_cons (ps_asg (pe_op op_fdivW (pe_ix ix_list (pv 0) pe_int (fun _ _ => rfl)) (pv 1)) (pg_sub (pv 0) pe_int set_list))
        (pss_one (ps_ret (pv 2))))) pss_nil)
      (pss_cons (ps_asg (pe_op op_mod (pe_op op_add (pe_op op_mul (pe_ix ix_list (pv 0) pe_int (fun _ _ => rfl)) pe_int) pe_int) pe_int) (pg_sub (pv 0) pe_int set_list))
      (pss_one (ps_ret (pe_op op_mod (pe_op op_fdiv (pe_op op_mod (pe_op op_mul (pe_ix ix_list (pv 0) pe_int (fun _ _ => rfl)) (pe_ix ix_list (pv 0) pe_int (fun _ _ => rfl))) pe_int) pe_int) (pv 1))))), ?_⟩
    have hl : SqL K H p [.int x, .int y] := SqL.of hp
    refine ⟨_, rfl, p, _, 0, _, rfl, rfl, hl, rfl, _, _, rfl, rfl, _, rfl, ?_⟩
    refine ite2 (fun hx => ?_) (fun hx => ?_)
    · refine ⟨_, rfl, p, _, 0, _, rfl, rfl, hl, rfl, _, rfl, _, _, rfl, rfl, m0, ?_⟩
      refine ⟨_, rfl, p, _, 0, _, rfl, rfl, hl, rfl, _, rfl, _, _, rfl, rfl, ⟨m0, by omega⟩, _, rfl, p, _, 0, 0, rfl, rfl, hp, rfl, ?_⟩
      refine ⟨_, rfl, ?_⟩
      exact q _ _ _ (Int.emod_nonneg _ (by omega)) (Int.emod_lt_of_pos _ m0) (Int.ediv_nonneg x0 (by omega)) y0 y1
    · refine ⟨_, rfl, p, _, 1, _, rfl, rfl, hl, rfl, _, _, rfl, rfl, .inr ⟨by decide, by decide⟩, _, _, rfl, rfl, _, _, rfl, rfl, (by show (0 : Int) < 2147483647; decide), _, rfl, p, _, 1, 1, rfl, rfl, hp, rfl, ?_⟩
      have h1 := Int.emod_nonneg (y * 39373 + 20011) (show (2147483647 : Int) ≠ 0 by decide)
      have h2 := Int.emod_lt_of_pos (y * 39373 + 20011) (show (0 : Int) < 2147483647 by decide)
      refine ⟨_, rfl, p, _, 1, _, rfl, rfl, SqL.of upd_same, rfl, _, rfl, p, _, 1, _, rfl, rfl, SqL.of upd_same, rfl, _, _, rfl, rfl, .inl ⟨Int.lt_of_lt_of_le (by decide) h1, Int.lt_of_lt_of_le h2 (by decide)⟩, _, _, rfl, rfl, (by show (0 : Int) < 2147483563; decide), _, _, rfl, rfl, ⟨by decide, by decide⟩, _, rfl, _, _, rfl, rfl, m0, ?_⟩
      exact q _ x _ (Int.emod_nonneg _ (by omega)) (Int.emod_lt_of_pos _ m0) x0 h1 (by omega)
end
end K14
namespace K14
open PySem L2
def PotOk (p : Addr) (H : Hp) : Prop := ∃ x y : Int, H p = some (.lst [.int x, .int y]) ∧ 0 ≤ x ∧ 0 ≤ y ∧ y < 4294967296
structure PotAt (p : Addr) (H H' : Hp) : Prop where
  ok : PotOk p H'
  kp : ∀ b o, H b = some o → b ≠ p → H' b = some o
section
variable {p q : Addr} {H H1 H2 : Hp} {o : HO}
theorem PotAt.refl (h : PotOk p H) : PotAt p H H := ⟨h, fun _ _ e _ => e⟩
theorem PotAt.trans (a : PotAt p H H1) (b : PotAt p H1 H2) : PotAt p H H2 := ⟨b.ok, fun c o e n => b.kp c o (a.kp c o e n) n⟩
theorem PotOk.ne (h : PotOk p H) (hq : H q = none) : p ≠ q := let ⟨_, _, e, _⟩ := h; ne_of_none e hq
theorem PotAt.new (a : PotAt p H H1) (hq : H1 q = none) : PotAt p H (upd H1 q o) := by
  refine ⟨?_, fun b u e n => ?_⟩
  · obtain ⟨x, y, e, r⟩ := id a.ok
    exact ⟨x, y, by rw [upd_ne (a.ok.ne hq)]; exact e, r⟩
  · rw [upd_ne (ne_of_none (a.kp b u e n) hq)]; exact a.kp b u e n
theorem PotAt.free (a : PotAt p H H1) (hq : H1 q = none) : H q = none := by
  cases e : H q with
  | none => rfl
  | some u =>
    by_cases h : q = p
    · subst h; obtain ⟨_, _, z, _⟩ := a.ok; rw [z] at hq; cases hq
    · rw [a.kp q u e h] at hq; cases hq
theorem PotAt.write (a : PotAt p H H1) (hq : H q = none) (hp : p ≠ q) : PotAt p H (upd H1 q o) := by
  refine ⟨?_, fun b u e n => ?_⟩
  · obtain ⟨x, y, e, r⟩ := id a.ok
    exact ⟨x, y, by rw [upd_ne hp]; exact e, r⟩
  · rw [upd_ne (ne_of_none e hq)]; exact a.kp b u e n
theorem digit_sp {m : Int} {Q : VK} {E : XK} (h : PotOk p H) (m0 : 0 < m) (m1 : m < 4611686018427387904) (k : ∀ d H', 0 ≤ d → d < m → PotAt p H H' → Q (.int d) H') : spDigit [.ref p, .int m] H Q E := by
  obtain ⟨x, y, e, x0, y0, y1⟩ := h
  unfold spDigit
  exact ⟨p, m, x, y, rfl, e, x0, y0, y1, m0, m1, fun d x' y' d0 d1 h1 h2 h3 => k d _ d0 d1 ⟨⟨x', y', upd_same, h1, h2, h3⟩, fun b o z n => by rw [upd_ne n]; exact z⟩⟩
end
theorem sum_signs : ∀ cs : List Nat, ((cs.map sign).map (·.length)).sum = cs.length
  | [] => rfl
  | c :: cs => by
    have e : (sign c).length = 1 := rfl
    simp only [List.map_cons, List.sum_cons, sum_signs cs, List.length_cons, e]; omega
abbrev letters : Str := "abcdefghijklmnopqrstuvwxyz"
theorem letter_at {d : Int} (h0 : 0 ≤ d) (h1 : d < 26) : ∃ c : Nat, atI letters.cps.toList d = some c ∧ 97 ≤ c ∧ c ≤ 122 ∧ c = 97 + d.toNat := by
  have all : ∀ i : Nat, i < 26 → letters.cps.toList[i]? = some (97 + i) := by decide +kernel
  refine ⟨97 + d.toNat, ?_, by omega, by omega, rfl⟩
  rw [show d = ((d.toNat : Nat) : Int) by omega]
  exact atI_nat (all d.toNat (by omega))
section
variable {P : Program} {w : World} {K : PySem.W.Frag} {mg : Str → Option Value} {base : Heap}
@[irreducible] def spNames : Sp := fun vs H Q _ => ∃ (p : Addr) (m : Nat), vs = [.ref p, .int m] ∧ PotOk p H ∧ m ≤ 20 ∧
  ∀ (l : Addr) (ys : List Str) (H' : Hp), H l = none → ys.length = m → (∀ y ∈ ys, Nm y) → ys.Nodup → PotAt p H H' → H' l = some (.lst (ys.map V.str)) → Q (.ref l) H'
abbrev nNames : List Str := ["_law_pot_here", "_law_many", "_law_letters", "_law_found", "_law_k", "_law_size", "_law_name", "_law_some"]
theorem scNames : FnScope nNames ["_law_pot_here", "_law_many"] (defScope sNames) := ⟨rfl, rfl, rfl, by decide +kernel, rfl, by decide +kernel, by decide +kernel⟩
def ifBody (s : Stmt) : List Stmt := match s with | .If _ b _ _ => b | _ => []
abbrev scC1 : Scope := compSc (arg0 (asgV (bodyAt (forBody (bodyAt (defBody sNames) 2)) 1)))
abbrev scC2 : Scope := compSc (asgV (bodyAt (ifBody (bodyAt (forBody (bodyAt (defBody sNames) 2)) 2)) 0))
abbrev scC3 : Scope := compSc (subV (asgV (bodyAt (ifBody (bodyAt (forBody (bodyAt (defBody sNames) 2)) 2)) 1)))
theorem cs1 : CompScope nNames (defScope sNames) ["_law_turn", "_law_letters", "_law_pot_here"] [none, some 2, some 0] scC1 := ⟨rfl, by decide +kernel, by decide +kernel, rfl, fv_of (by decide +kernel), by decide +kernel⟩
theorem cs2 : CompScope nNames (defScope sNames) ["_law_turn", "_law_letters", "_law_name"] [none, some 2, some 6] scC2 := ⟨rfl, by decide +kernel, by decide +kernel, rfl, fv_of (by decide +kernel), by decide +kernel⟩
theorem cs3 : CompScope nNames (defScope sNames) ["_law_one", "_law_found"] [none, some 3] scC3 := ⟨rfl, by decide +kernel, by decide +kernel, rfl, fv_of (by decide +kernel), by decide +kernel⟩
theorem ok_names {f fD : Addr} {fd fdD : FuncData} (F : Fun K "_law_names" "_law_names" sNames f fd) (B : Blt mg) (FD : Fun K "_law_digit" "_law_digit" sDigit fD fdD) (bD : Binds K fdD ["_law_pot_here", "_law_many"] []) (mD : mg "_law_digit" = some (.ref fD)) :
    FnOk P w K mg base CX0 3 f fd ["_law_pot_here", "_law_many"] spNames := by
  have GD : FnOk P w K mg base CX0 1 fD fdD ["_law_pot_here", "_law_many"] spDigit := ok_digit FD
  refine F.ok scNames (fun vs H Q E h => ?_) (fun cdv A outer s H vs Q E hr h => ?_)
  · unfold spNames at h; obtain ⟨p, m, rfl, _⟩ := h; rfl
  · unfold spNames at h
    obtain ⟨p, m, rfl, hp, m1, q⟩ := h
    have hr1 : Room 1 _ := hr.mono (by decide)
    refine ⟨_, pss_cons (ps_set (i := 2) scNames.nd rfl (Or.inr rfl) pe_str)
      (pss_cons (ps_set (i := 3) scNames.nd rfl (Or.inr rfl) (pe_lst pa_nil))
      (pss_cons (ps_for PassesOwn.never rfl (pi_range1 rfl B.range (pa_cons (pv 1) pa_nil)) (pg_name (i := 4) scNames.nd rfl (Or.inl rfl))
        (pss_cons (ps_set (i := 5) scNames.nd rfl (Or.inl rfl) (pe_op op_add pe_int (pe_call GD hr1 rfl mD FD.kp bD .nil pass0 (pa_cons (pv 0) (pa_cons (pe_ix ix_list (pe_lst (pa_cons pe_int (pa_cons pe_int (pa_cons pe_int pa_nil))))
            (pe_call GD hr1 rfl mD FD.kp bD .nil pass0 (pa_cons (pv 0) (pa_cons pe_int pa_nil))) (fun _ _ => rfl)) pa_nil)))))
        (pss_cons (ps_set (i := 6) scNames.nd rfl (Or.inr rfl) (pe_bm PySem.F.plainAttrs_str PySem.F.slot_str_join PySem.F.type_str_join mt_join pe_str
            (pa_cons (pe_comp rfl cs1 (pi_range1 rfl B.range (pa_cons (pv 5) pa_nil)) (fun s H fp => ⟨pg_name (i := 0) cs1.nd rfl (Or.inl rfl), pifs_nil, pe_ix ix_str (pv 1) (pe_call GD hr1 rfl mD FD.kp bD .nil pass0 (pa_cons (pv 2) (pa_cons pe_int pa_nil))) (fun _ _ => rfl)⟩)) pa_nil)))
        (pss_cons (ps_if (pt_cmpR op_in_seq (pv 6) (pv 3) rfl)
            (pss_cons (ps_setComp (i := 7) rfl cs2 scNames.nd rfl rfl (pi_range1 rfl B.range (pa_cons (pe_op op_add (pv 1) pe_int) pa_nil)) (fun s H fp => ⟨pg_name (i := 0) cs2.nd rfl (Or.inl rfl), pifs_nil,
                pe_op op_add_str (pe_op op_add_str (pe_slice sl_str (pv 2) po_none (po_some pe_int)) (pe_ix ix_str (pv 1) (pv 0) (fun _ _ => rfl))) pe_str⟩))
            (pss_one (ps_set (i := 6) scNames.nd rfl (Or.inr rfl) (pe_ix ix_list (pe_comp rfl cs3 (pi_list (pv 7)) (fun s H fp => ⟨pg_name (i := 0) cs3.nd rfl (Or.inl rfl), pifs_one (pt_cmpR (op_notIn_K K rfl) (pv 0) (pv 1) rfl), pv 0⟩)) pe_int (fun _ _ => rfl)))))
            pss_nil)
        (pss_one (ps_expr (pe_bm PySem.F.plainAttrs_list PySem.F.slot_list_append PySem.F.type_list_append mt_append (pv 3) (pa_cons (pv 6) pa_nil))))))))
      (pss_one (ps_ret (pv 3))))), ?_⟩
    refine ⟨Nat.zero_le _, fun l hl => ?_⟩
    have hpl : p ≠ l := hp.ne hl
    have em : ((m : Int)).toNat = m := Int.toNat_natCast m
    refine ⟨_, rfl, (m : Int), rfl, by omega, by omega, for_range (fun i σ H1 => ∃ (ys : List Str) (v4 v5 v6 v7 : Option V), σ = [some (.ref p), some (.int m), some (.str letters), some (.ref l), v4, v5, v6, v7] ∧ ys.length = i ∧ (∀ y ∈ ys, Nm y) ∧ ys.Nodup ∧ PotAt p H H1 ∧ H1 l = some (.lst (ys.map V.str)))
      ⟨[], none, none, none, none, rfl, rfl, (fun y hy => by simp at hy), List.nodup_nil, (PotAt.refl hp).new hl, upd_same⟩ ?_ ?_⟩
    · rintro i σ H1 hi ⟨ys, v4, v5, v6, v7, rfl, hlen, hnm, hnd, pa, hl1⟩
      rw [em] at hi
      refine ⟨_, rfl, by show 3 ≤ sizeLine; rw [sizeLine_eq]; decide, fun a hq => ⟨_, rfl, ?_⟩⟩
      have nqp : a ≠ p := Ne.symm (pa.ok.ne hq)
      refine digit_sp (p := p) (m := 3) ((PotAt.refl pa.ok).new hq).ok (by decide) (by decide) fun d H2 d0 d1 pb => ?_
      obtain ⟨mv, hat, mv0, mv1⟩ : ∃ mv : Int, atI [V.int 1, V.int 2, V.int 8] d = some (V.int mv) ∧ 0 < mv ∧ mv ≤ 8 := by
        have : d = 0 ∨ d = 1 ∨ d = 2 := by omega
        rcases this with rfl | rfl | rfl
        · exact ⟨1, rfl, by decide, by decide⟩
        · exact ⟨2, rfl, by decide, by decide⟩
        · exact ⟨8, rfl, by decide, by decide⟩
      refine ⟨a, _, d, _, rfl, rfl, SqL.of (pb.kp a _ upd_same nqp), hat, ?_⟩
      refine digit_sp (p := p) (m := mv) pb.ok mv0 (by omega) fun e H3 e0 e1 pc => ⟨_, _, rfl, rfl, ?_⟩
      have pd : PotAt p H1 H3 := (((PotAt.refl pa.ok).new hq).trans pb).trans pc
      have hl3 : H3 l = some (.lst (ys.map V.str)) := pd.kp l _ hl1 (Ne.symm hpl)
      refine ⟨rfl, _, rfl, 1 + e, rfl, by omega, by omega, fun a1 ha1 => ?_⟩
      have na1 : p ≠ a1 := pc.ok.ne ha1
      refine comp_range (fun i zs τ H4 => ∃ (cs : List Nat) (t0 : Option V), zs = (cs.map sign).map V.str ∧ cs.length = i ∧ (∀ c ∈ cs, 97 ≤ c ∧ c ≤ 122) ∧ τ = [t0, some (.str letters), some (.ref p)] ∧ PotAt p H3 H4 ∧ H4 a1 = some (.lst zs))
        ⟨[], none, rfl, rfl, (fun c hc => by simp at hc), rfl, (PotAt.refl pc.ok).new ha1, upd_same⟩ (fun i zs τ H4 ⟨_, _, _, _, _, _, _, z⟩ => z) ?_ ?_
      · rintro j zs τ H4 hj ⟨cs, t0, rfl, hcl, haz, rfl, pe, hz⟩
        refine ⟨_, rfl, _, rfl, digit_sp (p := p) (m := 26) pe.ok (by decide) (by decide) fun d H5 d0 d1 pf => ?_⟩
        obtain ⟨c, hc, c0, c1, _⟩ := letter_at d0 d1
        have hz5 : H5 a1 = _ := pf.kp a1 _ hz (Ne.symm na1)
        refine ⟨letters, d, c, rfl, rfl, (by rw [sizeLine_eq]; decide +kernel), hc, hz5, ?_, cw_next hj ⟨cs ++ [c], _, ?_, ?_, ?_, rfl, ?_, upd_same⟩⟩
        · rw [List.length_map, List.length_map, hcl, sizeLine_eq]; omega
        · rw [List.map_append, List.map_append]; rfl
        · rw [List.length_append, hcl]; rfl
        · intro x hx
          rcases List.mem_append.mp hx with h | h
          · exact haz x h
          · have : x = c := by simpa using h
            rw [this]; exact ⟨c0, c1⟩
        · exact (pe.trans pf).write ((PotAt.refl pc.ok).free ha1) na1
      · rintro zs τ H4 ⟨cs, t0, rfl, hcl, haz, rfl, pe, hz⟩
        have hsl : ((cs.map sign).map (·.length)).sum = cs.length := by
          exact sum_signs cs
        refine ⟨("" : Str), a1, cs.map sign, rfl, rfl, .inl (SqL.of hz), ?_, ?_⟩
        · have : (Str.length ("" : Str)) = 0 := rfl
          rw [hsl, this, hcl]; omega
        rw [join_signs]
        generalize hnme : (⟨cs.toArray⟩ : Str) = nm
        have nmOk : Nm nm := by
          have el : nm.length = cs.length := by rw [← hnme]; show cs.toArray.size = _; simp
          refine ⟨by omega, by omega, fun c hc => haz c ?_⟩
          rw [← hnme] at hc; simpa using hc
        have pg : PotAt p H1 H4 := pd.trans pe
        have hl4 : H4 l = some (.lst (ys.map V.str)) := pe.kp l _ hl3 (Ne.symm hpl)
        refine ⟨_, rfl, _, rfl, l, _, rfl, .inl (SqL.of hl4), rfl, flat_strs _, _, rfl, ?_⟩
        rw [if_neg Bool.false_ne_true, inV_strs]
        refine ite2 (fun hin => ?_) (fun hin => ?_)
        · -- some = [..]
          refine ⟨_, rfl, _, _, rfl, rfl, (m : Int) + 1, rfl, by omega, by omega, fun a2 ha2 => ?_⟩
          refine comp_range (fun i zs τ H5 => ∃ t0 : Option V, zs = ((List.range i).map fun j => Txt.slice nm none (some 6) ++ sign (97 + j) ++ ("q" : Str)).map V.str ∧ τ = [t0, some (.str letters), some (.str nm)] ∧ H5 = upd H4 a2 (.lst zs))
            ⟨none, rfl, rfl, rfl⟩ (fun i zs τ H5 ⟨_, _, _, z⟩ => by rw [z]; exact upd_same) ?_ ?_
          · rintro j zs τ H5 hj ⟨t0, rfl, rfl, rfl⟩
            have hj' : j < m + 1 := by omega
            obtain ⟨c, hc, c0, c1, hce⟩ := letter_at (d := 0 + (j : Int)) (by omega) (by omega)
            have hce' : c = 97 + j := by rw [hce]; omega
            have l1 : (Txt.slice nm none (some 6)).length ≤ 6 := slice6_len nm
            refine ⟨_, rfl, _, rfl, nm, rfl, by have := nmOk.hi; omega, _, rfl, _, rfl, letters, _, c, rfl, rfl, (by rw [sizeLine_eq]; decide +kernel), hc, _, _, rfl, rfl, ?_, _, _, rfl, rfl, ?_, upd_same, ?_, cw_next hj ⟨_, ?_, rfl, ?_⟩⟩
            · show _ + 1 ≤ sizeLine; rw [sizeLine_eq]; omega
            · have e1 : (Txt.slice nm none (some 6) ++ (⟨#[c]⟩ : Str)).length = (Txt.slice nm none (some 6)).length + 1 := by
                show (_ ++ #[c] : Array Nat).size = _; rw [Array.size_append]; rfl
              have e2 : (("q" : Str)).length = 1 := by decide +kernel
              show (Txt.slice nm none (some 6) ++ (⟨#[c]⟩ : Str)).length + _ ≤ sizeLine
              rw [e1, e2, sizeLine_eq]; omega
            · rw [List.length_map, List.length_map, List.length_range, sizeLine_eq]; omega
            · rw [List.range_succ, List.map_append, List.map_append, hce']; rfl
            · rw [upd_upd]
          · rintro zs τ H5 ⟨t0, rfl, rfl, rfl⟩
            have em1 : ((m : Int) + 1).toNat = m + 1 := by omega
            generalize hcd : (List.range ((m : Int) + 1).toNat).map (fun j => Txt.slice nm none (some 6) ++ sign (97 + j) ++ ("q" : Str)) = cands
            have cnd : cands.Nodup := by
              rw [← hcd]
              refine List.Pairwise.map _ (fun a b hab h => hab ?_) List.nodup_range
              have := cand_inj h
              omega
            have cnm : ∀ y ∈ cands, Nm y := by
              intro y hy
              rw [← hcd] at hy
              obtain ⟨j, hj, rfl⟩ := List.mem_map.mp hy
              have := List.mem_range.mp hj
              exact cand_nm nmOk.az ⟨by omega, by omega⟩
            have clen : cands.length = m + 1 := by rw [← hcd, List.length_map, List.length_range, em1]
            have hl5 : upd H4 a2 (.lst (cands.map V.str)) l = some (.lst (ys.map V.str)) := by rw [upd_ne (ne_of_none hl4 ha2)]; exact hl4
            refine ⟨_, rfl, a2, rfl, ⟨_, SqL.of upd_same⟩, fun a3 ha3 => ?_⟩
            refine comp_list (xs := cands.map V.str) (fun i zs τ H6 => ∃ t0 : Option V, zs = ((cands.take i).filter (fun y => !decide (y ∈ ys))).map V.str ∧ τ = [t0, some (.ref l)] ∧ H6 = upd (upd H4 a2 (.lst (cands.map V.str))) a3 (.lst zs))
              ⟨none, rfl, rfl, rfl⟩ (fun i zs τ H6 ⟨_, _, _, z⟩ => by rw [z]; exact ⟨upd_same, SqL.of (by rw [upd_ne (ne_of_none upd_same ha3)]; exact upd_same)⟩) ?_ ?_
            · rintro j x zs τ H6 hx ⟨t0, rfl, rfl, rfl⟩
              rw [List.getElem?_map] at hx
              obtain ⟨y, hy, rfl⟩ := Option.map_eq_some_iff.mp hx
              have hjl : j < (cands.map V.str).length := by rw [List.length_map]; exact (List.getElem?_eq_some_iff.mp hy).1
              have tk : cands.take (j + 1) = cands.take j ++ [y] := by rw [List.take_succ, hy]; rfl
              have hl6 : (upd (upd H4 a2 (.lst (cands.map V.str))) a3 (.lst (((cands.take j).filter (fun y => !decide (y ∈ ys))).map V.str))) l = some (.lst (ys.map V.str)) := by rw [upd_ne (ne_of_none hl5 ha3)]; exact hl5
              refine ⟨_, rfl, _, rfl, l, _, rfl, .inl (SqL.of hl6), rfl, flat_strs _, _, rfl, ?_⟩
              rw [if_pos rfl, inV_strs]
              refine ite2 (fun hn => ?_) (fun hn => ?_)
              · refine ⟨_, rfl, upd_same, ?_, cw_next hjl ⟨_, ?_, rfl, ?_⟩⟩
                · have h1 := List.length_filter_le (fun y => !decide (y ∈ ys)) (cands.take j)
                  have h2 : (cands.take j).length ≤ cands.length := by rw [List.length_take]; omega
                  rw [List.length_map, sizeLine_eq]; omega
                · rw [tk, List.filter_append, List.map_append, List.filter_cons, if_pos hn]; rfl
                · rw [upd_upd]
              · refine cw_next hjl ⟨_, ?_, rfl, rfl⟩
                rw [tk, List.filter_append, List.filter_cons, if_neg hn, List.filter_nil, List.append_nil]
            · rintro zs τ H6 ⟨t0, rfl, rfl, rfl⟩
              rw [List.length_map, List.take_length]
              obtain ⟨y0, hy0, hyn⟩ := pigeon (found := ys) cnd (by omega)
              have hmem : y0 ∈ cands.filter (fun y => !decide (y ∈ ys)) := List.mem_filter.mpr ⟨hy0, by simpa using hyn⟩
              cases hf : cands.filter (fun y => !decide (y ∈ ys)) with
              | nil => rw [hf] at hmem; simp at hmem
              | cons z1 zr =>
                have hz1 : z1 ∈ cands.filter (fun y => !decide (y ∈ ys)) := by rw [hf]; exact List.mem_cons_self
                obtain ⟨zc, zn⟩ := List.mem_filter.mp hz1
                have zn' : z1 ∉ ys := by simpa using zn
                have hl6 : (upd (upd H4 a2 (.lst (cands.map V.str))) a3 (.lst ((z1 :: zr).map V.str))) l = some (.lst (ys.map V.str)) := by rw [upd_ne (ne_of_none hl5 ha3)]; exact hl5
                have ph : PotAt p H (upd (upd H4 a2 (.lst (cands.map V.str))) a3 (.lst ((z1 :: zr).map V.str))) := ((pa.trans pg).new ha2).new ha3
                refine ⟨a3, _, 0, V.str z1, rfl, rfl, SqL.of upd_same, (show atI ((z1 :: zr).map V.str) ((0 : Nat) : Int) = some (V.str z1) from atI_nat rfl), ?_⟩
                refine ⟨_, rfl, .inl ⟨rfl, _, SqL.of hl6⟩, _, rfl, l, _, _, rfl, rfl, hl6, ?_, ?_⟩
                · rw [List.length_map, sizeLine_eq]; omega
                · refine ⟨ys ++ [z1], _, _, _, _, rfl, by rw [List.length_append, hlen]; rfl, ?_, ?_, ?_, ?_⟩
                  · intro y hy
                    rcases List.mem_append.mp hy with h | h
                    · exact hnm y h
                    · have : y = z1 := by simpa using h
                      rw [this]; exact cnm z1 zc
                  · rw [List.nodup_append]
                    exact ⟨hnd, by simp, fun a ha b hb => by have : b = z1 := by simpa using hb
                                                             rw [this]; exact fun h => zn' (h ▸ ha)⟩
                  · exact ph.write hl hpl
                  · rw [upd_same, List.map_append]; rfl
        · have hn' : nm ∉ ys := by simpa using hin
          have ph : PotAt p H H4 := pa.trans pg
          refine ⟨_, rfl, .inl ⟨rfl, _, SqL.of hl4⟩, _, rfl, l, _, _, rfl, rfl, hl4, ?_, ?_⟩
          · rw [List.length_map, sizeLine_eq]; omega
          · refine ⟨ys ++ [nm], _, _, _, _, rfl, by rw [List.length_append, hlen]; rfl, ?_, ?_, ?_, ?_⟩
            · intro y hy
              rcases List.mem_append.mp hy with h | h
              · exact hnm y h
              · have : y = nm := by simpa using h
                rw [this]; exact nmOk
            · rw [List.nodup_append]
              exact ⟨hnd, by simp, fun a ha b hb => by have : b = nm := by simpa using hb
                                                       rw [this]; exact fun h => hn' (h ▸ ha)⟩
            · exact ph.write hl hpl
            · rw [upd_same, List.map_append]; rfl
    · rintro σ H1 ⟨ys, v4, v5, v6, v7, rfl, hlen, hnm, hnd, pa, hl1⟩
      rw [em] at hlen
      exact ⟨_, rfl, q l ys H1 hl hlen hnm hnd pa hl1⟩
end
end K14
namespace K14
open PySem L2 PySem.W HT
theorem nm_ok {x : Str} (h : Nm x) : PyData.strOk x = true := by
  unfold PyData.strOk
  rw [← Array.all_toList, List.all_eq_true]; intro c hc; have := (h.az c hc).2; exact decide_eq_true (by omega)
theorem strs_rep (H : Hp) : ∀ xs : List Str, RepAll H (xs.map V.str) (xs.map PyData.str)
  | [] => .nil
  | x :: xs => .cons (.str x) (strs_rep H xs)
theorem strs_lay : ∀ {xs : List Str}, (∀ x ∈ xs, Nm x) → PyData.canLayAll0 (xs.map PyData.str) = true
  | [], _ => rfl
  | x :: xs, h => by
    show (PyData.strOk x && PyData.canLayAll0 (xs.map PyData.str)) = true
    rw [nm_ok (h x List.mem_cons_self), strs_lay fun y hy => h y (List.mem_cons_of_mem _ hy)]; rfl
theorem strs_depth : ∀ xs : List Str, PyData.depthAll (xs.map PyData.str) = 0
  | [] => rfl
  | x :: xs => by rw [List.map_cons]; simp only [PyData.depthAll, PyData.depth, strs_depth xs, Nat.max_self]
theorem eq_nil {H : Hp} {a b : Addr} {xs : List Str} {Q : VK} (ha : H a = some (.lst (xs.map V.str))) (hb : H b = some (.lst [])) (hn : ∀ x ∈ xs, Nm x) (q : Q (.bl xs.isEmpty) H) : rEqD (.ref a) (.ref b) H Q := by
  refine ⟨.list (xs.map PyData.str), .list [], .lst ha (strs_rep _ _), .lst hb .nil, strs_lay hn, rfl, by show PyData.depthAll _ + 1 ≤ 60; rw [strs_depth]; decide, ?_⟩
  cases xs with
  | nil => exact q
  | cons x xs => exact q
theorem cut_from (xs : List V) (k : Nat) : cutV xs (some (k : Int)) none = xs.drop k := by
  unfold cutV; rw [HT.sIx_none, HT.sIx_nat]
  by_cases h : k ≤ xs.length
  · rw [Nat.min_eq_left h, List.take_of_length_le (by rw [List.length_drop]; omega)]
  · rw [Nat.min_eq_right (by omega), List.drop_length, List.drop_of_length_le (by omega)]; simp
def notV (e : Expr) : Expr := match e with | .UnaryOp _ x _ => x | _ => .Constant .none 0 ⟨0, 0, 0, 0⟩
end K14
namespace K14
open PySem L2 PySem.W HT
structure Blt2 (mg : Str → Option Value) : Prop where
  isi : mg "isinstance" = none
  str : mg "str" = none
  dict : mg "dict" = none
  sorted : mg "sorted" = none
theorem boot_isi : bootBuiltins "isinstance" = some (.builtin "isinstance") := by decide +kernel
theorem boot_str : bootBuiltins "str" = some (.type "str") := by decide +kernel
theorem boot_sorted : bootBuiltins "sorted" = some (.builtin "sorted") := by decide +kernel
theorem boot_all : bootBuiltins "all" = some (.builtin "all") := by decide +kernel
theorem ite_ff {A B : Prop} {k : Bool} (hk : k = false) (h : B) : if k = true then A else B := by subst hk; exact h
theorem ite_tt {A B : Prop} {k : Bool} (hk : k = true) (h : A) : if k = true then A else B := by subst hk; exact h
section
variable {P : Program} {w : World} {K : Frag} {mg : Str → Option Value} {base : Heap} {f : Addr} {fd : FuncData}
theorem scName : FnScope ["thing"] ["thing"] (defScope sIsName) := ⟨rfl, rfl, rfl, by decide +kernel, rfl, by decide +kernel, by decide +kernel⟩
abbrev eSig : Expr := arg0 (retV (bodyAt (defBody sIsName) 1))
theorem csSig : CompScope ["thing"] (defScope sIsName) ["sign"] [none] (compSc eSig) := ⟨rfl, by decide +kernel, by decide +kernel, rfl, fv_of (by decide +kernel), by decide +kernel⟩
end
end K14
namespace K14
open PySem L2 PySem.W
theorem erase_perm {α : Type} : ∀ (l : List α) (k : Nat) (h : k < l.length), (l[k] :: l.eraseIdx k).Perm l
  | [], k, h => absurd h (Nat.not_lt_zero _)
  | x :: l, 0, _ => List.Perm.refl _
  | x :: l, k + 1, h => (List.Perm.swap _ _ _).trans ((erase_perm l k (Nat.lt_of_succ_lt_succ h)).cons x)
theorem map_erase {α β : Type} (f : α → β) : ∀ (l : List α) (k : Nat), (l.map f).eraseIdx k = (l.eraseIdx k).map f
  | [], _ => rfl
  | _ :: _, 0 => rfl
  | x :: l, k + 1 => congrArg (f x :: ·) (map_erase f l k)
section
variable {P : Program} {w : World} {K : Frag} {mg : Str → Option Value} {base : Heap} {f : Addr} {fd : FuncData}
@[irreducible] def spShuf : Sp := fun vs H Q _ => ∃ (p n : Addr) (ys : List Str), vs = [.ref p, .ref n] ∧ PotOk p H ∧ p ≠ n ∧ H n = some (.lst (ys.map V.str)) ∧ ys.length ≤ 20 ∧
  ∀ (l : Addr) (zs : List Str) (H' : Hp), H l = none → zs.Perm ys → PotAt p H H' → H' l = some (.lst (zs.map V.str)) → Q (.ref l) H'
theorem shuf_sp {p n : Addr} {ys : List Str} {H : Hp} {Q : VK} {E : XK} (hp : PotOk p H) (hpn : p ≠ n) (hn : H n = some (.lst (ys.map V.str))) (hl : ys.length ≤ 20)
    (q : ∀ (l : Addr) (zs : List Str) (H' : Hp), H l = none → zs.Perm ys → PotAt p H H' → H' l = some (.lst (zs.map V.str)) → Q (.ref l) H') : spShuf [.ref p, .ref n] H Q E := by
  unfold spShuf; exact ⟨p, n, ys, rfl, hp, hpn, hn, hl, q⟩
abbrev nShuf : List Str := ["_law_pot_here", "_law_names_here", "_law_left", "_law_found", "_law_turn"]
theorem scShuf : FnScope nShuf ["_law_pot_here", "_law_names_here"] (defScope sShuf) := ⟨rfl, rfl, rfl, by decide +kernel, rfl, by decide +kernel, by decide +kernel⟩
theorem ok_shuf {fD : Addr} {fdD : FuncData} (F : Fun K "_law_shuffled" "_law_shuffled" sShuf f fd) (B : Blt mg) (FD : Fun K "_law_digit" "_law_digit" sDigit fD fdD) (bD : Binds K fdD ["_law_pot_here", "_law_many"] []) (mD : mg "_law_digit" = some (.ref fD)) :
    FnOk P w K mg base CX0 2 f fd ["_law_pot_here", "_law_names_here"] spShuf := by
  have GD : FnOk P w K mg base CX0 1 fD fdD ["_law_pot_here", "_law_many"] spDigit := ok_digit FD
  refine F.ok scShuf (fun vs H Q E h => ?_) (fun cdv A outer s H vs Q E hr h => ?_)
  · unfold spShuf at h; obtain ⟨p, n, ys, rfl, _⟩ := h; rfl
  · unfold spShuf at h
    obtain ⟨p, n, ys, rfl, hp, hpn, hn, hlen, q⟩ := h
    have hr1 : Room 1 _ := hr
    refine ⟨_, pss_cons (ps_set (i := 2) scShuf.nd rfl (Or.inl rfl) (pe_callTy call_list_of rfl B.list boot_list (pa_cons (pv 1) pa_nil)))
      (pss_cons (ps_set (i := 3) scShuf.nd rfl (Or.inl rfl) (pe_lst pa_nil))
      (pss_cons (ps_for PassesOwn.never rfl (pi_range1 rfl B.range (pa_cons (pe_callB call_len_seq rfl B.len boot_len (pa_cons (pv 1) pa_nil)) pa_nil)) (pg_name (i := 4) scShuf.nd rfl (Or.inl rfl))
        (pss_one (ps_expr (pe_bm PySem.F.plainAttrs_list PySem.F.slot_list_append PySem.F.type_list_append mt_append (pv 3)
          (pa_cons (pe_bm PySem.F.plainAttrs_list PySem.F.slot_list_pop PySem.F.type_list_pop mt_popAt (pv 2)
            (pa_cons (pe_call GD hr1 rfl mD FD.kp bD .nil pass0 (pa_cons (pv 0) (pa_cons (pe_callB call_len_seq rfl B.len boot_len (pa_cons (pv 2) pa_nil)) pa_nil))) pa_nil)) pa_nil)))))
      (pss_one (ps_ret (pv 3))))), ?_⟩
    refine ⟨_, rfl, n, _, rfl, .inl (SqL.of hn), fun la hla => ?_⟩
    refine ⟨Nat.zero_le _, fun fa hfa => ?_⟩
    have npl : p ≠ la := hp.ne hla
    have nlf : la ≠ fa := ne_of_none upd_same hfa
    have hfaH : H fa = none := (same_new hla).free hfa
    have npf : p ≠ fa := hp.ne hfaH
    have P0 : PotAt p H (upd (upd H la (.lst (ys.map V.str))) fa (.lst [])) := ((PotAt.refl hp).new hla).new hfa
    refine ⟨_, rfl, n, _, rfl, .inl (SqL.of (P0.kp _ _ hn (Ne.symm hpn))), ((ys.map V.str).length : Int), rfl, by omega, by rw [List.length_map]; omega, for_range (fun i σ H1 => ∃ (zs ls : List Str) (v4 : Option V), σ = [some (.ref p), some (.ref n), some (.ref la), some (.ref fa), v4] ∧ zs.length = i ∧ (zs ++ ls).Perm ys ∧ PotAt p H H1 ∧ H1 la = some (.lst (ls.map V.str)) ∧ H1 fa = some (.lst (zs.map V.str)))
      ⟨[], ys, none, rfl, rfl, List.Perm.refl _, P0, by rw [upd_ne nlf]; exact upd_same, upd_same⟩ ?_ ?_⟩
    · rintro i σ H1 hi ⟨zs, ls, v4, rfl, hz, hP, pa, hla1, hfa1⟩
      have hlen2 := hP.length_eq
      rw [List.length_append] at hlen2
      have hi' : i < ys.length := by simpa using hi
      have hpos : 0 < ls.length := by omega
      refine ⟨_, rfl, .inl ⟨rfl, _, SqL.of hfa1⟩, _, rfl, .inl ⟨rfl, _, SqL.of hla1⟩, _, rfl, _, rfl, la, _, rfl, .inl (SqL.of hla1), ?_⟩
      refine digit_sp (p := p) pa.ok (by rw [List.length_map]; omega) (by rw [List.length_map]; omega) fun d H2 d0 d1 pb => ?_
      have hla2 := pb.kp _ _ hla1 (Ne.symm npl)
      have hfa2 := pb.kp _ _ hfa1 (Ne.symm npf)
      rw [List.length_map] at d1
      have hd : d.toNat < ls.length := by omega
      refine ⟨la, _, d, d.toNat, .str ls[d.toNat], rfl, rfl, hla2, by omega, by omega, seqIndex_of d0 (by rw [List.length_map]; exact d1), by rw [List.getElem?_map, List.getElem?_eq_getElem hd]; rfl, ?_⟩
      have hfa3 : (upd H2 la (.lst ((ls.map V.str).eraseIdx d.toNat))) fa = some (.lst (zs.map V.str)) := by rw [upd_ne (Ne.symm nlf)]; exact hfa2
      refine ⟨fa, _, _, rfl, rfl, hfa3, by rw [List.length_map, sizeLine_eq]; omega, ?_⟩
      refine ⟨zs ++ [ls[d.toNat]], ls.eraseIdx d.toNat, _, rfl, by rw [List.length_append]; simp [hz], ?_, ((pa.trans pb).write hla npl).write hfaH npf, ?_, ?_⟩
      · refine List.Perm.trans ?_ hP
        rw [List.append_assoc]
        exact List.Perm.append_left zs (erase_perm ls _ hd)
      · rw [upd_ne nlf, upd_same, map_erase]
      · rw [upd_same, List.map_append]; rfl
    · rintro σ H1 ⟨zs, ls, v4, rfl, hz, hP, pa, hla1, hfa1⟩
      have hlen2 := hP.length_eq
      rw [List.length_append, hz] at hlen2
      have e : ls = [] := List.eq_nil_of_length_eq_zero (by rw [List.length_map] at hlen2; omega)
      subst e
      exact ⟨_, rfl, q fa zs H1 hfaH (by simpa using hP) pa hfa1⟩
end
end K14
namespace K14
open PySem L2 PySem.W HT
theorem boot_int : bootBuiltins "int" = some (.type "int") := by decide +kernel
theorem boot_bool : bootBuiltins "bool" = some (.type "bool") := by decide +kernel
structure Blt3 (mg : Str → Option Value) : Prop where
  int : mg "int" = none
  bool : mg "bool" = none
def wholeD (d : PyData) : Bool := isT "int" d && !isT "bool" d
def nameS (x : Str) : Bool := decide (1 ≤ x.length) && (decide (x.length ≤ 8) && x.cps.toList.all fun c => decide (97 ≤ c) && decide (c ≤ 122))
def nameD : PyData → Bool | .str x => nameS x | _ => false
section
variable {P : Program} {w : World} {K : Frag} {mg : Str → Option Value} {base : Heap} {f : Addr} {fd : FuncData}
@[irreducible] def spWhole : Sp := fun vs H Q _ => ∃ (p : Addr) (v : V) (d : PyData), vs = [v] ∧ Dt p H v d ∧ Q (.bl (wholeD d)) H
theorem whole_sp {p : Addr} {v : V} {d : PyData} {H : Hp} {Q : VK} {E : XK} (r : Dt p H v d) (q : Q (.bl (wholeD d)) H) : spWhole [v] H Q E := by unfold spWhole; exact ⟨p, v, d, rfl, r, q⟩
theorem scWhole : FnScope ["thing"] ["thing"] (defScope sIsWhole) := ⟨rfl, rfl, rfl, by decide +kernel, rfl, by decide +kernel, by decide +kernel⟩
theorem ok_whole (F : Fun K "is_whole" "is_whole" sIsWhole f fd) (B2 : Blt2 mg) (B3 : Blt3 mg) : FnOk P w K mg base CX0 1 f fd ["thing"] spWhole := by
  refine F.ok scWhole (fun vs H Q E h => ?_) (fun cdv A outer s H vs Q E hr h => ?_)
  · unfold spWhole at h; obtain ⟨p, v, d, rfl, _⟩ := h; rfl
  · unfold spWhole at h
    obtain ⟨p, v, d, rfl, r, q⟩ := h
    refine ⟨_, pss_one (ps_ret (pe_and (pe_callB call_isi rfl B2.isi boot_isi (pa_cons (pv 0) (pa_cons (pe_bltn (v := .ty "int") rfl B3.int boot_int rfl) pa_nil))) (pe_one (pe_not (pe_callB call_isi rfl B2.isi boot_isi (pa_cons (pv 0) (pa_cons (pe_bltn (v := .ty "bool") rfl B3.bool boot_bool rfl) pa_nil))))))), ?_⟩
    refine ⟨_, rfl, isi_sp kit_int r ⟨_, rfl, ?_⟩⟩
    cases hb : isT "int" d with
    | false => rw [show wholeD d = false by unfold wholeD; rw [hb]; rfl] at q; exact q
    | true =>
      refine ⟨_, rfl, isi_sp kit_bool r ⟨_, rfl, ?_⟩⟩
      rw [show wholeD d = !isT "bool" d by unfold wholeD; rw [hb]; rfl] at q; exact q
@[irreducible] def spName' : Sp := fun vs H Q _ => ∃ (p : Addr) (v : V) (d : PyData), vs = [v] ∧ Dt p H v d ∧ (∀ x, d = .str x → x.length ≤ 100000) ∧ ∀ H', Same H H' → Q (.bl (nameD d)) H'
theorem name_sp' {p : Addr} {v : V} {d : PyData} {H : Hp} {Q : VK} {E : XK} (r : Dt p H v d) (hl : ∀ x, d = .str x → x.length ≤ 100000) (q : ∀ H', Same H H' → Q (.bl (nameD d)) H') : spName' [v] H Q E := by unfold spName'; exact ⟨p, v, d, rfl, r, hl, q⟩
theorem sgn_lo (c : Nat) : (!decide ((⟨#[c]⟩ : Str).cps.toList < (Str.ofString "a").cps.toList)) = decide (97 ≤ c) := by
  have hA : (Str.ofString "a").cps.toList = [97] := by decide +kernel
  rw [hA, ← decide_not]
  refine decide_eq_decide.mpr ?_
  simp [List.cons_lt_cons_iff]
theorem sgn_hi (c : Nat) : (!decide ((Str.ofString "z").cps.toList < (⟨#[c]⟩ : Str).cps.toList)) = decide (c ≤ 122) := by
  have hA : (Str.ofString "z").cps.toList = [122] := by decide +kernel
  rw [hA, ← decide_not]
  refine decide_eq_decide.mpr ?_
  simp [List.cons_lt_cons_iff]
theorem not_str {d : PyData} (h : isT "str" d = false) : nameD d = false := by cases d <;> first | rfl | cases h
theorem ok_name' (F : Fun K "is_name" "is_name" sIsName f fd) (B : Blt mg) (B2 : Blt2 mg) : FnOk P w K mg base CX0 1 f fd ["thing"] spName' := by
  refine F.ok scName (fun vs H Q E h => ?_) (fun cdv A outer s H vs Q E hr h => ?_)
  · unfold spName' at h; obtain ⟨p, v, d, rfl, _⟩ := h; rfl
  · unfold spName' at h
    obtain ⟨p0, v, d, rfl, r, hlen, q⟩ := h
    have hu := hr.units
    refine ⟨_, pss_cons (ps_if (PW.pt (pw_or (pt_not (pt_val (pe_callB call_isi rfl B2.isi boot_isi (pa_cons (pv 0) (pa_cons (pe_bltn (v := .ty "str") rfl B2.str boot_str rfl) pa_nil)))))
          (pw_or1 (pt_not (pt_chain op_le op_le pe_int (pe_callB call_len_str rfl B.len boot_len (pa_cons (pv 0) pa_nil)) pe_int))))) (pss_one (ps_ret pe_bl)) pss_nil)
      (pss_one (ps_ret (pe_callB (call_allB rfl) rfl B.all boot_all (pa_cons (pe_comp rfl csSig (pi_str (pv 0)) (fun s H fp => ⟨pg_name (i := 0) csSig.nd rfl (Or.inl rfl), pifs_nil, pe_chain op_le_str op_le_str pe_str (pv 0) pe_str⟩)) pa_nil)))), ?_⟩
    refine ⟨_, rfl, isi_sp kit_str r ⟨_, rfl, ?_⟩⟩
    cases hb : isT "str" d with
    | false => have q' := q _ (Same.refl _); rw [not_str hb] at q'; exact q'
    | true =>
      obtain ⟨x, rfl⟩ : ∃ x, d = .str x := by cases d with
        | str x => exact ⟨x, rfl⟩
        | _ => cases hb
      obtain rfl : v = .str x := by cases r; rfl
      have hlx := hlen x rfl
      refine ⟨_, rfl, x, rfl, by rw [sizeLine_eq]; omega, 1, x.length, rfl, rfl, _, rfl, ?_⟩
      by_cases h1 : 1 ≤ x.length
      · refine ite_tt (decide_eq_true (by omega)) ?_
        refine ⟨x.length, 8, rfl, rfl, _, rfl, ?_⟩
        by_cases h8 : x.length ≤ 8
        · have e8 : decide ((x.length : Int) ≤ 8) = true := decide_eq_true (by omega)
          have hlc : x.cps.size ≤ 8 := h8
          rw [e8]
          refine ⟨_, rfl, x, rfl, fun p hp => ?_⟩
          refine comp_str (fun i ys τ H1 => ∃ t0 : Option V, τ = [t0] ∧ ys = ((x.cps.toList.take i).map fun c => decide (97 ≤ c) && decide (c ≤ 122)).map V.bl ∧ H1 = upd H p (.lst ys)) ⟨none, rfl, rfl, rfl⟩ (fun i ys τ H1 ⟨_, _, _, z⟩ => by rw [z]; exact upd_same) ?_ ?_
          · rintro i c ys τ H1 hc ⟨t0, rfl, rfl, rfl⟩
            have hil : i < x.cps.size := (Array.getElem?_eq_some_iff.mp hc).1
            have htk : x.cps.toList.take (i + 1) = x.cps.toList.take i ++ [c] := by rw [List.take_succ, Array.getElem?_toList, hc]; rfl
            refine ⟨_, rfl, _, _, rfl, rfl, _, rfl, ?_⟩
            rw [sgn_lo]
            have len : ((((x.cps.toList.take i).map fun c => decide (97 ≤ c) && decide (c ≤ 122)).map V.bl).length) < sizeLine := by rw [List.length_map, List.length_map, List.length_take, Array.length_toList, sizeLine_eq]; omega
            cases hlo : decide (97 ≤ c) with
            | false =>
              refine ite_ff rfl ⟨upd_same, len, cw_next hil ⟨_, rfl, ?_, by rw [upd_upd]⟩⟩
              rw [htk, List.map_append, List.map_append, List.map_cons, hlo]; rfl
            | true =>
              refine ite_tt rfl ⟨_, _, rfl, rfl, upd_same, len, cw_next hil ⟨_, rfl, ?_, by rw [upd_upd]⟩⟩
              rw [sgn_hi, htk, List.map_append, List.map_append, List.map_cons, hlo]; rfl
          · rintro ys τ H1 ⟨t0, rfl, rfl, rfl⟩
            refine ⟨p, _, rfl, SqL.of upd_same, ?_⟩
            have q' := q _ (same_new (o := .lst (((x.cps.toList.take x.cps.size).map fun c => decide (97 ≤ c) && decide (c ≤ 122)).map V.bl)) hp)
            rw [show nameD (.str x) = ((x.cps.toList.take x.cps.size).map fun c => decide (97 ≤ c) && decide (c ≤ 122)).all id by
              show nameS x = _
              unfold nameS
              rw [decide_eq_true h1, decide_eq_true h8, List.all_map, List.take_of_length_le (by rw [Array.length_toList]; exact Nat.le_refl _)]; rfl] at q'
            exact q'
        · have e8 : decide ((x.length : Int) ≤ 8) = false := decide_eq_false (by omega)
          rw [e8]
          have q' := q _ (Same.refl _)
          rw [show nameD (.str x) = false by show nameS x = _; unfold nameS; rw [decide_eq_false h8]; simp] at q'
          exact q'
      · refine ite_ff (decide_eq_false (by omega)) ?_
        have q' := q _ (Same.refl _)
        rw [show nameD (.str x) = false by show nameS x = _; unfold nameS; rw [decide_eq_false h1]; simp] at q'
        exact ⟨_, rfl, q'⟩
end
end K14
namespace K14
open PySem L2 PySem.W HT
theorem dt_tup {p : Addr} {H : Hp} {v : V} {ds : List PyData} (r : Dt p H v (.tuple ds)) : ∃ a vs, v = .ref a ∧ a ≠ p ∧ H a = some (.tup vs) ∧ Dts p H vs ds := by
  cases r with
  | tup n e rs => exact ⟨_, _, rfl, n, e, rs⟩
theorem dts_cons {p : Addr} {H : Hp} {vs : List V} {d : PyData} {ds : List PyData} (r : Dts p H vs (d :: ds)) : ∃ v ws, vs = v :: ws ∧ Dt p H v d ∧ Dts p H ws ds := by
  cases r with
  | cons a b => exact ⟨_, _, rfl, a, b⟩
theorem dts_nil {p : Addr} {H : Hp} {vs : List V} (r : Dts p H vs []) : vs = [] := by cases r; rfl
theorem dt_str {p : Addr} {H : Hp} {v : V} {x : Str} (r : Dt p H v (.str x)) : v = .str x := by cases r; rfl
theorem dt_int {p : Addr} {H : Hp} {v : V} {x : Int} (r : Dt p H v (.int x)) : v = .int x := by cases r; rfl
theorem is_tup {d : PyData} (h : isT "tuple" d = true) : ∃ ds, d = .tuple ds := by
  cases d with
  | tuple ds => exact ⟨ds, rfl⟩
  | _ => cases h
theorem is_str {d : PyData} (h : isT "str" d = true) : ∃ x, d = .str x := by
  cases d with
  | str x => exact ⟨x, rfl⟩
  | _ => cases h
theorem whole_int {d : PyData} (h : wholeD d = true) : ∃ n, d = .int n := by
  cases d with
  | int n => exact ⟨n, rfl⟩
  | _ => cases h
theorem at_0 {x : V} {xs : List V} : atI (x :: xs) 0 = some x := (show atI (x :: xs) ((0 : Nat) : Int) = some x from atI_nat rfl)
theorem at_1 {x y : V} {xs : List V} : atI (x :: y :: xs) 1 = some y := (show atI (x :: y :: xs) ((1 : Nat) : Int) = some y from atI_nat rfl)
theorem at_2 {x y z : V} {xs : List V} : atI (x :: y :: z :: xs) 2 = some z := (show atI (x :: y :: z :: xs) ((2 : Nat) : Int) = some z from atI_nat rfl)
theorem bulk_mem : ∀ {ds : List PyData} {d : PyData}, d ∈ ds → d.bulk + 1 ≤ PyData.bulkAll ds
  | e :: ds, d, h => by
    rcases List.mem_cons.mp h with rfl | h
    · simp only [PyData.bulkAll]; omega
    · have := bulk_mem h; simp only [PyData.bulkAll]; omega
def Sm (d : PyData) : Prop := d.bulk ≤ 100000
theorem Sm.str {d : PyData} (h : Sm d) : ∀ x, d = .str x → x.length ≤ 100000 := fun x e => by subst e; exact h
theorem bulk_len : ∀ ds : List PyData, ds.length ≤ PyData.bulkAll ds
  | [] => Nat.le_refl _
  | d :: ds => by have := bulk_len ds; simp only [PyData.bulkAll, List.length_cons]; omega
theorem Dts.same {p : Addr} {H H' : Hp} {vs : List V} {ds : List PyData} (r : Dts p H vs ds) (S : Same H H') : Dts p H' vs ds := r.keep fun b o e _ => S b o e
theorem Dt.same {p : Addr} {H H' : Hp} {v : V} {d : PyData} (r : Dt p H v d) (S : Same H H') : Dt p H' v d := r.keep fun b o e _ => S b o e
theorem boot_set : bootBuiltins "set" = some (.type "set") := by decide +kernel
theorem nd_perm {xs ys : List Str} (hx : xs.Nodup) (hy : ys.Nodup) (h : ∀ a, a ∈ xs ↔ a ∈ ys) : xs.Perm ys := (List.perm_ext_iff_of_nodup hx hy).mpr h
def boolN (e : Expr) (i : Nat) : Expr := match e with | .BoolOp _ es _ => es.getD i (.Constant .none 0 ⟨0, 0, 0, 0⟩) | _ => .Constant .none 0 ⟨0, 0, 0, 0⟩
def ifTest (s : Stmt) : Expr := match s with | .If c _ _ _ => c | _ => .Constant .none 0 ⟨0, 0, 0, 0⟩
def strOf : PyData → Str | .str x => x | _ => ""
def rowD : PyData → Bool | .tuple ds => ds.all nameD && decide (ds.map strOf).Nodup | _ => false
theorem row_no {d : PyData} (h : isT "tuple" d = false) : rowD d = false := by cases d <;> first | rfl | cases h
theorem name_str {d : PyData} (h : nameD d = true) : d = .str (strOf d) := by cases d <;> first | rfl | cases h
theorem names_strs : ∀ {ds : List PyData}, ds.all nameD = true → ds = (ds.map strOf).map PyData.str
  | [], _ => rfl
  | d :: ds, h => by
    rw [List.all_cons, Bool.and_eq_true] at h
    rw [List.map_cons, List.map_cons, ← name_str h.1, ← names_strs h.2]
theorem dts_strs {p : Addr} {H : Hp} : ∀ {vs : List V} {xs : List Str}, Dts p H vs (xs.map PyData.str) → vs = xs.map V.str
  | _, [], r => by rw [dts_nil r]; rfl
  | _, x :: xs, r => by
    obtain ⟨v, ws, rfl, r1, rs⟩ := dts_cons r
    rw [dt_str r1, dts_strs rs]; rfl
theorem perm_len : ∀ {ds xs : List Str}, ds.Nodup → (∀ y ∈ ds, y ∈ xs) → xs.length ≤ ds.length → xs.Perm ds
  | [], xs, _, _, h => by rw [List.eq_nil_of_length_eq_zero (by simpa using h : xs.length = 0)]
  | d :: ds, xs, nd, hs, h => by
    obtain ⟨n1, n2⟩ := List.nodup_cons.mp nd
    have hd := hs d List.mem_cons_self
    have p1 := List.perm_cons_erase hd
    have l1 := p1.length_eq
    rw [List.length_cons] at l1 h
    exact p1.trans ((perm_len n2 (fun y hy => (List.mem_erase_of_ne (a := y) (b := d) (fun e => n1 (by rw [← e]; exact hy))).mpr (hs y (List.mem_cons_of_mem _ hy))) (by omega)).cons d)
theorem dd_len {ds xs : List Str} (h : ds.Nodup) (m : ∀ y, y ∈ ds ↔ y ∈ xs) : decide (ds.length = xs.length) = decide xs.Nodup := by
  refine decide_eq_decide.mpr ⟨fun e => ?_, fun n => (nd_perm h n m).length_eq⟩
  exact (perm_len h (fun y hy => (m y).mp hy) (by omega)).nodup_iff.mpr h
section
variable {P : Program} {w : World} {K : Frag} {mg : Str → Option Value} {base : Heap} {f : Addr} {fd : FuncData}
theorem comp_ask {p a c : Addr} {vs : List V} {ds : List PyData} {H : Hp} {g : PyData → Bool} {te : TE} {tl : St} {Q : VK} (ha : H a = some (.tup vs)) (rs : Dts p H vs ds) (hc : H c = none) (h4 : ds.length ≤ 1000)
    (hte : ∀ (v : V) (d : PyData) (H1 : Hp) (Q1 : VK), d ∈ ds → Same H H1 → Dt p H1 v d → (∀ H2, Same H1 H2 → Q1 (.bl (g d)) H2) → te (some v :: tl) H1 Q1)
    (q : ∀ H1, Same H H1 → H1 c = some (.lst ((ds.map g).map V.bl)) → Q (.ref c) H1) : CompW (Itt K a) (gName 0) tTrue te (none :: tl) Q c H := by
  have hl := rs.length
  refine comp_tup (xs := vs) (fun i ys τ H2 => ∃ t0 : Option V, τ = t0 :: tl ∧ ys = ((ds.take i).map g).map V.bl ∧ Same H H2 ∧ H2 c = some (.lst ys)) ⟨none, rfl, rfl, same_new hc, upd_same⟩ (fun i ys τ H2 ⟨_, _, _, z, z2⟩ => ⟨z2, SqT.of (z _ _ ha)⟩) ?_ ?_
  · rintro i x ys τ H2 hx ⟨t0, rfl, rfl, S2, h2⟩
    have hjl : i < vs.length := (List.getElem?_eq_some_iff.mp hx).1
    have hjd : i < ds.length := by omega
    obtain ⟨v', hv', rd⟩ := rs.get (List.getElem?_eq_getElem hjd)
    rw [hx] at hv'; cases hv'
    refine hte x ds[i] H2 _ (List.getElem_mem hjd) S2 (rd.keep fun b o e _ => S2 b o e) fun H3 S3 => ⟨S3 _ _ h2, by rw [List.length_map, List.length_map, List.length_take, sizeLine_eq]; omega, cw_next hjl ⟨_, rfl, ?_, fun b u e => ?_, upd_same⟩⟩
    · rw [List.take_succ, List.getElem?_eq_getElem hjd, List.map_append, List.map_append]; rfl
    · rw [upd_ne (ne_of_none e hc)]; exact S3 _ _ (S2 _ _ e)
  · rintro ys τ H2 ⟨t0, rfl, rfl, S2, h2⟩
    rw [hl, List.take_length] at h2
    exact q H2 S2 h2
def Bk (d : PyData) : Prop := d.bulk ≤ 1000
theorem Bk.sm {d : PyData} (h : Bk d) : Sm d := Nat.le_trans h (by decide)
theorem Bk.tup {ds : List PyData} (h : Bk (.tuple ds)) : (∀ d ∈ ds, Bk d) ∧ ds.length ≤ 1000 := ⟨fun d hd => by
  have := bulk_mem hd
  have h' : PyData.bulkAll ds ≤ 1000 := h
  unfold Bk; omega, Nat.le_trans (bulk_len ds) h⟩
@[irreducible] def spRow : Sp := fun vs H Q _ => ∃ (p : Addr) (v : V) (d : PyData), vs = [v] ∧ Dt p H v d ∧ Bk d ∧ ∀ H', Same H H' → Q (.bl (rowD d)) H'
theorem row_sp {p : Addr} {v : V} {d : PyData} {H : Hp} {Q : VK} {E : XK} (r : Dt p H v d) (h : Bk d) (q : ∀ H', Same H H' → Q (.bl (rowD d)) H') : spRow [v] H Q E := by unfold spRow; exact ⟨p, v, d, rfl, r, h, q⟩
theorem scIsR : FnScope ["thing"] ["thing"] (defScope sIsRow) := ⟨rfl, rfl, rfl, by decide +kernel, rfl, by decide +kernel, by decide +kernel⟩
abbrev eIsR : Expr := arg0 (notV (boolN (ifTest (bodyAt (defBody sIsRow) 0)) 1))
theorem csIsR : CompScope ["thing"] (defScope sIsRow) ["name"] [none] (compSc eIsR) := ⟨rfl, by decide +kernel, by decide +kernel, rfl, fv_of (by decide +kernel), by decide +kernel⟩
theorem ok_row {fN : Addr} {dN : FuncData} (F : Fun K "is_row" "is_row" sIsRow f fd) (B : Blt mg) (B2 : Blt2 mg) (bs : mg "set" = none) (GN : FnOk P w K mg base CX0 1 fN dN ["thing"] spName') (kN : keepIn K (.ref fN) = true) (bN : Binds K dN ["thing"] []) (mN : mg "is_name" = some (.ref fN)) : FnOk P w K mg base CX0 2 f fd ["thing"] spRow := by
  refine F.ok scIsR (fun vs H Q E h => ?_) (fun cdv A outer s H vs Q E hr h => ?_)
  · unfold spRow at h; obtain ⟨p, v, d, rfl, _⟩ := h; rfl
  · unfold spRow at h
    obtain ⟨p, v, d, rfl, r, hb, q⟩ := h
    have hr1 : Room 1 _ := hr
    refine ⟨_, pss_cons (ps_if (PW.pt (pw_or (pt_not (pt_val (pe_callB call_isi rfl B2.isi boot_isi (pa_cons (pv 0) (pa_cons (pe_bltn (v := .ty "tuple") rfl B.tuple boot_tuple rfl) pa_nil)))))
        (pw_or1 (pt_not (pt_val (pe_callB (call_allB rfl) rfl B.all boot_all (pa_cons (pe_comp rfl csIsR (pi_tup (pv 0)) (fun s H fp => ⟨pg_name (i := 0) csIsR.nd rfl (Or.inl rfl), pifs_nil, pe_call GN hr1 rfl mN kN bN .nil pass0 (pa_cons (pv 0) pa_nil)⟩)) pa_nil))))))) (pss_one (ps_ret pe_bl)) pss_nil)
      (pss_one (ps_ret (pe_cmpR op_eq (pe_callB call_lenSet rfl B.len boot_len (pa_cons (pe_callTy (call_set rfl) rfl bs boot_set (pa_cons (pv 0) pa_nil)) pa_nil)) (pe_callB call_len_seq rfl B.len boot_len (pa_cons (pv 0) pa_nil)) (nomark _)))), ?_⟩
    refine ⟨_, rfl, isi_sp kit_tuple r ⟨_, rfl, ?_⟩⟩
    cases ht : isT "tuple" d with
    | false => have q' := q _ (Same.refl _); rw [row_no ht] at q'; exact q'
    | true =>
      obtain ⟨ds, rfl⟩ := is_tup ht
      obtain ⟨a, vs, rfl, na, ha, rs⟩ := dt_tup r
      obtain ⟨bks, bln⟩ := hb.tup
      refine ⟨_, rfl, a, rfl, ⟨_, SqT.of ha⟩, fun c hc => comp_ask (g := nameD) ha rs hc bln (fun v' d' H1 Q1 hd' S1 rd' k => ⟨_, rfl, name_sp' rd' ((bks d' hd').sm.str) k⟩) fun H1 S1 h1 => ⟨c, _, rfl, SqL.of h1, _, rfl, ?_⟩⟩
      have er : rowD (.tuple ds) = (ds.all nameD && decide (ds.map strOf).Nodup) := rfl
      rw [List.all_map, show (id ∘ nameD) = nameD from rfl]
      cases hal : ds.all nameD with
      | false => have q' := q _ S1; rw [er, hal] at q'; exact q'
      | true =>
        have es := names_strs hal
        have ev : vs = (ds.map strOf).map V.str := dts_strs (by rw [← es]; exact rs)
        rw [er, hal] at q
        have ha1 := S1 _ _ ha
        rw [ev] at ha1
        have el : (ds.map strOf).length = ds.length := List.length_map ..
        generalize ds.map strOf = xs at ha1 el q
        refine ⟨_, rfl, a, xs, rfl, .inr (SqT.of ha1), by omega, fun b zs hb' nds mem => ?_⟩
        have S2 := same_new (o := SetO P w b zs) hb'
        refine ⟨b, zs, rfl, upd_same, _, rfl, a, _, rfl, .inr (SqT.of (S2 _ _ ha1)), rfl, ?_⟩
        rw [List.length_map]
        have e2 : decide (V.int (zs.length : Int) = V.int (xs.length : Int)) = decide xs.Nodup := by
          rw [← dd_len nds mem]
          exact decide_eq_decide.mpr ⟨fun z => by injection z with z; exact Int.ofNat.inj z, fun z => by rw [z]⟩
        rw [e2]
        exact q _ (S1.trans S2)
end
end K14
namespace K14
open PySem L2 PySem.W HT
def aheadIn (r : List Str) (x y : Str) : Bool := decide (x ∈ r) && (decide (y ∈ r) && decide (r.idxOf x < r.idxOf y))
def wishD (rows : List (List Str)) : PyData → Bool
  | .tuple [.int i, .str x, .str y] => decide (0 ≤ i) && (decide (i < rows.length) && aheadIn (rows.getD i.toNat []) x y)
  | _ => false
theorem nm_name {x : Str} (h : Nm x) : nameS x = true := by
  unfold nameS
  rw [decide_eq_true h.lo, decide_eq_true h.hi, Bool.true_and, Bool.true_and, List.all_eq_true]
  intro c hc
  have := h.az c hc
  rw [decide_eq_true this.1, decide_eq_true this.2]; rfl
theorem idx_first {r : List Str} {x : Str} (h : x ∈ r) : r[r.idxOf x]? = some x ∧ ∀ m, m < r.idxOf x → r[m]? ≠ some x := by
  have hl := List.idxOf_lt_length_iff.mpr h
  refine ⟨by rw [List.getElem?_eq_getElem hl, List.getElem_idxOf hl], fun m hm e => ?_⟩
  obtain ⟨h1, e1⟩ := List.getElem?_eq_some_iff.mp e
  have := List.not_of_lt_findIdx (p := (· == x)) (xs := r) hm
  simp [e1] at this
theorem idx_at : ∀ {r : List Str} (i : Nat) (h : i < r.length), r.Nodup → r.idxOf r[i] = i
  | a :: r, 0, h, _ => by simp
  | a :: r, i + 1, h, nd => by
    obtain ⟨n1, n2⟩ := List.nodup_cons.mp nd
    have hi : i < r.length := by simpa using h
    have : a ≠ r[i] := fun e => n1 (by rw [e]; exact List.getElem_mem hi)
    rw [List.getElem_cons_succ, List.idxOf_cons, idx_at i hi n2, beq_eq_false_iff_ne.mpr this]; rfl
theorem drop_idx {r : List Str} {x y : Str} (nd : r.Nodup) : decide (y ∈ r.drop (r.idxOf x + 1)) = (decide (y ∈ r) && decide (r.idxOf x < r.idxOf y)) := by
  rw [← Bool.decide_and]
  refine decide_eq_decide.mpr ⟨fun h => ?_, fun ⟨h1, h2⟩ => ?_⟩
  · obtain ⟨i, hi, e⟩ := List.getElem_of_mem h
    rw [List.getElem_drop] at e
    rw [List.length_drop] at hi
    have := idx_at (r := r) (r.idxOf x + 1 + i) (by omega) nd
    rw [e] at this
    exact ⟨List.mem_of_mem_drop h, by omega⟩
  · have hl := List.idxOf_lt_length_iff.mpr h1
    have e := List.getElem_idxOf hl
    exact List.mem_iff_getElem?.mpr ⟨r.idxOf y - (r.idxOf x + 1), by rw [List.getElem?_drop, show r.idxOf x + 1 + (r.idxOf y - (r.idxOf x + 1)) = r.idxOf y by omega, List.getElem?_eq_getElem hl, e]⟩
structure Rws (rows : List (List Str)) : Prop where
  sm : Small rows
  nd : ∀ r ∈ rows, r.Nodup
section
variable {P : Program} {w : World} {K : Frag} {mg : Str → Option Value} {base : Heap} {f : Addr} {fd : FuncData}
@[irreducible] def spIsW : Sp := fun vs H Q _ => ∃ (p t : Addr) (ws : List V) (rows : List (List Str)) (v : V) (d : PyData), vs = [.ref t, v] ∧ H t = some (.tup ws) ∧ RowsV H ws rows ∧ Rws rows ∧ Dt p H v d ∧ Bk d ∧ ∀ H', Same H H' → Q (.bl (wishD rows d)) H'
theorem isw_sp {p t : Addr} {ws : List V} {rows : List (List Str)} {v : V} {d : PyData} {H : Hp} {Q : VK} {E : XK} (ht : H t = some (.tup ws)) (hR : RowsV H ws rows) (hS : Rws rows) (r : Dt p H v d) (hb : Bk d) (q : ∀ H', Same H H' → Q (.bl (wishD rows d)) H') : spIsW [.ref t, v] H Q E := by
  unfold spIsW; exact ⟨p, t, ws, rows, v, d, rfl, ht, hR, hS, r, hb, q⟩
abbrev nIsW : List Str := ["rows", "thing", "place", "front", "back", "row"]
theorem scIsW : FnScope nIsW ["rows", "thing"] (defScope sIsWish) := ⟨rfl, rfl, rfl, by decide +kernel, rfl, by decide +kernel, by decide +kernel⟩
theorem wish_no {rows : List (List Str)} {d : PyData} (h : isT "tuple" d = false) : wishD rows d = false := by cases d <;> first | rfl | cases h
theorem wish_three {rows : List (List Str)} {ds : List PyData} (h : ds.length ≠ 3) : wishD rows (.tuple ds) = false := by
  unfold wishD
  split
  · rename_i e; injection e with e; subst e; exact absurd rfl h
  · rfl
theorem wish_whole {rows : List (List Str)} {a b c : PyData} (h : wholeD a = false) : wishD rows (.tuple [a, b, c]) = false := by cases a <;> first | rfl | cases h
theorem wish_out {rows : List (List Str)} {i : Int} {b c : PyData} (h : ¬ (0 ≤ i ∧ i < rows.length)) : wishD rows (.tuple [.int i, b, c]) = false := by
  unfold wishD
  split
  · rename_i e; injection e with e; injection e with e1 e2; injection e1 with e1; subst e1
    by_cases h0 : 0 ≤ i
    · rw [decide_eq_true h0, decide_eq_false (fun z => h ⟨h0, z⟩)]; rfl
    · rw [decide_eq_false h0]; rfl
  · rfl
theorem wish_in {rows : List (List Str)} (hS : Rws rows) {i : Nat} {r : List Str} (hr : rows[i]? = some r) (b c : PyData) : wishD rows (.tuple [.int (i : Int), b, c]) = (nameD b && (nameD c && aheadIn r (strOf b) (strOf c))) := by
  have hil := (List.getElem?_eq_some_iff.mp hr).1
  have hrm := List.mem_of_getElem? hr
  have eg : rows.getD i [] = r := by rw [List.getD_eq_getElem?_getD, hr]; rfl
  have nob : ∀ x : Str, nameS x = false → ¬ x ∈ r := fun x hx hm => by rw [nm_name (hS.sm.nm r hrm x hm)] at hx; cases hx
  cases b with
  | str x =>
    cases c with
    | str y =>
      show (decide (0 ≤ (i : Int)) && (decide ((i : Int) < rows.length) && aheadIn (rows.getD (i : Int).toNat []) x y)) = (nameS x && (nameS y && aheadIn r x y))
      rw [decide_eq_true (by omega), decide_eq_true (by omega), Int.toNat_natCast, eg, Bool.true_and, Bool.true_and]
      cases hx : nameS x with
      | false => unfold aheadIn; rw [decide_eq_false (nob x hx)]; rfl
      | true =>
        cases hy : nameS y with
        | false => unfold aheadIn; rw [decide_eq_false (nob y hy), Bool.false_and, Bool.and_false]; rfl
        | true => rfl
    | _ => show false = (nameS x && (false && _)); rw [Bool.false_and, Bool.and_false]
  | _ => rfl
theorem ok_isw {fN fWh : Addr} {dN dWh : FuncData} (F : Fun K "is_wish" "is_wish" sIsWish f fd) (B : Blt mg) (B2 : Blt2 mg) (GN : FnOk P w K mg base CX0 1 fN dN ["thing"] spName') (kN : keepIn K (.ref fN) = true) (bN : Binds K dN ["thing"] []) (mN : mg "is_name" = some (.ref fN))
    (GW : FnOk P w K mg base CX0 1 fWh dWh ["thing"] spWhole) (kW : keepIn K (.ref fWh) = true) (bW : Binds K dWh ["thing"] []) (mW : mg "is_whole" = some (.ref fWh)) : FnOk P w K mg base CX0 2 f fd ["rows", "thing"] spIsW := by
  refine F.ok scIsW (fun vs H Q E h => ?_) (fun cdv A outer s H vs Q E hr h => ?_)
  · unfold spIsW at h; obtain ⟨p, t, ws, rows, v, d, rfl, _⟩ := h; rfl
  · unfold spIsW at h
    obtain ⟨p, t, ws, rows, v, d, rfl, ht, hR, hS, rd, hb, q⟩ := h
    have hr1 : Room 1 _ := hr
    refine ⟨_, pss_cons (ps_if (PW.pt (pw_or (pt_not (pt_val (pe_callB call_isi rfl B2.isi boot_isi (pa_cons (pv 1) (pa_cons (pe_bltn (v := .ty "tuple") rfl B.tuple boot_tuple rfl) pa_nil)))))
        (pw_or1 (pt_cmpR op_ne (pe_callB call_len_seq rfl B.len boot_len (pa_cons (pv 1) pa_nil)) pe_int (nomark _))))) (pss_one (ps_ret pe_bl)) pss_nil)
      (pss_cons (ps_asg (pv 1) (pg_tup rfl (pgs_cons (pg_name (i := 2) scIsW.nd rfl (Or.inl rfl)) (pgs_cons (pg_name (i := 3) scIsW.nd rfl (Or.inl rfl)) (pgs_cons (pg_name (i := 4) scIsW.nd rfl (Or.inl rfl)) pgs_nil)))))
      (pss_cons (ps_if (PW.pt (pw_or (pt_not (pt_val (pe_call GW hr1 rfl mW kW bW .nil pass0 (pa_cons (pv 2) pa_nil))))
        (pw_or (pt_not (pt_chain op_le op_lt pe_int (pv 2) (pe_callB call_len_seq rfl B.len boot_len (pa_cons (pv 0) pa_nil))))
        (pw_or (pt_not (pt_val (pe_call GN hr1 rfl mN kN bN .nil pass0 (pa_cons (pv 3) pa_nil))))
        (pw_or1 (pt_not (pt_val (pe_call GN hr1 rfl mN kN bN .nil pass0 (pa_cons (pv 4) pa_nil))))))))) (pss_one (ps_ret pe_bl)) pss_nil)
      (pss_cons (ps_set (i := 5) scIsW.nd rfl (Or.inl rfl) (pe_ix ix_tup (pv 0) (pv 2) (fun _ _ => rfl)))
      (pss_one (ps_ret (pe_and (pe_cmpR op_in_seq (pv 3) (pv 5) rfl) (pe_one (pe_cmpR op_in_seq (pv 4) (pe_slice sl_tupA (pv 5) (po_some (pe_op op_add (pe_bm PySem.F.plainAttrs_tuple PySem.F.slot_tuple_index PySem.F.type_tuple_index mt_indexT (pv 5) (pa_cons (pv 3) pa_nil)) pe_int)) po_none) rfl)))))))), ?_⟩
    have q0 := q _ (Same.refl _)
    refine ⟨_, rfl, isi_sp kit_tuple rd ⟨_, rfl, ?_⟩⟩
    cases htp : isT "tuple" d with
    | false => rw [wish_no htp] at q0; exact q0
    | true =>
    obtain ⟨ds, rfl⟩ := is_tup htp
    obtain ⟨a, vs, rfl, na, ha, rs⟩ := dt_tup rd
    have hl := rs.length
    obtain ⟨bks, bln⟩ := hb.tup
    refine ⟨_, rfl, a, _, rfl, .inr (SqT.of ha), rfl, _, rfl, ?_⟩
    by_cases h3 : ds.length = 3
    case neg =>
      have e : decide (V.int (vs.length : Int) = V.int 3) = false := decide_eq_false fun z => h3 (by injection z with z; omega)
      rw [wish_three h3] at q0
      rw [e]; exact q0
    have e : decide (V.int (vs.length : Int) = V.int 3) = true := decide_eq_true (by rw [hl, h3]; rfl)
    rw [e]
    obtain ⟨d0, d1, d2, rfl⟩ : ∃ d0 d1 d2, ds = [d0, d1, d2] := by
      match ds, h3 with
      | [d0, d1, d2], _ => exact ⟨d0, d1, d2, rfl⟩
    obtain ⟨v0, vs1, rfl, r0, rs⟩ := dts_cons rs
    obtain ⟨v1, vs2, rfl, r1, rs⟩ := dts_cons rs
    obtain ⟨v2, vs3, rfl, r2, rs⟩ := dts_cons rs
    obtain rfl := dts_nil rs
    refine ⟨_, rfl, a, _, rfl, SqT.of ha, rfl, _, _, rfl, _, _, rfl, _, _, rfl, rfl, ?_⟩
    refine ⟨_, rfl, whole_sp r0 ⟨_, rfl, ?_⟩⟩
    cases hw : wholeD d0 with
    | false => rw [wish_whole hw] at q0; exact q0
    | true =>
    obtain ⟨i, rfl⟩ := whole_int hw
    obtain rfl := dt_int r0
    have hwl := hR.length
    refine ⟨_, rfl, 0, i, rfl, rfl, _, rfl, ?_⟩
    by_cases hin : 0 ≤ i ∧ i < rows.length
    case neg =>
      rw [wish_out hin] at q0
      by_cases h0 : 0 ≤ i
      · refine ite_tt (decide_eq_true h0) ?_
        refine ⟨_, rfl, t, _, rfl, .inr (SqT.of ht), i, ws.length, rfl, rfl, _, rfl, ?_⟩
        have e1 : decide (i < (ws.length : Int)) = false := decide_eq_false (by omega)
        rw [e1]; exact q0
      · exact ite_ff (decide_eq_false h0) ⟨_, rfl, q0⟩
    obtain ⟨h0, hlt⟩ := hin
    refine ite_tt (decide_eq_true h0) ?_
    refine ⟨_, rfl, t, _, rfl, .inr (SqT.of ht), i, ws.length, rfl, rfl, _, rfl, ?_⟩
    have e1 : decide (i < (ws.length : Int)) = true := decide_eq_true (by omega)
    rw [e1]
    obtain ⟨k, rfl⟩ := Int.eq_ofNat_of_zero_le h0
    have hk : k < rows.length := by omega
    obtain ⟨r, hri⟩ : ∃ r, rows[k]? = some r := ⟨_, List.getElem?_eq_getElem hk⟩
    have hrm := List.mem_of_getElem? hri
    rw [wish_in hS hri] at q
    refine ⟨_, rfl, name_sp' r1 ((bks d1 (by simp)).sm.str) fun H1 S1 => ⟨_, rfl, ?_⟩⟩
    cases hn1 : nameD d1 with
    | false => have q1 := q _ S1; rw [hn1] at q1; exact q1
    | true =>
    refine ⟨_, rfl, name_sp' (Dt.same r2 S1) ((bks d2 (by simp)).sm.str) fun H2 S2 => ⟨_, rfl, ?_⟩⟩
    have S12 := S1.trans S2
    cases hn2 : nameD d2 with
    | false => have q1 := q _ S12; rw [hn1, hn2] at q1; exact q1
    | true =>
    rw [hn1, hn2] at q
    have ex := name_str hn1
    have ey := name_str hn2
    rw [ex] at r1
    rw [ey] at r2
    obtain rfl := dt_str r1
    obtain rfl := dt_str r2
    generalize strOf d1 = x at q
    generalize strOf d2 = y at q
    obtain ⟨v, hv⟩ : ∃ v, ws[k]? = some v := ⟨ws[k]'(by omega), List.getElem?_eq_getElem _⟩
    obtain ⟨b, r', rfl, hr', hb'⟩ := hR.get hv
    rw [hri] at hr'; cases hr'
    refine ⟨_, rfl, _, rfl, t, ws, k, .ref b, rfl, rfl, SqT.of (S12 _ _ ht), atI_nat hv, ?_⟩
    have hb2 := S12 _ _ hb'
    refine ⟨_, rfl, _, rfl, b, _, rfl, .inr (SqT.of hb2), rfl, flat_strs _, ?_⟩
    rw [if_neg Bool.false_ne_true, inV_strs]
    by_cases hx : x ∈ r
    case neg =>
      have q2 := q _ S12
      rw [show aheadIn r x y = false by unfold aheadIn; rw [decide_eq_false hx]; rfl] at q2
      rw [decide_eq_false hx]; exact ⟨false, rfl, q2⟩
    rw [decide_eq_true hx]
    obtain ⟨hj, hno⟩ := idx_first hx
    refine ⟨true, rfl, ?_⟩
    refine ⟨_, rfl, _, rfl, _, rfl, .inr (.inr (.inr (.inr ⟨rfl, _, Rd.of hb2⟩))), _, rfl, b, r, x, _, rfl, rfl, SqT.of hb2, hj, hno, _, _, rfl, rfl, _, rfl, b, _, rfl, hb2, fun p H3 S3 hp => ?_⟩
    have ej : ((r.idxOf x : Int) + 1) = ((r.idxOf x + 1 : Nat) : Int) := by omega
    rw [ej, cut_from, ← List.map_drop] at hp
    refine ⟨p, _, rfl, .inr (SqT.of hp), rfl, flat_strs _, ?_⟩
    rw [if_neg Bool.false_ne_true, inV_strs, drop_idx (hS.nd r hrm)]
    have q3 := q _ (S12.trans S3)
    rw [show aheadIn r x y = (decide (y ∈ r) && decide (r.idxOf x < r.idxOf y)) by unfold aheadIn; rw [decide_eq_true hx]; rfl] at q3
    exact q3
end
end K14
namespace K14
open PySem L2 PySem.W HT
theorem strs_eqv : ∀ xs ys : List Str, PyData.eqvAll (xs.map PyData.str) (ys.map PyData.str) = decide (xs = ys)
  | [], [] => rfl
  | [], y :: ys => rfl
  | x :: xs, [] => rfl
  | x :: xs, y :: ys => by
    show ((x == y) && PyData.eqvAll (xs.map PyData.str) (ys.map PyData.str)) = _
    rw [strs_eqv xs ys]
    by_cases e : x = y
    · by_cases f : xs = ys <;> simp [e, f]
    · simp [e]
theorem cut_to (xs : List V) (k : Nat) : cutV xs none (some (k : Int)) = xs.take k := by
  unfold cutV; rw [HT.sIx_none, HT.sIx_nat]
  by_cases h : k ≤ xs.length
  · rw [Nat.min_eq_left h]; simp
  · rw [Nat.min_eq_right (by omega)]; simp; rw [List.take_of_length_le (by omega)]
theorem int_eq_len (a b : Nat) : decide (V.int (a : Int) = V.int (b : Int)) = decide (a = b) := decide_eq_decide.mpr ⟨fun z => by injection z with z; omega, fun z => by rw [z]⟩
def frontOf : PyData → Str | .tuple [_, .str x, _] => x | _ => ""
def backOf : PyData → Str | .tuple [_, _, .str y] => y | _ => ""
def ringD (rows : List (List Str)) : PyData → Bool
  | .tuple ds => decide (2 ≤ ds.length) && (ds.all (wishD rows) && (decide (ds.map backOf = (ds.map frontOf).drop 1 ++ (ds.map frontOf).take 1) && decide (ds.map frontOf).Nodup))
  | _ => false
theorem ring_no {rows : List (List Str)} {d : PyData} (h : isT "tuple" d = false) : ringD rows d = false := by cases d <;> first | rfl | cases h
theorem wish_is {rows : List (List Str)} {d : PyData} (h : wishD rows d = true) : ∃ (i : Nat) (x y : Str) (r : List Str), d = .tuple [.int (i : Int), .str x, .str y] ∧ rows[i]? = some r ∧ x ∈ r ∧ y ∈ r := by
  unfold wishD at h
  split at h
  · rename_i i x y
    simp only [Bool.and_eq_true, decide_eq_true_eq, aheadIn] at h
    obtain ⟨h0, h1, hx, hy, _⟩ := h
    obtain ⟨k, rfl⟩ := Int.eq_ofNat_of_zero_le h0
    have hk : k < rows.length := by omega
    have e : rows.getD (k : Int).toNat [] = rows[k] := by rw [Int.toNat_natCast, List.getD_eq_getElem?_getD, List.getElem?_eq_getElem hk]; rfl
    rw [e] at hx hy
    exact ⟨k, x, y, rows[k], rfl, List.getElem?_eq_getElem hk, hx, hy⟩
  · cases h
section
variable {P : Program} {w : World} {K : Frag} {mg : Str → Option Value} {base : Heap} {f : Addr} {fd : FuncData}
theorem comp_strs {p a c : Addr} {vs : List V} {ds : List PyData} {H : Hp} {g : PyData → Str} {te : TE} {tl : St} {Q : VK} (ha : H a = some (.tup vs)) (rs : Dts p H vs ds) (hc : H c = none) (h4 : ds.length ≤ 1000)
    (hte : ∀ (v : V) (d : PyData) (H1 : Hp) (Q1 : VK), d ∈ ds → Dt p H1 v d → Q1 (.str (g d)) H1 → te (some v :: tl) H1 Q1)
    (q : ∀ H1, Same H H1 → H1 c = some (.lst ((ds.map g).map V.str)) → Q (.ref c) H1) : CompW (Itt K a) (gName 0) tTrue te (none :: tl) Q c H := by
  have hl := rs.length
  refine comp_tup (xs := vs) (fun i ys τ H2 => ∃ t0 : Option V, τ = t0 :: tl ∧ ys = ((ds.take i).map g).map V.str ∧ Same H H2 ∧ H2 c = some (.lst ys)) ⟨none, rfl, rfl, same_new hc, upd_same⟩ (fun i ys τ H2 ⟨_, _, _, z, z2⟩ => ⟨z2, SqT.of (z _ _ ha)⟩) ?_ ?_
  · rintro i x ys τ H2 hx ⟨t0, rfl, rfl, S2, h2⟩
    have hjl : i < vs.length := (List.getElem?_eq_some_iff.mp hx).1
    have hjd : i < ds.length := by omega
    obtain ⟨v', hv', rd⟩ := rs.get (List.getElem?_eq_getElem hjd)
    rw [hx] at hv'; cases hv'
    refine hte x ds[i] H2 _ (List.getElem_mem hjd) (rd.keep fun b o e _ => S2 b o e) ⟨h2, by rw [List.length_map, List.length_map, List.length_take, sizeLine_eq]; omega, cw_next hjl ⟨_, rfl, ?_, fun b u e => ?_, upd_same⟩⟩
    · rw [List.take_succ, List.getElem?_eq_getElem hjd, List.map_append, List.map_append]; rfl
    · rw [upd_ne (ne_of_none e hc)]; exact S2 _ _ e
  · rintro ys τ H2 ⟨t0, rfl, rfl, S2, h2⟩
    rw [hl, List.take_length] at h2
    exact q H2 S2 h2
@[irreducible] def spIsRg : Sp := fun vs H Q _ => ∃ (p t : Addr) (ws : List V) (rows : List (List Str)) (v : V) (d : PyData), vs = [.ref t, v] ∧ H t = some (.tup ws) ∧ RowsV H ws rows ∧ Rws rows ∧ Dt p H v d ∧ Bk d ∧ ∀ H', Same H H' → Q (.bl (ringD rows d)) H'
theorem isrg_sp {p t : Addr} {ws : List V} {rows : List (List Str)} {v : V} {d : PyData} {H : Hp} {Q : VK} {E : XK} (ht : H t = some (.tup ws)) (hR : RowsV H ws rows) (hS : Rws rows) (r : Dt p H v d) (hb : Bk d) (q : ∀ H', Same H H' → Q (.bl (ringD rows d)) H') : spIsRg [.ref t, v] H Q E := by
  unfold spIsRg; exact ⟨p, t, ws, rows, v, d, rfl, ht, hR, hS, r, hb, q⟩
theorem wish_front {p : Addr} {rows : List (List Str)} {H : Hp} {v : V} {d : PyData} {Q : VK} (h : wishD rows d = true) (r : Dt p H v d) (q : Q (.str (frontOf d)) H) : rIxT K v (.int 1) H Q := by
  obtain ⟨i, x, y, _, rfl, _⟩ := wish_is h
  obtain ⟨a, vs, rfl, na, ha, rs⟩ := dt_tup r
  obtain ⟨v0, vs1, rfl, r0, rs⟩ := dts_cons rs
  obtain ⟨v1, vs2, rfl, r1, rs⟩ := dts_cons rs
  obtain rfl := dt_str r1
  exact ⟨a, _, 1, _, rfl, rfl, SqT.of ha, at_1, q⟩
theorem wish_back {p : Addr} {rows : List (List Str)} {H : Hp} {v : V} {d : PyData} {Q : VK} (h : wishD rows d = true) (r : Dt p H v d) (q : Q (.str (backOf d)) H) : rIxT K v (.int 2) H Q := by
  obtain ⟨i, x, y, _, rfl, _⟩ := wish_is h
  obtain ⟨a, vs, rfl, na, ha, rs⟩ := dt_tup r
  obtain ⟨v0, vs1, rfl, r0, rs⟩ := dts_cons rs
  obtain ⟨v1, vs2, rfl, r1, rs⟩ := dts_cons rs
  obtain ⟨v2, vs3, rfl, r2, rs⟩ := dts_cons rs
  obtain rfl := dt_str r2
  exact ⟨a, _, 2, _, rfl, rfl, SqT.of ha, at_2, q⟩
abbrev nIsRg : List Str := ["rows", "thing", "fronts", "backs"]
theorem scIsRg : FnScope nIsRg ["rows", "thing"] (defScope sIsRing) := ⟨rfl, rfl, rfl, by decide +kernel, rfl, by decide +kernel, by decide +kernel⟩
abbrev eG1 : Expr := arg0 (notV (ifTest (bodyAt (defBody sIsRing) 1)))
abbrev eG2 : Expr := asgV (bodyAt (defBody sIsRing) 2)
abbrev eG3 : Expr := asgV (bodyAt (defBody sIsRing) 3)
theorem csG1 : CompScope nIsRg (defScope sIsRing) ["wish", "rows"] [none, some 0] (compSc eG1) := ⟨rfl, by decide +kernel, by decide +kernel, rfl, fv_of (by decide +kernel), by decide +kernel⟩
theorem csG2 : CompScope nIsRg (defScope sIsRing) ["wish"] [none] (compSc eG2) := ⟨rfl, by decide +kernel, by decide +kernel, rfl, fv_of (by decide +kernel), by decide +kernel⟩
theorem csG3 : CompScope nIsRg (defScope sIsRing) ["wish"] [none] (compSc eG3) := ⟨rfl, by decide +kernel, by decide +kernel, rfl, fv_of (by decide +kernel), by decide +kernel⟩
theorem ok_isrg {fI : Addr} {dI : FuncData} (F : Fun K "is_ring" "is_ring" sIsRing f fd) (B : Blt mg) (B2 : Blt2 mg) (bs : mg "set" = none) (GI : FnOk P w K mg base CX0 2 fI dI ["rows", "thing"] spIsW) (kI : keepIn K (.ref fI) = true) (bI : Binds K dI ["rows", "thing"] []) (mI : mg "is_wish" = some (.ref fI)) :
    FnOk P w K mg base CX0 3 f fd ["rows", "thing"] spIsRg := by
  refine F.ok scIsRg (fun vs H Q E h => ?_) (fun cdv A outer s H vs Q E hr h => ?_)
  · unfold spIsRg at h; obtain ⟨p, t, ws, rows, v, d, rfl, _⟩ := h; rfl
  · unfold spIsRg at h
    obtain ⟨p, t, ws, rows, v, d, rfl, ht, hR, hS, rd, hb, q⟩ := h
    have hr2 : Room 2 _ := hr
    have hu := hr.units
    refine ⟨_, pss_cons (ps_if (PW.pt (pw_or (pt_not (pt_val (pe_callB call_isi rfl B2.isi boot_isi (pa_cons (pv 1) (pa_cons (pe_bltn (v := .ty "tuple") rfl B.tuple boot_tuple rfl) pa_nil)))))
        (pw_or1 (pt_cmpR op_lt (pe_callB call_len_seq rfl B.len boot_len (pa_cons (pv 1) pa_nil)) pe_int (nomark _))))) (pss_one (ps_ret pe_bl)) pss_nil)
      (pss_cons (ps_if (pt_not (pt_val (pe_callB (call_allB rfl) rfl B.all boot_all (pa_cons (pe_comp rfl csG1 (pi_tup (pv 1)) (fun s H fp => ⟨pg_name (i := 0) csG1.nd rfl (Or.inl rfl), pifs_nil, pe_call GI hr2 rfl mI kI bI .nil pass0 (pa_cons (pv 1) (pa_cons (pv 0) pa_nil))⟩)) pa_nil)))) (pss_one (ps_ret pe_bl)) pss_nil)
      (pss_cons (ps_setComp (i := 2) rfl csG2 scIsRg.nd rfl rfl (pi_tup (pv 1)) (fun s H fp => ⟨pg_name (i := 0) csG2.nd rfl (Or.inl rfl), pifs_nil, pe_ix (ix_tup_K K rfl) (pv 0) pe_int (fun _ _ => rfl)⟩))
      (pss_cons (ps_setComp (i := 3) rfl csG3 scIsRg.nd rfl rfl (pi_tup (pv 1)) (fun s H fp => ⟨pg_name (i := 0) csG3.nd rfl (Or.inl rfl), pifs_nil, pe_ix (ix_tup_K K rfl) (pv 0) pe_int (fun _ _ => rfl)⟩))
      (pss_one (ps_ret (pe_and (pe_cmpR (op_eqD hu) (pv 3) (pe_op op_cat (pe_slice sl_list (pv 2) (po_some pe_int) po_none) (pe_slice sl_list (pv 2) po_none (po_some pe_int))) (nomark _))
        (pe_one (pe_cmpR op_eq (pe_callB call_lenSet rfl B.len boot_len (pa_cons (pe_callTy (call_set rfl) rfl bs boot_set (pa_cons (pv 2) pa_nil)) pa_nil)) (pe_callB call_len_seq rfl B.len boot_len (pa_cons (pv 2) pa_nil)) (nomark _))))))))), ?_⟩
    have q0 := q _ (Same.refl _)
    refine ⟨_, rfl, isi_sp kit_tuple rd ⟨_, rfl, ?_⟩⟩
    cases htp : isT "tuple" d with
    | false => rw [ring_no htp] at q0; exact q0
    | true =>
    obtain ⟨ds, rfl⟩ := is_tup htp
    obtain ⟨a, vs, rfl, na, ha, rs⟩ := dt_tup rd
    have hl := rs.length
    obtain ⟨bks, bln⟩ := hb.tup
    have er : ringD rows (.tuple ds) = (decide (2 ≤ ds.length) && (ds.all (wishD rows) && (decide (ds.map backOf = (ds.map frontOf).drop 1 ++ (ds.map frontOf).take 1) && decide (ds.map frontOf).Nodup))) := rfl
    rw [er] at q q0
    refine ⟨_, rfl, a, _, rfl, .inr (SqT.of ha), vs.length, 2, rfl, rfl, _, rfl, ?_⟩
    by_cases h2 : 2 ≤ ds.length
    case neg =>
      have e2 : decide ((vs.length : Int) < 2) = true := decide_eq_true (by omega)
      rw [decide_eq_false h2] at q0
      rw [e2]; exact q0
    have e2 : decide ((vs.length : Int) < 2) = false := decide_eq_false (by omega)
    rw [e2]
    rw [decide_eq_true h2, Bool.true_and] at q
    refine ⟨_, rfl, a, rfl, ⟨_, SqT.of ha⟩, fun c hc => comp_ask (g := wishD rows) ha rs hc bln (fun v' d' H1 Q1 hd' S1 rd' k => ⟨_, rfl, _, rfl, isw_sp (S1 _ _ ht) (hR.same S1) hS rd' (bks d' hd') k⟩) fun H1 S1 h1 => ⟨c, _, rfl, SqL.of h1, _, rfl, ?_⟩⟩
    rw [List.all_map, show (id ∘ wishD rows) = wishD rows from rfl]
    cases hal : ds.all (wishD rows) with
    | false => have q1 := q _ S1; rw [hal] at q1; exact q1
    | true =>
    rw [hal, Bool.true_and] at q
    have hw : ∀ e ∈ ds, wishD rows e = true := fun e he => List.all_eq_true.mp hal e he
    have ha1 := S1 _ _ ha
    refine ⟨_, rfl, a, rfl, ⟨_, SqT.of ha1⟩, fun l1 hl1 => comp_strs (g := frontOf) ha1 (Dts.same rs S1) hl1 bln (fun v' d' H2 Q2 hd' rd' k => ⟨_, rfl, wish_front (hw d' hd') rd' k⟩) fun H2 S2 h2' => ?_⟩
    have S12 := S1.trans S2
    have ha2 := S12 _ _ ha
    refine ⟨_, rfl, a, rfl, ⟨_, SqT.of ha2⟩, fun l2 hl2 => comp_strs (g := backOf) ha2 (Dts.same rs S12) hl2 bln (fun v' d' H3 Q3 hd' rd' k => ⟨_, rfl, wish_back (hw d' hd') rd' k⟩) fun H3 S3 h3' => ?_⟩
    have S13 := S12.trans S3
    have hl13 := S3 _ _ h2'
    have nmf : ∀ y ∈ ds.map frontOf, Nm y := fun y hy => by
      obtain ⟨e, he, rfl⟩ := List.mem_map.mp hy
      obtain ⟨i, x, y, r, rfl, hr, hx, _⟩ := wish_is (hw e he)
      exact hS.sm.nm r (List.mem_of_getElem? hr) x hx
    have nmb : ∀ y ∈ ds.map backOf, Nm y := fun y hy => by
      obtain ⟨e, he, rfl⟩ := List.mem_map.mp hy
      obtain ⟨i, x, y, r, rfl, hr, _, hy⟩ := wish_is (hw e he)
      exact hS.sm.nm r (List.mem_of_getElem? hr) y hy
    have lfr : (ds.map frontOf).length ≤ 1000 := by rw [List.length_map]; exact bln
    generalize ds.map frontOf = fr at *
    generalize ds.map backOf = bk at *
    have ec1 : cutV (fr.map V.str) (some (1 : Int)) none = (fr.drop 1).map V.str := by rw [show (1 : Int) = ((1 : Nat) : Int) from rfl, cut_from, List.map_drop]
    have ec2 : cutV (fr.map V.str) none (some (1 : Int)) = (fr.take 1).map V.str := by rw [show (1 : Int) = ((1 : Nat) : Int) from rfl, cut_to, List.map_take]
    refine ⟨_, rfl, _, rfl, _, rfl, l1, _, rfl, SqL.of hl13, fun s1 hs1 => ?_⟩
    rw [ec1]
    have S4 := same_new (o := .lst ((fr.drop 1).map V.str)) hs1
    refine ⟨_, rfl, _, rfl, l1, _, rfl, SqL.of (S4 _ _ hl13), fun s2 hs2 => ?_⟩
    rw [ec2]
    have S5 := same_new (o := .lst ((fr.take 1).map V.str)) hs2
    refine ⟨s1, s2, _, _, rfl, rfl, S5 _ _ upd_same, upd_same, ?_, fun s3 hs3 => ?_⟩
    · rw [List.length_map, List.length_map, List.length_drop, List.length_take, sizeLine_eq]; omega
    rw [← List.map_append]
    have S6 := same_new (o := .lst ((fr.drop 1 ++ fr.take 1).map V.str)) hs3
    have S46 := S4.trans (S5.trans S6)
    have nmt : ∀ y ∈ fr.drop 1 ++ fr.take 1, Nm y := fun y hy => by
      rcases List.mem_append.mp hy with z | z
      · exact nmf y (List.mem_of_mem_drop z)
      · exact nmf y (List.mem_of_mem_take z)
    refine ⟨.list _, .list _, .lst (S46 _ _ h3') (strs_rep _ _), .lst upd_same (strs_rep _ _), strs_lay nmb, strs_lay nmt, ?_, ?_⟩
    · show PyData.depthAll _ + 1 ≤ 60
      rw [strs_depth]; decide
    rw [show PyData.eqv (.list (bk.map PyData.str)) (.list ((fr.drop 1 ++ fr.take 1).map PyData.str)) = decide (bk = fr.drop 1 ++ fr.take 1) by show PyData.eqvAll _ _ = _; rw [strs_eqv]]
    have S16 := S13.trans S46
    have hl16 := S46 _ _ hl13
    by_cases ht' : bk = fr.drop 1 ++ fr.take 1
    case neg =>
      have q1 := q _ S16
      rw [decide_eq_false ht'] at q1
      rw [decide_eq_false ht']; exact ⟨false, rfl, q1⟩
    rw [decide_eq_true ht'] at q ⊢
    refine ⟨true, rfl, ?_⟩
    refine ⟨_, rfl, l1, fr, rfl, .inl (SqL.of hl16), by omega, fun b zs hb' nds mem => ?_⟩
    have S7 := same_new (o := SetO P w b zs) hb'
    refine ⟨b, zs, rfl, upd_same, _, rfl, l1, _, rfl, .inl (SqL.of (S7 _ _ hl16)), rfl, ?_⟩
    rw [List.length_map, int_eq_len, dd_len nds mem]
    exact q _ (S16.trans S7)
end
end K14
namespace K14
open PySem L2 PySem.W HT
theorem any_is {r : List Str} {d : PyData} : (r.any fun c => isS c d) = true ↔ ∃ x, d = .str x ∧ x ∈ r := by
  rw [List.any_eq_true]
  constructor
  · rintro ⟨c, hc, h⟩
    cases d with
    | str x => exact ⟨x, rfl, by have e : x = c := eq_of_beq h; rw [e]; exact hc⟩
    | _ => cases h
  · rintro ⟨x, rfl, hx⟩
    exact ⟨x, hx, beq_self_eq_true x⟩
theorem wish_row {rows : List (List Str)} {i : Nat} {r : List Str} (hr : rows[i]? = some r) (x y : Str) : wishD rows (.tuple [.int (i : Int), .str x, .str y]) = aheadIn r x y := by
  have hil := (List.getElem?_eq_some_iff.mp hr).1
  have eg : rows.getD i [] = r := by rw [List.getD_eq_getElem?_getD, hr]; rfl
  show (decide (0 ≤ (i : Int)) && (decide ((i : Int) < rows.length) && aheadIn (rows.getD (i : Int).toNat []) x y)) = _
  rw [decide_eq_true (by omega), decide_eq_true (by omega), Int.toNat_natCast, eg]; rfl
theorem wish_miss {rows : List (List Str)} {i : Nat} {r : List Str} (hr : rows[i]? = some r) {b c : PyData} (h : ¬ ((∃ x, b = .str x ∧ x ∈ r) ∧ ∃ y, c = .str y ∧ y ∈ r)) : wishD rows (.tuple [.int (i : Int), b, c]) = false := by
  by_cases hb : ∃ x, b = .str x
  · obtain ⟨x, rfl⟩ := hb
    by_cases hc : ∃ y, c = .str y
    · obtain ⟨y, rfl⟩ := hc
      rw [wish_row hr]
      unfold aheadIn
      by_cases hx : x ∈ r
      · rw [decide_eq_false (fun z => h ⟨⟨x, rfl, hx⟩, y, rfl, z⟩), Bool.false_and, Bool.and_false]
      · rw [decide_eq_false hx]; rfl
    · cases c with
      | str y => exact absurd ⟨y, rfl⟩ hc
      | _ => rfl
  · cases b with
    | str x => exact absurd ⟨x, rfl⟩ hb
    | _ => rfl
section
variable {P : Program} {w : World} {K : Frag} {mg : Str → Option Value} {base : Heap} {f : Addr} {fd : FuncData}
abbrev nLW : List Str := ["_law_rows", "_law_wish"]
theorem scLW : FnScope nLW nLW (defScope sLWish) := ⟨rfl, rfl, rfl, by decide +kernel, rfl, by decide +kernel, by decide +kernel⟩
theorem ok_lw (F : Fun K "_law_is_wish" "_law_is_wish" sLWish f fd) (B : Blt mg) (B2 : Blt2 mg) (B3 : Blt3 mg) : FnOk P w K mg base CX0 1 f fd nLW spIsW := by
  refine F.ok scLW (fun vs H Q E h => ?_) (fun cdv A outer s H vs Q E hr h => ?_)
  · unfold spIsW at h; obtain ⟨p, t, ws, rows, v, d, rfl, _⟩ := h; rfl
  · unfold spIsW at h
    obtain ⟨p, t, ws, rows, v, d, rfl, ht, hR, hS, rd, hb, q⟩ := h
    have hu := hr.units
    refine ⟨_, pss_cons (ps_if (PW.pt (pw_or (pt_not (pt_val (pe_callB call_isi rfl B2.isi boot_isi (pa_cons (pv 1) (pa_cons (pe_bltn (v := .ty "tuple") rfl B.tuple boot_tuple rfl) pa_nil)))))
          (pw_or (pt_cmpR op_ne (pe_callB call_len_seq rfl B.len boot_len (pa_cons (pv 1) pa_nil)) pe_int (nomark _))
          (pw_or (pt_not (pt_val (pe_callB call_isi rfl B2.isi boot_isi (pa_cons (pe_ix ix_tup (pv 1) pe_int (fun _ _ => rfl)) (pa_cons (pe_bltn (v := .ty "int") rfl B3.int boot_int rfl) pa_nil)))))
          (pw_or1 (pt_val (pe_callB call_isi rfl B2.isi boot_isi (pa_cons (pe_ix ix_tup (pv 1) pe_int (fun _ _ => rfl)) (pa_cons (pe_bltn (v := .ty "bool") rfl B3.bool boot_bool rfl) pa_nil))))))))) (pss_one (ps_ret pe_bl)) pss_nil)
      (pss_cons (ps_if (PW.pt (pw_or (pt_cmpR op_lt (pe_ix ix_tup (pv 1) pe_int (fun _ _ => rfl)) pe_int (nomark _))
          (pw_or (pt_cmpR op_ge (pe_ix ix_tup (pv 1) pe_int (fun _ _ => rfl)) (pe_callB call_len_seq rfl B.len boot_len (pa_cons (pv 0) pa_nil)) (nomark _))
          (pw_or (pt_cmpR (op_notInT hu) (pe_ix ix_tup (pv 1) pe_int (fun _ _ => rfl)) (pe_ix ix_tup (pv 0) (pe_ix ix_tup (pv 1) pe_int (fun _ _ => rfl)) (fun _ _ => rfl)) rfl)
          (pw_or1 (pt_cmpR (op_notInT hu) (pe_ix ix_tup (pv 1) pe_int (fun _ _ => rfl)) (pe_ix ix_tup (pv 0) (pe_ix ix_tup (pv 1) pe_int (fun _ _ => rfl)) (fun _ _ => rfl)) rfl)))))) (pss_one (ps_ret pe_bl)) pss_nil)
      (pss_one (ps_ret (pe_cmpR op_lt (pe_bm PySem.F.plainAttrs_tuple PySem.F.slot_tuple_index PySem.F.type_tuple_index mt_indexT (pe_ix ix_tup (pv 0) (pe_ix ix_tup (pv 1) pe_int (fun _ _ => rfl)) (fun _ _ => rfl)) (pa_cons (pe_ix ix_tup (pv 1) pe_int (fun _ _ => rfl)) pa_nil))
          (pe_bm PySem.F.plainAttrs_tuple PySem.F.slot_tuple_index PySem.F.type_tuple_index mt_indexT (pe_ix ix_tup (pv 0) (pe_ix ix_tup (pv 1) pe_int (fun _ _ => rfl)) (fun _ _ => rfl)) (pa_cons (pe_ix ix_tup (pv 1) pe_int (fun _ _ => rfl)) pa_nil)) (nomark _))))), ?_⟩
    have q0 := q _ (Same.refl _)
    refine ⟨_, rfl, isi_sp kit_tuple rd ⟨_, rfl, ?_⟩⟩
    cases htp : isT "tuple" d with
    | false => rw [wish_no htp] at q0; exact q0
    | true =>
    obtain ⟨ds, rfl⟩ := is_tup htp
    obtain ⟨a, vs, rfl, na, ha, rs⟩ := dt_tup rd
    have hl := rs.length
    obtain ⟨bks, bln⟩ := hb.tup
    refine ⟨_, rfl, a, _, rfl, .inr (SqT.of ha), rfl, _, rfl, ?_⟩
    by_cases h3 : ds.length = 3
    case neg =>
      have e : decide (V.int (vs.length : Int) = V.int 3) = false := decide_eq_false fun z => h3 (by injection z with z; omega)
      rw [wish_three h3] at q0
      rw [e]; exact q0
    have e : decide (V.int (vs.length : Int) = V.int 3) = true := decide_eq_true (by rw [hl, h3]; rfl)
    rw [e]
    obtain ⟨d0, d1, d2, rfl⟩ : ∃ d0 d1 d2, ds = [d0, d1, d2] := by
      match ds, h3 with
      | [d0, d1, d2], _ => exact ⟨d0, d1, d2, rfl⟩
    obtain ⟨v0, vs1, rfl, r0, rs⟩ := dts_cons rs
    obtain ⟨v1, vs2, rfl, r1, rs⟩ := dts_cons rs
    obtain ⟨v2, vs3, rfl, r2, rs⟩ := dts_cons rs
    obtain rfl := dts_nil rs
    have x0 : ∀ {Q' : VK}, Q' v0 H → rIxT K (.ref a) (.int 0) H Q' := fun k => ⟨a, _, 0, _, rfl, rfl, SqT.of ha, at_0, k⟩
    have x1 : ∀ {Q' : VK}, Q' v1 H → rIxT K (.ref a) (.int 1) H Q' := fun k => ⟨a, _, 1, _, rfl, rfl, SqT.of ha, at_1, k⟩
    have x2 : ∀ {Q' : VK}, Q' v2 H → rIxT K (.ref a) (.int 2) H Q' := fun k => ⟨a, _, 2, _, rfl, rfl, SqT.of ha, at_2, k⟩
    refine ⟨_, rfl, x0 (isi_sp kit_int r0 ⟨_, rfl, ?_⟩)⟩
    cases hi : isT "int" d0 with
    | false => rw [wish_whole (show wholeD d0 = false by unfold wholeD; rw [hi]; rfl)] at q0; exact q0
    | true =>
    refine ⟨_, rfl, x0 (isi_sp kit_bool r0 ⟨_, rfl, ?_⟩)⟩
    cases hbl : isT "bool" d0 with
    | true => rw [wish_whole (show wholeD d0 = false by unfold wholeD; rw [hi, hbl]; rfl)] at q0; exact q0
    | false =>
    obtain ⟨i, rfl⟩ := whole_int (show wholeD d0 = true by unfold wholeD; rw [hi, hbl]; rfl)
    obtain rfl := dt_int r0
    have hwl := hR.length
    refine ⟨_, rfl, a, _, 0, _, rfl, rfl, SqT.of ha, at_0, ?_⟩
    refine ⟨_, _, rfl, rfl, _, rfl, ?_⟩
    by_cases h0 : 0 ≤ i
    case neg =>
      rw [wish_out (fun z => h0 z.1)] at q0
      exact ite_tt (decide_eq_true (by omega)) q0
    refine ite_ff (decide_eq_false (by omega)) ?_
    refine ⟨_, rfl, a, _, 0, _, rfl, rfl, SqT.of ha, at_0, ?_⟩
    refine ⟨_, rfl, t, _, rfl, .inr (SqT.of ht), _, _, rfl, rfl, _, rfl, ?_⟩
    by_cases hlt : i < rows.length
    case neg =>
      rw [wish_out (fun z => hlt z.2)] at q0
      exact ite_tt (decide_eq_true (by omega)) q0
    refine ite_ff (decide_eq_false (by omega)) ?_
    obtain ⟨k, rfl⟩ := Int.eq_ofNat_of_zero_le h0
    have hk : k < rows.length := by omega
    obtain ⟨r, hri⟩ : ∃ r, rows[k]? = some r := ⟨_, List.getElem?_eq_getElem hk⟩
    have hrm := List.mem_of_getElem? hri
    obtain ⟨v, hv⟩ : ∃ v, ws[k]? = some v := ⟨ws[k]'(by omega), List.getElem?_eq_getElem _⟩
    obtain ⟨b, r', rfl, hr', hb'⟩ := hR.get hv
    rw [hri] at hr'; cases hr'
    have xr : ∀ {Q' : VK}, Q' (.ref b) H → rIxT K (.ref t) (.int (k : Int)) H Q' := fun z => ⟨t, _, _, _, rfl, rfl, SqT.of ht, atI_nat hv, z⟩
    refine ⟨_, rfl, a, _, 1, _, rfl, rfl, SqT.of ha, at_1, ?_⟩
    refine ⟨_, rfl, _, rfl, a, _, 0, _, rfl, rfl, SqT.of ha, at_0, ?_⟩
    refine ⟨t, _, _, _, rfl, rfl, SqT.of ht, atI_nat hv, ?_⟩
    refine ⟨p, d1, b, r, r1, rfl, hb', _, rfl, ?_⟩
    cases h1 : r.any fun c => isS c d1 with
    | false =>
      rw [wish_miss hri (fun z => by have := any_is.mpr z.1; rw [h1] at this; cases this)] at q0
      exact q0
    | true =>
    refine ⟨_, rfl, a, _, 2, _, rfl, rfl, SqT.of ha, at_2, ?_⟩
    refine ⟨_, rfl, _, rfl, a, _, 0, _, rfl, rfl, SqT.of ha, at_0, ?_⟩
    refine ⟨t, _, _, _, rfl, rfl, SqT.of ht, atI_nat hv, ?_⟩
    refine ⟨p, d2, b, r, r2, rfl, hb', _, rfl, ?_⟩
    cases h2 : r.any fun c => isS c d2 with
    | false =>
      rw [wish_miss hri (fun z => by have := any_is.mpr z.2; rw [h2] at this; cases this)] at q0
      exact q0
    | true =>
    obtain ⟨x, rfl, hx⟩ := any_is.mp h1
    obtain ⟨y, rfl, hy⟩ := any_is.mp h2
    obtain rfl := dt_str r1
    obtain rfl := dt_str r2
    obtain ⟨jx, nx⟩ := idx_first hx
    obtain ⟨jy, ny⟩ := idx_first hy
    rw [wish_row hri] at q0
    rw [show aheadIn r x y = decide (r.idxOf x < r.idxOf y) by unfold aheadIn; rw [decide_eq_true hx, decide_eq_true hy]; rfl] at q0
    refine ⟨_, rfl, _, rfl, a, _, 0, _, rfl, rfl, SqT.of ha, at_0, ?_⟩
    refine ⟨t, _, _, _, rfl, rfl, SqT.of ht, atI_nat hv, ?_⟩
    refine ⟨.inr (.inr (.inr (.inr ⟨rfl, _, Rd.of hb'⟩))), _, rfl, a, _, 1, _, rfl, rfl, SqT.of ha, at_1, ?_⟩
    refine ⟨b, r, x, _, rfl, rfl, SqT.of hb', jx, nx, ?_⟩
    refine ⟨_, rfl, _, rfl, a, _, 0, _, rfl, rfl, SqT.of ha, at_0, ?_⟩
    refine ⟨t, _, _, _, rfl, rfl, SqT.of ht, atI_nat hv, ?_⟩
    refine ⟨.inr (.inr (.inr (.inr ⟨rfl, _, Rd.of hb'⟩))), _, rfl, a, _, 2, _, rfl, rfl, SqT.of ha, at_2, ?_⟩
    refine ⟨b, r, y, _, rfl, rfl, SqT.of hb', jy, ny, _, _, rfl, rfl, ?_⟩
    show Q (.bl (decide ((r.idxOf x : Int) < (r.idxOf y : Int)))) H
    rw [show decide ((r.idxOf x : Int) < (r.idxOf y : Int)) = decide (r.idxOf x < r.idxOf y) from decide_eq_decide.mpr (by omega)]
    exact q0
abbrev nRd : List Str := ["_law_rows", "_law_ring", "_law_begins"]
theorem scRd : FnScope nRd ["_law_rows", "_law_ring"] (defScope sRound) := ⟨rfl, rfl, rfl, by decide +kernel, rfl, by decide +kernel, by decide +kernel⟩
def cmpR (e : Expr) : Expr := match e with | .Compare _ _ (r :: _) _ => r | _ => .Constant .none 0 ⟨0, 0, 0, 0⟩
abbrev eR1 : Expr := arg0 (notV (boolN (ifTest (bodyAt (defBody sRound) 0)) 2))
abbrev eR2 : Expr := asgV (bodyAt (defBody sRound) 1)
abbrev eR3 : Expr := cmpR (boolN (retV (bodyAt (defBody sRound) 2)) 0)
theorem csR1' : CompScope nRd (defScope sRound) ["_law_wish", "_law_rows"] [none, some 0] (compSc eR1) := ⟨rfl, by decide +kernel, by decide +kernel, rfl, fv_of (by decide +kernel), by decide +kernel⟩
theorem csR2 : CompScope nRd (defScope sRound) ["_law_wish"] [none] (compSc eR2) := ⟨rfl, by decide +kernel, by decide +kernel, rfl, fv_of (by decide +kernel), by decide +kernel⟩
theorem csR3 : CompScope nRd (defScope sRound) ["_law_wish"] [none] (compSc eR3) := ⟨rfl, by decide +kernel, by decide +kernel, rfl, fv_of (by decide +kernel), by decide +kernel⟩
theorem ok_round {fI : Addr} {dI : FuncData} (F : Fun K "_law_is_round" "_law_is_round" sRound f fd) (B : Blt mg) (B2 : Blt2 mg) (bs : mg "set" = none) (GI : FnOk P w K mg base CX0 1 fI dI nLW spIsW) (kI : keepIn K (.ref fI) = true) (bI : Binds K dI nLW []) (mI : mg "_law_is_wish" = some (.ref fI)) :
    FnOk P w K mg base CX0 2 f fd ["_law_rows", "_law_ring"] spIsRg := by
  refine F.ok scRd (fun vs H Q E h => ?_) (fun cdv A outer s H vs Q E hr h => ?_)
  · unfold spIsRg at h; obtain ⟨p, t, ws, rows, v, d, rfl, _⟩ := h; rfl
  · unfold spIsRg at h
    obtain ⟨p, t, ws, rows, v, d, rfl, ht, hR, hS, rd, hb, q⟩ := h
    have hr1 : Room 1 _ := hr
    have hu := hr.units
    refine ⟨_, pss_cons (ps_if (PW.pt (pw_or (pt_not (pt_val (pe_callB call_isi rfl B2.isi boot_isi (pa_cons (pv 1) (pa_cons (pe_bltn (v := .ty "tuple") rfl B.tuple boot_tuple rfl) pa_nil)))))
        (pw_or (pt_cmpR op_lt (pe_callB call_len_seq rfl B.len boot_len (pa_cons (pv 1) pa_nil)) pe_int (nomark _))
        (pw_or1 (pt_not (pt_val (pe_callB (call_allB rfl) rfl B.all boot_all (pa_cons (pe_comp rfl csR1' (pi_tup (pv 1)) (fun s H fp => ⟨pg_name (i := 0) csR1'.nd rfl (Or.inl rfl), pifs_nil, pe_call GI hr1 rfl mI kI bI .nil pass0 (pa_cons (pv 1) (pa_cons (pv 0) pa_nil))⟩)) pa_nil)))))))) (pss_one (ps_ret pe_bl)) pss_nil)
      (pss_cons (ps_setComp (i := 2) rfl csR2 scRd.nd rfl rfl (pi_tup (pv 1)) (fun s H fp => ⟨pg_name (i := 0) csR2.nd rfl (Or.inl rfl), pifs_nil, pe_ix (ix_tup_K K rfl) (pv 0) pe_int (fun _ _ => rfl)⟩))
      (pss_one (ps_ret (pe_and (pe_cmpR (op_eqD hu) (pe_op op_cat (pe_slice sl_list (pv 2) (po_some pe_int) po_none) (pe_slice sl_list (pv 2) po_none (po_some pe_int))) (pe_comp rfl csR3 (pi_tup (pv 1)) (fun s H fp => ⟨pg_name (i := 0) csR3.nd rfl (Or.inl rfl), pifs_nil, pe_ix (ix_tup_K K rfl) (pv 0) pe_int (fun _ _ => rfl)⟩)) (nomark _))
        (pe_one (pe_cmpR op_eq (pe_callB call_lenSet rfl B.len boot_len (pa_cons (pe_callTy (call_set rfl) rfl bs boot_set (pa_cons (pv 2) pa_nil)) pa_nil)) (pe_callB call_len_seq rfl B.len boot_len (pa_cons (pv 2) pa_nil)) (nomark _))))))), ?_⟩
    have q0 := q _ (Same.refl _)
    refine ⟨_, rfl, isi_sp kit_tuple rd ⟨_, rfl, ?_⟩⟩
    cases htp : isT "tuple" d with
    | false => rw [ring_no htp] at q0; exact q0
    | true =>
    obtain ⟨ds, rfl⟩ := is_tup htp
    obtain ⟨a, vs, rfl, na, ha, rs⟩ := dt_tup rd
    have hl := rs.length
    obtain ⟨bks, bln⟩ := hb.tup
    have er : ringD rows (.tuple ds) = (decide (2 ≤ ds.length) && (ds.all (wishD rows) && (decide (ds.map backOf = (ds.map frontOf).drop 1 ++ (ds.map frontOf).take 1) && decide (ds.map frontOf).Nodup))) := rfl
    rw [er] at q q0
    refine ⟨_, rfl, a, _, rfl, .inr (SqT.of ha), vs.length, 2, rfl, rfl, _, rfl, ?_⟩
    by_cases h2 : 2 ≤ ds.length
    case neg =>
      have e2 : decide ((vs.length : Int) < 2) = true := decide_eq_true (by omega)
      rw [decide_eq_false h2] at q0
      rw [e2]; exact q0
    have e2 : decide ((vs.length : Int) < 2) = false := decide_eq_false (by omega)
    rw [e2]
    rw [decide_eq_true h2, Bool.true_and] at q
    refine ⟨_, rfl, a, rfl, ⟨_, SqT.of ha⟩, fun c hc => comp_ask (g := wishD rows) ha rs hc bln (fun v' d' H1 Q1 hd' S1 rd' k => ⟨_, rfl, _, rfl, isw_sp (S1 _ _ ht) (hR.same S1) hS rd' (bks d' hd') k⟩) fun H1 S1 h1 => ⟨c, _, rfl, SqL.of h1, _, rfl, ?_⟩⟩
    rw [List.all_map, show (id ∘ wishD rows) = wishD rows from rfl]
    cases hal : ds.all (wishD rows) with
    | false => have q1 := q _ S1; rw [hal] at q1; exact q1
    | true =>
    rw [hal, Bool.true_and] at q
    have hw : ∀ e ∈ ds, wishD rows e = true := fun e he => List.all_eq_true.mp hal e he
    have ha1 := S1 _ _ ha
    have lfr : (ds.map frontOf).length ≤ 1000 := by rw [List.length_map]; exact bln
    have nmf : ∀ y ∈ ds.map frontOf, Nm y := fun y hy => by
      obtain ⟨e, he, rfl⟩ := List.mem_map.mp hy
      obtain ⟨i, x, y, r, rfl, hr, hx, _⟩ := wish_is (hw e he)
      exact hS.sm.nm r (List.mem_of_getElem? hr) x hx
    have nmb : ∀ y ∈ ds.map backOf, Nm y := fun y hy => by
      obtain ⟨e, he, rfl⟩ := List.mem_map.mp hy
      obtain ⟨i, x, y, r, rfl, hr, _, hy⟩ := wish_is (hw e he)
      exact hS.sm.nm r (List.mem_of_getElem? hr) y hy
    refine ⟨_, rfl, a, rfl, ⟨_, SqT.of ha1⟩, fun l1 hl1 => comp_strs (g := frontOf) ha1 (Dts.same rs S1) hl1 bln (fun v' d' H2 Q2 hd' rd' k => ⟨_, rfl, wish_front (hw d' hd') rd' k⟩) fun H2 S2 h2' => ?_⟩
    have S12 := S1.trans S2
    generalize ds.map frontOf = fr at *
    have ec1 : cutV (fr.map V.str) (some (1 : Int)) none = (fr.drop 1).map V.str := by rw [show (1 : Int) = ((1 : Nat) : Int) from rfl, cut_from, List.map_drop]
    have ec2 : cutV (fr.map V.str) none (some (1 : Int)) = (fr.take 1).map V.str := by rw [show (1 : Int) = ((1 : Nat) : Int) from rfl, cut_to, List.map_take]
    refine ⟨_, rfl, _, rfl, l1, _, rfl, SqL.of h2', fun s1 hs1 => ?_⟩
    rw [ec1]
    have S4 := same_new (o := .lst ((fr.drop 1).map V.str)) hs1
    refine ⟨_, rfl, _, rfl, l1, _, rfl, SqL.of (S4 _ _ h2'), fun s2 hs2 => ?_⟩
    rw [ec2]
    have S5 := same_new (o := .lst ((fr.take 1).map V.str)) hs2
    refine ⟨s1, s2, _, _, rfl, rfl, S5 _ _ upd_same, upd_same, ?_, fun s3 hs3 => ?_⟩
    · rw [List.length_map, List.length_map, List.length_drop, List.length_take, sizeLine_eq]; omega
    rw [← List.map_append]
    have S6 := same_new (o := .lst ((fr.drop 1 ++ fr.take 1).map V.str)) hs3
    have S46 := S4.trans (S5.trans S6)
    have S16 := S12.trans S46
    have hs6 : upd (upd (upd H2 s1 (.lst ((fr.drop 1).map V.str))) s2 (.lst ((fr.take 1).map V.str))) s3 (.lst ((fr.drop 1 ++ fr.take 1).map V.str)) s3 = some (.lst ((fr.drop 1 ++ fr.take 1).map V.str)) := upd_same
    have hl6 := S46 _ _ h2'
    generalize upd (upd (upd H2 s1 (.lst ((fr.drop 1).map V.str))) s2 (.lst ((fr.take 1).map V.str))) s3 (.lst ((fr.drop 1 ++ fr.take 1).map V.str)) = H6 at S16 hs6 hl6 ⊢
    have ha6 := S16 _ _ ha
    refine ⟨_, rfl, a, rfl, ⟨_, SqT.of ha6⟩, fun l2 hl2 => comp_strs (g := backOf) ha6 (Dts.same rs S16) hl2 bln (fun v' d' H3 Q3 hd' rd' k => ⟨_, rfl, wish_back (hw d' hd') rd' k⟩) fun H7 S7 h7 => ?_⟩
    generalize ds.map backOf = bk at *
    have nmt : ∀ y ∈ fr.drop 1 ++ fr.take 1, Nm y := fun y hy => by
      rcases List.mem_append.mp hy with z | z
      · exact nmf y (List.mem_of_mem_drop z)
      · exact nmf y (List.mem_of_mem_take z)
    refine ⟨.list _, .list _, .lst (S7 _ _ hs6) (strs_rep _ _), .lst h7 (strs_rep _ _), strs_lay nmt, strs_lay nmb, ?_, ?_⟩
    · show PyData.depthAll _ + 1 ≤ 60
      rw [strs_depth]; decide
    rw [show PyData.eqv (.list ((fr.drop 1 ++ fr.take 1).map PyData.str)) (.list (bk.map PyData.str)) = decide (bk = fr.drop 1 ++ fr.take 1) by show PyData.eqvAll _ _ = _; rw [strs_eqv]; exact decide_eq_decide.mpr ⟨Eq.symm, Eq.symm⟩]
    have S17 := S16.trans S7
    have hl17 := S7 _ _ hl6
    by_cases ht' : bk = fr.drop 1 ++ fr.take 1
    case neg =>
      have q1 := q _ S17
      rw [decide_eq_false ht'] at q1
      rw [decide_eq_false ht']; exact ⟨false, rfl, q1⟩
    rw [decide_eq_true ht'] at q ⊢
    refine ⟨true, rfl, ?_⟩
    refine ⟨_, rfl, l1, fr, rfl, .inl (SqL.of hl17), by omega, fun b zs hb' nds mem => ?_⟩
    have S8 := same_new (o := SetO P w b zs) hb'
    refine ⟨b, zs, rfl, upd_same, _, rfl, l1, _, rfl, .inl (SqL.of (S8 _ _ hl17)), rfl, ?_⟩
    rw [List.length_map, int_eq_len, dd_len nds mem]
    exact q _ (S17.trans S8)
end
end K14
namespace K14
open PySem L2 PySem.W HT HS
structure NmO (rows : List (List Str)) (o : List Str) : Prop where
  nd : o.Nodup
  mem : ∀ x, x ∈ o ↔ ∃ r ∈ rows, x ∈ r
  few : o.length ≤ 63
theorem two_tup {K : Frag} {a : Addr} {xs : List V} {g : TG} {tem : Addr → St → Hp → (Hp → Prop) → Prop} {σ : St} {Q : Hp → Prop} {p : Addr} {H : Hp} (Pv : Nat → St → Hp → Prop) (h0 : Pv 0 σ H) (hl : ∀ i τ H, Pv i τ H → SqT K H a xs)
    (hs : ∀ i x τ H, xs[i]? = some x → Pv i τ H → g x τ H fun τ4 H4 => tem p τ4 H4 fun H6 => ∃ m', m' < xs.length - i ∧ CWG Pv xs.length (i + 1) m' τ4 H6) (hd : ∀ τ H, Pv xs.length τ H → Forget τ σ ∧ Q H) :
    ∃ W : Nat → Nat → St → Hp → Prop, (∃ m, W 0 m σ H) ∧ ∀ i m τ H2, W i m τ H2 →
    (((Itt K a).stop i H2 ∧ Forget τ σ ∧ Q H2) ∨ ((Itt K a).go i H2 ∧ ∀ x H3, (Itt K a).yld i H2 x H3 → g x τ H3 fun τ4 H4 => tem p τ4 H4 fun H6 => ∃ m', m' < m ∧ W (i + 1) m' τ4 H6)) := by
  refine ⟨CWG Pv xs.length, ⟨xs.length, by simp, Nat.zero_le _, h0⟩, ?_⟩
  rintro i m τ H ⟨rfl, hi, pv⟩
  have hq := hl i τ H pv
  by_cases hlt : i < xs.length
  · refine .inr ⟨⟨xs, xs[i], hq, by simp [hlt]⟩, fun x H3 y3 => ?_⟩
    obtain ⟨e3, ex⟩ := y3
    subst e3
    exact hs i x τ _ (ex xs hq) pv
  · have e : i = xs.length := by omega
    subst e
    exact .inl ⟨⟨xs, hq, Nat.le_refl _⟩, hd τ H pv⟩
def compScS (e : Expr) : Scope := match e with | .SetComp _ _ sc _ => sc | _ => { kind := .function, names := [], isGenerator := false, isCoroutine := false }
section
variable {P : Program} {w : World} {K : Frag} {mg : Str → Option Value} {base : Heap} {f : Addr} {fd : FuncData}
@[irreducible] def spNW : Sp := fun vs H Q _ => ∃ (t : Addr) (ws : List V) (rows : List (List Str)) (o : List Str), vs = [.ref t] ∧ H t = some (.tup ws) ∧ RowsV H ws rows ∧ Small rows ∧ NmO rows o ∧
  ∀ D ss H', Same H H' → ss.Perm o → PyProof.Rows.sortedS ss = true → H' D = some (.lst (ss.map V.str)) → Q (.ref D) H'
theorem nw_sp {t : Addr} {ws : List V} {rows : List (List Str)} {o : List Str} {H : Hp} {Q : VK} {E : XK} (ht : H t = some (.tup ws)) (hR : RowsV H ws rows) (hS : Small rows) (oo : NmO rows o) (q : ∀ D ss H', Same H H' → ss.Perm o → PyProof.Rows.sortedS ss = true → H' D = some (.lst (ss.map V.str)) → Q (.ref D) H') : spNW [.ref t] H Q E := by
  unfold spNW; exact ⟨t, ws, rows, o, rfl, ht, hR, hS, oo, q⟩
theorem scNW : FnScope ["rows"] ["rows"] (defScope sNW) := ⟨rfl, rfl, rfl, by decide +kernel, rfl, by decide +kernel, by decide +kernel⟩
abbrev eNW : Expr := arg0 (retV (bodyAt (defBody sNW) 0))
theorem csNW : CompScope ["rows"] (defScope sNW) ["row", "name"] [none, none] (compScS eNW) := ⟨rfl, by decide +kernel, by decide +kernel, rfl, fv_of (by decide +kernel), by decide +kernel⟩
theorem ok_nw (F : Fun K "names_within" "names_within" sNW f fd) (B2 : Blt2 mg) : FnOk P w K mg base CX0 1 f fd ["rows"] spNW := by
  refine F.ok scNW (fun vs H Q E h => ?_) (fun cdv A outer s H vs Q E hr h => ?_)
  · unfold spNW at h; obtain ⟨t, ws, rows, o, rfl, _⟩ := h; rfl
  · unfold spNW at h
    obtain ⟨t, ws, rows, o, rfl, ht, hR, hS, oo, q⟩ := h
    refine ⟨_, pss_one (ps_ret (pe_callB (call_sortedSet rfl) rfl B2.sorted boot_sorted (pa_cons (pe_set2 rfl csNW (pi_tup (pv 0)) (fun s H fp => ⟨pg_name (i := 0) csNW.nd rfl (Or.inl rfl), pi_tup_K K rfl (pv 0), pg_name (i := 1) csNW.nd rfl (Or.inl rfl), em_set rfl rfl (pv 1)⟩)) pa_nil))), ?_⟩
    have few_o : ∀ {ks : List Str}, ks.Nodup → (∀ y ∈ ks, ∃ r ∈ rows, y ∈ r) → ks.length ≤ 63 := fun nd h => Nat.le_trans (few_of nd fun y hy => (oo.mem y).mpr (h y hy)) oo.few
    refine ⟨_, rfl, t, rfl, ⟨_, SqT.of ht⟩, fun p hp => ?_⟩
    refine compG_tup (xs := ws) (fun i τ H1 => ∃ (v0 : Option V) (ds : List Str), τ = [v0, none] ∧ Same H H1 ∧ H1 p = some (SetO P w p ds) ∧ ds.Nodup ∧ ∀ y, y ∈ ds ↔ ∃ r ∈ rows.take i, y ∈ r) ⟨none, [], rfl, same_new hp, upd_same, List.nodup_nil, fun y => by simp⟩ (fun i τ H1 ⟨_, _, _, z, _⟩ => SqT.of (z _ _ ht)) (fun i x τ H1 hx hP => ?_) (fun τ H1 hP => ?_)
    · obtain ⟨v0, ds, rfl, S1, hp1, nd, mem⟩ := hP
      obtain ⟨a, r, rfl, hri, har⟩ := hR.get hx
      have hlt : i < ws.length := (List.getElem?_eq_some_iff.mp hx).1
      have hrm := List.mem_of_getElem? hri
      have tk : rows.take (i + 1) = rows.take i ++ [r] := by rw [List.take_succ, hri]; rfl
      refine ⟨_, rfl, a, rfl, ⟨_, SqT.of (S1 _ _ har)⟩, two_tup (xs := r.map V.str) (fun j τ H2 => ∃ (v1 : Option V) (ds : List Str), τ = [some (.ref a), v1] ∧ Same H H2 ∧ H2 p = some (SetO P w p ds) ∧ ds.Nodup ∧ ∀ y, y ∈ ds ↔ (∃ r ∈ rows.take i, y ∈ r) ∨ y ∈ r.take j)
        ⟨none, ds, rfl, S1, hp1, nd, fun y => by rw [mem y]; simp⟩ (fun j τ H2 ⟨_, _, _, z, _⟩ => SqT.of (z _ _ har)) (fun j x τ H2 hx2 hP2 => ?_) (fun τ H2 hP2 => ?_)⟩
      · obtain ⟨v1, ds, rfl, S2, hp2, nd, mem⟩ := hP2
        have hjl : j < (r.map V.str).length := (List.getElem?_eq_some_iff.mp hx2).1
        have hjr : j < r.length := by simpa using hjl
        obtain rfl : V.str r[j] = x := by simpa [hjr] using hx2
        have tkj : r.take (j + 1) = r.take j ++ [r[j]] := by rw [List.take_succ, List.getElem?_eq_getElem hjr]; rfl
        have lk := few_o nd fun y hy => by
          rcases (mem y).mp hy with ⟨q, hq, h⟩ | h
          · exact ⟨q, List.mem_of_mem_take hq, h⟩
          · exact ⟨r, hrm, List.mem_of_mem_take h⟩
        refine ⟨_, rfl, ds, r[j], rfl, hp2, by omega, cwg_next hjl ⟨_, addS ds r[j], rfl, fun b u e => ?_, upd_same, addS_nd nd _, fun y => ?_⟩⟩
        · rw [upd_ne (ne_of_none e hp)]; exact S2 b u e
        · rw [addS_mem, mem y, tkj, List.mem_append, List.mem_singleton, or_assoc]
      · obtain ⟨v1, ds, rfl, S2, hp2, nd, mem⟩ := hP2
        rw [List.length_map, List.take_length] at mem
        refine ⟨⟨rfl, fun k v e => ?_⟩, cwg_next hlt ⟨_, ds, rfl, S2, hp2, nd, fun y => ?_⟩⟩
        · match k, e with
          | 0, e => exact e
          | 1, e => simp at e
          | k + 2, e => simp at e
        · rw [mem y, tk]
          constructor
          · rintro (⟨q, hq, h⟩ | h)
            · exact ⟨q, List.mem_append_left _ hq, h⟩
            · exact ⟨r, List.mem_append_right _ (List.mem_singleton.mpr rfl), h⟩
          · rintro ⟨q, hq, h⟩
            rcases List.mem_append.mp hq with z | z
            · exact .inl ⟨q, z, h⟩
            · rw [List.mem_singleton.mp z] at h; exact .inr h
    · obtain ⟨v0, ds, rfl, S1, hp1, nd, mem⟩ := hP
      rw [hR.length, List.take_length] at mem
      have pko : ds.Perm o := (List.perm_ext_iff_of_nodup nd oo.nd).mpr fun y => by rw [mem y, oo.mem y]
      refine ⟨p, ds, rfl, hp1, by rw [pko.length_eq]; exact oo.few, fun D ss hD pm so => ?_⟩
      exact q D ss _ (S1.trans (same_new hD)) (pm.trans pko) so upd_same
end
end K14
namespace K14
open PySem L2 PySem.W HT
def strsD : PyData → List Str | .tuple ds => ds.map strOf | _ => []
def keepsR (xs : List Str) (rows : List (List Str)) : Bool := rows.all fun r => decide ((xs.filter fun n => decide (n ∈ r)) = r)
def keptD (rows : List (List Str)) (o : List Str) (d : PyData) : Bool := rowD d && (decide ((strsD d).Perm o) && keepsR (strsD d) rows)
theorem row_is {d : PyData} (h : rowD d = true) : ∃ xs : List Str, d = .tuple (xs.map PyData.str) ∧ xs = strsD d ∧ (∀ x ∈ xs, nameS x = true) ∧ xs.Nodup := by
  cases d with
  | tuple ds =>
    simp only [rowD, Bool.and_eq_true, decide_eq_true_eq] at h
    have e := names_strs h.1
    refine ⟨ds.map strOf, by rw [← e], rfl, fun x hx => ?_, h.2⟩
    obtain ⟨y, hy, rfl⟩ := List.mem_map.mp hx
    have h2 := List.all_eq_true.mp h.1 y hy
    rw [name_str h2] at h2
    exact h2
  | _ => cases h
theorem name_nm {x : Str} (h : nameS x = true) : Nm x := by
  simp only [nameS, Bool.and_eq_true, decide_eq_true_eq, List.all_eq_true] at h
  exact ⟨h.1, h.2.1, fun c hc => h.2.2 c hc⟩
section
variable {P : Program} {w : World} {K : Frag} {mg : Str → Option Value} {base : Heap} {f : Addr} {fd : FuncData}
@[irreducible] def spKp : Sp := fun vs H Q _ => ∃ (p t : Addr) (ws : List V) (rows : List (List Str)) (o : List Str) (v : V) (d : PyData), vs = [.ref t, v] ∧ H t = some (.tup ws) ∧ RowsV H ws rows ∧ Rws rows ∧ NmO rows o ∧ Dt p H v d ∧ Bk d ∧ (∀ ds, d = .tuple ds → ds.length ≤ 60) ∧ ∀ H', Same H H' → Q (.bl (keptD rows o d)) H'
theorem kp_sp {p t : Addr} {ws : List V} {rows : List (List Str)} {o : List Str} {v : V} {d : PyData} {H : Hp} {Q : VK} {E : XK} (ht : H t = some (.tup ws)) (hR : RowsV H ws rows) (hS : Rws rows) (oo : NmO rows o) (r : Dt p H v d) (hb : Bk d) (hl : ∀ ds, d = .tuple ds → ds.length ≤ 60) (q : ∀ H', Same H H' → Q (.bl (keptD rows o d)) H') : spKp [.ref t, v] H Q E := by
  unfold spKp; exact ⟨p, t, ws, rows, o, v, d, rfl, ht, hR, hS, oo, r, hb, hl, q⟩
abbrev nKeeps : List Str := ["rows", "thing"]
theorem scKeeps : FnScope nKeeps ["rows", "thing"] (defScope sKeeps) := ⟨rfl, rfl, rfl, by decide +kernel, rfl, by decide +kernel, by decide +kernel⟩
def cmpL (e : Expr) : Expr := match e with | .Compare l _ _ _ => l | _ => .Constant .none 0 ⟨0, 0, 0, 0⟩
abbrev eKp : Expr := arg0 (retV (bodyAt (defBody sKeeps) 1))
abbrev scKO : Scope := compSc eKp
abbrev scKI : Scope := compSc (arg0 (cmpL (eltOf eKp)))
theorem csKO : CompScope nKeeps (defScope sKeeps) ["row", "thing"] [none, some 1] scKO := ⟨rfl, by decide +kernel, by decide +kernel, rfl, fv_of (by decide +kernel), by decide +kernel⟩
theorem csKI {env : Env} : CompScope ["row", "thing"] (relabel scKO env) ["name", "row"] [none, some 0] scKI := nest rfl (by decide +kernel) (by decide +kernel) rfl (by decide +kernel) (by decide +kernel)
theorem ndKI : (["name", "row"] : List Str).Nodup := by decide +kernel
theorem ok_keeps {fR fW : Addr} {dR dW : FuncData} (F : Fun K "keeps" "keeps" sKeeps f fd) (B : Blt mg) (B2 : Blt2 mg) (GR : FnOk P w K mg base CX0 2 fR dR ["thing"] spRow) (kR : keepIn K (.ref fR) = true) (bR : Binds K dR ["thing"] []) (mR : mg "is_row" = some (.ref fR))
    (GW : FnOk P w K mg base CX0 1 fW dW ["rows"] spNW) (kW : keepIn K (.ref fW) = true) (bW : Binds K dW ["rows"] []) (mW : mg "names_within" = some (.ref fW)) : FnOk P w K mg base CX0 3 f fd ["rows", "thing"] spKp := by
  refine F.ok scKeeps (fun vs H Q E h => ?_) (fun cdv A outer s H vs Q E hr h => ?_)
  · unfold spKp at h; obtain ⟨p, t, ws, rows, o, v, d, rfl, _⟩ := h; rfl
  · unfold spKp at h
    obtain ⟨p, t, ws, rows, o, v, d, rfl, ht, hR, hS, oo, rd, hb, h60, q⟩ := h
    have hr2 : Room 2 _ := hr
    have hr1 : Room 1 _ := hr2.mono (by decide)
    have hu := hr.units
    refine ⟨_, pss_cons (ps_if (PW.pt (pw_or (pt_not (pt_val (pe_call GR hr2 rfl mR kR bR .nil pass0 (pa_cons (pv 1) pa_nil))))
        (pw_or1 (pt_cmpR (op_neD hu) (pe_callB call_sortedT rfl B2.sorted boot_sorted (pa_cons (pv 1) pa_nil)) (pe_call GW hr1 rfl mW kW bW .nil pass0 (pa_cons (pv 0) pa_nil)) (nomark _))))) (pss_one (ps_ret pe_bl)) pss_nil)
      (pss_one (ps_ret (pe_callB (call_allB rfl) rfl B.all boot_all (pa_cons (pe_comp rfl csKO (pi_tup (pv 0)) (fun s H fp => ⟨pg_name (i := 0) csKO.nd rfl (Or.inr rfl), pifs_nil,
        pe_cmpR (op_eqD hu) (pe_callTy (call_tuple_K K rfl) rfl B.tuple boot_tuple (pa_cons (pe_comp rfl csKI (pi_tup_K K rfl (pv 1)) (fun s H fp => ⟨pg_name (i := 0) ndKI rfl (Or.inl rfl), pifs_one (pt_cmpR (op_in_K K rfl) (pv 0) (pv 1) rfl), pv 0⟩)) pa_nil)) (pv 0) (nomark _)⟩)) pa_nil)))), ?_⟩
    refine ⟨_, rfl, row_sp rd hb fun H1 S1 => ⟨_, rfl, ?_⟩⟩
    cases hrw : rowD d with
    | false => have q1 := q _ S1; rw [show keptD rows o d = false by unfold keptD; rw [hrw]; rfl] at q1; exact q1
    | true =>
    obtain ⟨xs, ed, es, nmx, ndx⟩ := row_is hrw
    have nm1' : ∀ x ∈ xs, Nm x := fun x hx => name_nm (nmx x hx)
    rw [show keptD rows o d = (decide (xs.Perm o) && keepsR xs rows) by unfold keptD; rw [hrw, ← es]; rfl] at q
    subst ed
    obtain ⟨oa, vs, rfl, na, ho, rs⟩ := dt_tup rd
    obtain rfl := dts_strs rs
    have hxl : xs.length ≤ 60 := by have := h60 _ rfl; rwa [List.length_map] at this
    have nmo : ∀ y ∈ o, Nm y := fun y hy => by
      obtain ⟨r, hr, h⟩ := (oo.mem y).mp hy
      exact hS.sm.nm r hr y h
    have ho1 := S1 _ _ ho
    refine ⟨_, rfl, oa, xs, rfl, SqT.of ho1, by omega, fun D1 s1 hD1 p1 so1 => ?_⟩
    have S2 := same_new (o := .lst (s1.map V.str)) hD1
    have hD1' : upd H1 D1 (.lst (s1.map V.str)) D1 = some (.lst (s1.map V.str)) := upd_same
    generalize upd H1 D1 (.lst (s1.map V.str)) = H2 at S2 hD1' ⊢
    have S12 := S1.trans S2
    refine ⟨_, rfl, nw_sp (S12 _ _ ht) (hR.same S12) hS.sm oo fun D2 s2 H3 S3 p2 so2 hD2 => ?_⟩
    have nm1 : ∀ y ∈ s1, Nm y := fun y hy => nm1' y (p1.mem_iff.mp hy)
    have nm2 : ∀ y ∈ s2, Nm y := fun y hy => nmo y (p2.mem_iff.mp hy)
    refine ⟨.list _, .list _, .lst (S3 _ _ hD1') (strs_rep _ _), .lst hD2 (strs_rep _ _), strs_lay nm1, strs_lay nm2, ?_, _, rfl, ?_⟩
    · show PyData.depthAll _ + 1 ≤ 60
      rw [strs_depth]; decide
    have e12 : decide (s1 = s2) = decide (xs.Perm o) := decide_eq_decide.mpr ⟨fun e => p1.symm.trans (e ▸ p2), fun pm => sortedS_uniq so1 so2 (p1.trans (pm.trans p2.symm))⟩
    rw [show PyData.eqv (.list (s1.map PyData.str)) (.list (s2.map PyData.str)) = decide (xs.Perm o) by show PyData.eqvAll _ _ = _; rw [strs_eqv, e12]]
    have S := S12.trans S3
    by_cases hpm : xs.Perm o
    case neg =>
      have q1 := q _ S
      rw [decide_eq_false hpm] at q1
      rw [decide_eq_false hpm]; exact q1
    rw [decide_eq_true hpm] at q ⊢
    have ht3 := S _ _ ht
    refine ⟨_, rfl, t, rfl, ⟨_, SqT.of ht3⟩, fun ca hca => ?_⟩
    refine comp_tup (xs := ws) (fun i ys τ H4 => ∃ t0 : Option V, τ = [t0, some (.ref oa)] ∧ ys = ((rows.take i).map fun r => decide ((xs.filter fun n => decide (n ∈ r)) = r)).map V.bl ∧ H4 ca = some (.lst ys) ∧ Same H3 H4) ⟨none, rfl, rfl, upd_same, same_new hca⟩ (fun i ys τ H4 ⟨_, _, _, z, z2⟩ => ⟨z, SqT.of (z2 _ _ ht3)⟩) (fun i x ys τ H4 hx hP => ?_) (fun ys τ H4 hP => ?_)
    · obtain ⟨t0, rfl, rfl, hca4, S4⟩ := hP
      obtain ⟨a, r, rfl, hri, har⟩ := hR.get hx
      have hlt : i < ws.length := (List.getElem?_eq_some_iff.mp hx).1
      have hrm := List.mem_of_getElem? hri
      have ha4 := S4 _ _ (S _ _ har)
      have ho4 := S4 _ _ (S _ _ ho)
      have tk : rows.take (i + 1) = rows.take i ++ [r] := by rw [List.take_succ, hri]; rfl
      refine ⟨_, rfl, oa, rfl, ⟨_, SqT.of ho4⟩, fun ia hia => ?_⟩
      have noi : oa ≠ ia := ne_of_none ho4 hia
      have nai : a ≠ ia := ne_of_none ha4 hia
      refine comp_tup (xs := xs.map V.str) (fun j zs τ' H5 => ∃ t1 : Option V, τ' = [t1, some (.ref a)] ∧ zs = ((xs.take j).filter fun n => decide (n ∈ r)).map V.str ∧ H5 = upd H4 ia (.lst zs)) ⟨none, rfl, rfl, rfl⟩ (fun j zs τ' H5 ⟨_, _, _, z⟩ => by rw [z]; exact ⟨upd_same, SqT.of (by rw [upd_ne noi]; exact ho4)⟩) (fun j x zs τ' H5 hxj hP5 => ?_) (fun zs τ' H5 hP5 => ?_)
      · obtain ⟨t1, rfl, rfl, rfl⟩ := hP5
        have hjl : j < (xs.map V.str).length := (List.getElem?_eq_some_iff.mp hxj).1
        have hjo : j < xs.length := by simpa using hjl
        obtain rfl : V.str xs[j] = x := by simpa [hjo] using hxj
        have tkj : xs.take (j + 1) = xs.take j ++ [xs[j]] := by rw [List.take_succ, List.getElem?_eq_getElem hjo]; rfl
        refine ⟨_, rfl, _, rfl, a, _, rfl, .inr (SqT.of (by rw [upd_ne nai]; exact ha4)), rfl, flat_strs _, _, rfl, ?_⟩
        rw [if_neg Bool.false_ne_true, inV_strs]
        refine ite2 (fun hin => ?_) (fun hin => ?_)
        · refine ⟨_, rfl, upd_same, ?_, cw_next hjl ⟨_, rfl, ?_, by rw [upd_upd]⟩⟩
          · have h1 := List.length_filter_le (fun n => decide (n ∈ r)) (xs.take j)
            have h2 : (xs.take j).length ≤ xs.length := by rw [List.length_take]; omega
            rw [List.length_map, sizeLine_eq]; omega
          · rw [tkj, List.filter_append, List.map_append, List.filter_cons_of_pos (p := fun n => decide (n ∈ r)) (by simpa using hin)]; rfl
        · refine cw_next hjl ⟨_, rfl, ?_, rfl⟩
          rw [tkj, List.filter_append, List.filter_cons_of_neg (p := fun n => decide (n ∈ r)) (by simpa using hin), List.filter_nil, List.append_nil]
      obtain ⟨t1, rfl, rfl, rfl⟩ := hP5
      rw [List.length_map, List.take_length]
      refine ⟨ia, _, rfl, .inl ⟨SqL.of upd_same, fun l hl => ?_⟩⟩
      have nmfl : ∀ y ∈ xs.filter (fun n => decide (n ∈ r)), Nm y := fun y hy => nm1' y (List.mem_filter.mp hy).1
      generalize hfl : (xs.filter fun n => decide (n ∈ r)) = fl at nmfl hl ⊢
      have S5 : Same H4 _ := (same_new (o := .lst (fl.map V.str)) hia).trans (same_new (o := .tup (fl.map V.str)) hl)
      refine ⟨_, rfl, .tuple _, .tuple _, .tup upd_same (strs_rep _ _), .tup (S5 _ _ ha4) (strs_rep _ _), strs_lay nmfl, strs_lay fun y hy => hS.sm.nm r hrm y hy, ?_, ?_⟩
      · show PyData.depthAll _ + 1 ≤ 60
        rw [strs_depth]; decide
      rw [show PyData.eqv (.tuple (fl.map PyData.str)) (.tuple (r.map PyData.str)) = decide (fl = r) by show PyData.eqvAll _ _ = _; rw [strs_eqv]]
      refine ⟨S5 _ _ hca4, ?_, cw_next hlt ⟨_, rfl, ?_, upd_same, fun b ob hb => ?_⟩⟩
      · have := hS.sm.few
        have := hR.length
        rw [List.length_map, List.length_map, List.length_take, sizeLine_eq]; omega
      · rw [tk, List.map_append, List.map_append, List.map_cons, hfl]; rfl
      · rw [upd_ne (ne_of_none hb hca)]; exact S5 _ _ (S4 b ob hb)
    obtain ⟨t0, rfl, rfl, hca4, S4⟩ := hP
    refine ⟨ca, _, rfl, SqL.of hca4, ?_⟩
    have q1 := q _ (S.trans S4)
    rw [hR.length, List.take_length, List.all_map]
    exact q1
end
end K14
namespace K14
open PySem L2 PySem.W HT
theorem keys_putK (kvs : List (Key × V)) (k : Key) (v : V) : (k ∈ kvs.map (·.1) ∧ (putK kvs k v).map (·.1) = kvs.map (·.1)) ∨ (k ∉ kvs.map (·.1) ∧ (putK kvs k v).map (·.1) = kvs.map (·.1) ++ [k]) := by
  have e : (kvs.any fun kv => decide (kv.1 = k)) = true ↔ k ∈ kvs.map (·.1) := by
    rw [List.any_eq_true, List.mem_map]
    exact ⟨fun ⟨x, h, d⟩ => ⟨x, h, of_decide_eq_true d⟩, fun ⟨x, h, d⟩ => ⟨x, h, decide_eq_true d⟩⟩
  unfold putK
  by_cases h : k ∈ kvs.map (·.1)
  · refine .inl ⟨h, ?_⟩
    rw [if_pos (e.mpr h), List.map_map]
    refine List.map_congr_left fun kv _ => ?_
    show (if kv.1 = k then (kv.1, v) else kv).1 = kv.1
    split <;> rfl
  · refine .inr ⟨h, ?_⟩
    rw [if_neg fun z => h (e.mp z), List.map_append]; rfl
theorem put_keys {kvs : List (Key × V)} {ks : List Str} {n : Str} {v : V} (e : kvs.map (·.1) = ks.map Sum.inr) (nd : ks.Nodup) : ∃ ks' : List Str, (putK kvs (Sum.inr n) v).map (·.1) = ks'.map Sum.inr ∧ ks'.Nodup ∧ ∀ y, y ∈ ks' ↔ y = n ∨ y ∈ ks := by
  have im : (Sum.inr n : Key) ∈ ks.map Sum.inr ↔ n ∈ ks := by
    rw [List.mem_map]
    exact ⟨fun ⟨y, hy, e⟩ => by cases e; exact hy, fun h => ⟨n, h, rfl⟩⟩
  rcases keys_putK kvs (Sum.inr n) v with ⟨h, e1⟩ | ⟨h, e1⟩
  · rw [e] at h e1
    exact ⟨ks, e1, nd, fun y => ⟨.inr, fun z => z.elim (fun e => e ▸ im.mp h) id⟩⟩
  · rw [e] at h e1
    refine ⟨ks ++ [n], by rw [e1, List.map_append]; rfl, ?_, fun y => by rw [List.mem_append, List.mem_singleton]; exact Or.comm⟩
    rw [List.nodup_append]
    exact ⟨nd, by simp, fun a ha b hb e => h (im.mpr (by rw [← List.mem_singleton.mp hb, ← e]; exact ha))⟩
theorem ints_rep (H : Hp) : ∀ ns : List Int, RepAll H (ns.map V.int) (ns.map PyData.int)
  | [] => .nil
  | n :: ns => .cons (.int n) (ints_rep H ns)
theorem ints_lay : ∀ ns : List Int, PyData.canLayAll0 (ns.map PyData.int) = true
  | [] => rfl
  | n :: ns => by
    show (PyData.canLay0 (.int n) && PyData.canLayAll0 (ns.map PyData.int)) = true
    rw [ints_lay ns]; rfl
theorem ints_depth : ∀ ns : List Int, PyData.depthAll (ns.map PyData.int) = 0
  | [] => rfl
  | n :: ns => by rw [List.map_cons]; simp only [PyData.depthAll, PyData.depth, ints_depth ns, Nat.max_self]
theorem ints_eqv : ∀ ns ms : List Int, PyData.eqvAll (ns.map PyData.int) (ms.map PyData.int) = decide (ns = ms)
  | [], [] => rfl
  | [], m :: ms => rfl
  | n :: ns, [] => rfl
  | n :: ns, m :: ms => by
    show ((n == m) && PyData.eqvAll (ns.map PyData.int) (ms.map PyData.int)) = _
    rw [ints_eqv ns ms]
    by_cases e : n = m
    · by_cases f : ns = ms <;> simp [e, f]
    · simp [e]
theorem up_filter {o : List Str} (nd : o.Nodup) (p : Str → Bool) : (o.filter p).Pairwise fun a b => o.idxOf a ≤ o.idxOf b := by
  have h : o.Pairwise fun a b => o.idxOf a ≤ o.idxOf b := by
    rw [List.pairwise_iff_getElem]
    intro i j hi hj hij
    rw [idx_at i hi nd, idx_at j hj nd]; omega
  exact h.filter p
theorem idx_inj {o : List Str} {a b : Str} (ha : a ∈ o) (hb : b ∈ o) (e : o.idxOf a = o.idxOf b) : a = b := by
  have h1 := (idx_first ha).1
  have h2 := (idx_first hb).1
  rw [e, h2] at h1
  exact (Option.some.inj h1).symm
theorem place_iff {o r : List Str} (nd : o.Nodup) (nr : r.Nodup) (sub : ∀ n ∈ r, n ∈ o) : (r.map fun n => (o.idxOf n : Int)).Pairwise (· ≤ ·) ↔ (o.filter fun n => decide (n ∈ r)) = r := by
  rw [List.pairwise_map]
  constructor
  · intro h
    refine List.Perm.eq_of_pairwise (le := fun a b => o.idxOf a ≤ o.idxOf b) (fun a b ha hb h1 h2 => idx_inj (List.mem_filter.mp ha).1 (sub b hb) (by omega)) (up_filter nd _) (h.imp fun z => by omega) ?_
    exact (List.perm_ext_iff_of_nodup (nd.filter _) nr).mpr fun x => by
      rw [List.mem_filter, decide_eq_true_eq]
      exact ⟨fun z => z.2, fun z => ⟨sub x z, z⟩⟩
  · intro h
    have := up_filter nd fun n => decide (n ∈ r)
    rw [h] at this
    exact this.imp fun z => by omega
theorem strs_lay' : ∀ {xs : List Str}, (∀ x ∈ xs, PyData.strOk x = true) → PyData.canLayAll0 (xs.map PyData.str) = true
  | [], _ => rfl
  | x :: xs, h => by
    show (PyData.strOk x && PyData.canLayAll0 (xs.map PyData.str)) = true
    rw [h x List.mem_cons_self, strs_lay' fun y hy => h y (List.mem_cons_of_mem _ hy)]; rfl
theorem str_all : ∀ {ds : List PyData}, ds.all (isT "str") = true → ds = (ds.map strOf).map PyData.str
  | [], _ => rfl
  | d :: ds, h => by
    rw [List.all_cons, Bool.and_eq_true] at h
    obtain ⟨x, rfl⟩ := is_str h.1
    rw [List.map_cons, List.map_cons, ← str_all h.2]; rfl
theorem row_strs {ds : List PyData} (h : ds.all (isT "str") = false) : rowD (.tuple ds) = false := by
  cases e : rowD (.tuple ds) with
  | false => rfl
  | true =>
    have h1 : ds.all nameD = true := by simp only [rowD, Bool.and_eq_true] at e; exact e.1
    rw [List.all_eq_true.mpr (fun d hd => by rw [name_str (List.all_eq_true.mp h1 d hd)]; rfl)] at h; cases h
theorem call_isi_K {X : Cx} (K : Frag) (h : X.K = K) : CallR X (.builtin "isinstance") (fun xs H Q => (∃ x, (∃ C, xs = [x, .ref C]) ∨ (∃ T, xs = [x, .ty T])) ∧ rIsi K xs H Q) := by subst h; exact call_isi
section
variable {P : Program} {w : World} {K : Frag} {mg : Str → Option Value} {base : Heap} {f : Addr} {fd : FuncData}
@[irreducible] def spKt : Sp := fun vs H Q _ => ∃ (p t : Addr) (ws : List V) (rows : List (List Str)) (o : List Str) (v : V) (d : PyData), vs = [.ref t, v] ∧ H t = some (.tup ws) ∧ RowsV H ws rows ∧ Rws rows ∧ NmO rows o ∧ Dt p H v d ∧ (∀ ds, d = .tuple ds → ds.length ≤ 60 ∧ ∀ x, PyData.str x ∈ ds → PyData.strOk x = true) ∧ ∀ H', Same H H' → Q (.bl (keptD rows o d)) H'
theorem kt_sp {p t : Addr} {ws : List V} {rows : List (List Str)} {o : List Str} {v : V} {d : PyData} {H : Hp} {Q : VK} {E : XK} (ht : H t = some (.tup ws)) (hR : RowsV H ws rows) (hS : Rws rows) (oo : NmO rows o) (r : Dt p H v d) (hl : ∀ ds, d = .tuple ds → ds.length ≤ 60 ∧ ∀ x, PyData.str x ∈ ds → PyData.strOk x = true) (q : ∀ H', Same H H' → Q (.bl (keptD rows o d)) H') : spKt [.ref t, v] H Q E := by
  unfold spKt; exact ⟨p, t, ws, rows, o, v, d, rfl, ht, hR, hS, oo, r, hl, q⟩
abbrev nKp : List Str := ["_law_rows", "_law_order", "_law_names_here", "_law_row", "_law_name", "_law_places"]
theorem scKp : FnScope nKp ["_law_rows", "_law_order"] (defScope sIsKept) := ⟨rfl, rfl, rfl, by decide +kernel, rfl, by decide +kernel, by decide +kernel⟩
abbrev eP1 : Expr := arg0 (notV (boolN (ifTest (bodyAt (defBody sIsKept) 2)) 1))
abbrev eP2 : Expr := asgV (bodyAt (forBody (bodyAt (defBody sIsKept) 4)) 0)
theorem csP1 : CompScope nKp (defScope sIsKept) ["_law_one"] [none] (compSc eP1) := ⟨rfl, by decide +kernel, by decide +kernel, rfl, fv_of (by decide +kernel), by decide +kernel⟩
theorem csP2 : CompScope nKp (defScope sIsKept) ["_law_name", "_law_order"] [none, some 1] (compSc eP2) := ⟨rfl, by decide +kernel, by decide +kernel, rfl, fv_of (by decide +kernel), by decide +kernel⟩
theorem ok_kp (F : Fun K "_law_is_kept" "_law_is_kept" sIsKept f fd) (B : Blt mg) (B2 : Blt2 mg) : FnOk P w K mg base CX0 1 f fd ["_law_rows", "_law_order"] spKt := by
  refine F.ok scKp (fun vs H Q E h => ?_) (fun cdv A outer s H vs Q E hr h => ?_)
  · unfold spKt at h; obtain ⟨p, t, ws, rows, o, v, dd, rfl, _⟩ := h; rfl
  · unfold spKt at h
    obtain ⟨p, t, ws, rows, o, v, dd, rfl, ht, hR, hS, oo, rd, h60, q⟩ := h
    have hu := hr.units
    have hu1 := Nat.lt_of_le_of_lt (Nat.add_le_add_left (show 1 ≤ 64 by decide) _) hu
    refine ⟨_, pss_cons (ps_set (i := 2) scKp.nd rfl (Or.inl rfl) pe_dnewK)
      (pss_cons (ps_for PassesOwn.never rfl (pi_tup (pv 0)) (pg_name (i := 3) scKp.nd rfl (Or.inl rfl))
        (pss_one (ps_for PassesOwn.never rfl (pi_tup (pv 3)) (pg_name (i := 4) scKp.nd rfl (Or.inl rfl)) (pss_one (ps_dput hu1 (pv 2) (pv 4) pe_bl rfl)))))
      (pss_cons (ps_if (PW.pt (pw_or (pt_not (pt_val (pe_callB call_isi rfl B2.isi boot_isi (pa_cons (pv 1) (pa_cons (pe_bltn (v := .ty "tuple") rfl B.tuple boot_tuple rfl) pa_nil)))))
        (pw_or1 (pt_not (pt_val (pe_callB (call_allB rfl) rfl B.all boot_all (pa_cons (pe_comp rfl csP1 (pi_tup (pv 1)) (fun s H fp => ⟨pg_name (i := 0) csP1.nd rfl (Or.inl rfl), pifs_nil, pe_callB (call_isi_K K rfl) rfl B2.isi boot_isi (pa_cons (pv 0) (pa_cons (pe_bltn (v := .ty "str") rfl B2.str boot_str rfl) pa_nil))⟩)) pa_nil))))))) (pss_one (ps_ret pe_bl)) pss_nil)
      (pss_cons (ps_if (pt_cmpR (op_neD hu) (pe_callB call_sortedT rfl B2.sorted boot_sorted (pa_cons (pv 1) pa_nil)) (pe_callB (call_sortedDk rfl) rfl B2.sorted boot_sorted (pa_cons (pv 2) pa_nil)) (nomark _)) (pss_one (ps_ret pe_bl)) pss_nil)
      (pss_cons (ps_for PassesOwn.never rfl (pi_tup (pv 0)) (pg_name (i := 3) scKp.nd rfl (Or.inl rfl))
        (pss_cons (ps_setComp (i := 5) rfl csP2 scKp.nd rfl rfl (pi_tup (pv 3)) (fun s H fp => ⟨pg_name (i := 0) csP2.nd rfl (Or.inl rfl), pifs_nil, pe_bm_K K rfl PySem.F.plainAttrs_tuple PySem.F.slot_tuple_index PySem.F.type_tuple_index (mt_indexT_K K rfl) (pv 1) (pa_cons (pv 0) pa_nil)⟩))
        (pss_one (ps_if (pt_cmpR (op_neD hu) (pv 5) (pe_callB call_sortedI rfl B2.sorted boot_sorted (pa_cons (pv 5) pa_nil)) (nomark _)) (pss_one (ps_ret pe_bl)) pss_nil))))
      (pss_one (ps_ret pe_bl)))))), ?_⟩
    have nmo : ∀ y ∈ o, Nm y := fun y hy => by
      obtain ⟨r, hr, h⟩ := (oo.mem y).mp hy
      exact hS.sm.nm r hr y h
    have fewo := oo.few
    have few_o : ∀ {ks : List Str}, ks.Nodup → (∀ y ∈ ks, ∃ r ∈ rows, y ∈ r) → ks.length ≤ 63 := fun nd h => Nat.le_trans (few_of nd fun y hy => (oo.mem y).mpr (h y hy)) fewo
    refine fun d hd => ?_
    have Sd := same_new (o := .dK []) hd
    refine ⟨_, rfl, t, rfl, ⟨_, SqT.of (Sd _ _ ht)⟩, for_tup (xs := ws) (fun i σ H1 => ∃ (v3 v4 : Option V) (kvs : List (Key × V)) (ks : List Str), σ = [some (.ref t), some v, some (.ref d), v3, v4, none] ∧ Same H H1 ∧ H1 d = some (.dK kvs) ∧ kvs.map (·.1) = ks.map Sum.inr ∧ ks.Nodup ∧ ∀ y, y ∈ ks ↔ ∃ r ∈ rows.take i, y ∈ r)
      ⟨none, none, [], [], rfl, Sd, upd_same, rfl, List.nodup_nil, fun y => by simp⟩ (fun i σ H1 _ ⟨_, _, _, _, _, z, _⟩ => SqT.of (z _ _ ht)) (fun i x σ H1 hx hP => ?_) (fun σ H1 hP => ?_)⟩
    · obtain ⟨v3, v4, kvs, ks, rfl, S1, hd1, ek, nd, mem⟩ := hP
      obtain ⟨a, r, rfl, hri, har⟩ := hR.get hx
      have hrm := List.mem_of_getElem? hri
      have tk : rows.take (i + 1) = rows.take i ++ [r] := by rw [List.take_succ, hri]; rfl
      refine ⟨_, rfl, a, rfl, ⟨_, SqT.of (S1 _ _ har)⟩, for_tup (xs := r.map V.str) (fun j σ H2 => ∃ (v4 : Option V) (kvs : List (Key × V)) (ks : List Str), σ = [some (.ref t), some v, some (.ref d), some (.ref a), v4, none] ∧ Same H H2 ∧ H2 d = some (.dK kvs) ∧ kvs.map (·.1) = ks.map Sum.inr ∧ ks.Nodup ∧ ∀ y, y ∈ ks ↔ (∃ r ∈ rows.take i, y ∈ r) ∨ y ∈ r.take j)
        ⟨_, kvs, ks, rfl, S1, hd1, ek, nd, fun y => by rw [mem y]; simp⟩ (fun j σ H2 _ ⟨_, _, _, _, z, _⟩ => SqT.of (z _ _ har)) (fun j x σ H2 hx2 hP2 => ?_) (fun σ H2 hP2 => ?_)⟩
      · obtain ⟨v4, kvs, ks, rfl, S2, hd2, ek, nd, mem⟩ := hP2
        have hjr : j < r.length := by simpa using (List.getElem?_eq_some_iff.mp hx2).1
        obtain rfl : V.str r[j] = x := by simpa [hjr] using hx2
        have tkj : r.take (j + 1) = r.take j ++ [r[j]] := by rw [List.take_succ, List.getElem?_eq_getElem hjr]; rfl
        obtain ⟨ks', e1, nd1, m1⟩ := put_keys (n := r[j]) (v := .bl true) ek nd
        have lk : kvs.length ≤ 63 := by
          have := few_o nd fun y hy => by
            rcases (mem y).mp hy with ⟨q, hq, h⟩ | h
            · exact ⟨q, List.mem_of_mem_take hq, h⟩
            · exact ⟨r, hrm, List.mem_of_mem_take h⟩
          have e := congrArg List.length ek
          rw [List.length_map, List.length_map] at e
          omega
        refine ⟨_, rfl, _, rfl, d, _, rfl, DPut.k (k := Sum.inr r[j]) hd2 (by rw [sizeLine_eq]; omega), ?_⟩
        refine ⟨_, _, ks', rfl, fun b u e => ?_, upd_same, e1, nd1, fun y => ?_⟩
        · rw [upd_ne (ne_of_none e hd)]; exact S2 b u e
        · rw [m1 y, mem y, tkj, List.mem_append, List.mem_singleton]
          constructor
          · rintro (z | z | z)
            · exact .inr (.inr z)
            · exact .inl z
            · exact .inr (.inl z)
          · rintro (z | z | z)
            · exact .inr (.inl z)
            · exact .inr (.inr z)
            · exact .inl z
      · obtain ⟨v4, kvs, ks, rfl, S2, hd2, ek, nd, mem⟩ := hP2
        rw [List.length_map, List.take_length] at mem
        refine ⟨_, _, kvs, ks, rfl, S2, hd2, ek, nd, fun y => ?_⟩
        rw [mem y, tk]
        constructor
        · rintro (⟨q, hq, h⟩ | h)
          · exact ⟨q, List.mem_append_left _ hq, h⟩
          · exact ⟨r, List.mem_append_right _ (List.mem_singleton.mpr rfl), h⟩
        · rintro ⟨q, hq, h⟩
          rcases List.mem_append.mp hq with z | z
          · exact .inl ⟨q, z, h⟩
          · rw [List.mem_singleton.mp z] at h; exact .inr h
    · obtain ⟨v3, v4, kvs, ks, rfl, S1, hd1, ek, nd, mem⟩ := hP
      rw [hR.length, List.take_length] at mem
      have rd1 := Dt.same rd S1
      have pko : ks.Perm o := (List.perm_ext_iff_of_nodup nd oo.nd).mpr fun y => by rw [mem y, oo.mem y]
      have q0 := q _ S1
      refine ⟨_, rfl, isi_sp kit_tuple rd1 ⟨_, rfl, ?_⟩⟩
      cases htp : isT "tuple" dd with
      | false => rw [show keptD rows o dd = false by unfold keptD; rw [row_no htp]; rfl] at q0; exact q0
      | true =>
      obtain ⟨ds, rfl⟩ := is_tup htp
      obtain ⟨oa, vs, rfl, na, ho, rs⟩ := dt_tup rd
      obtain ⟨h60, hok⟩ := h60 ds rfl
      have ho1 := S1 _ _ ho
      refine ⟨_, rfl, oa, rfl, ⟨_, SqT.of ho1⟩, fun c1 hc1 => comp_ask (g := isT "str") ho1 (Dts.same rs S1) hc1 (by omega) (fun v' d' H1' Q1 hd' S1' rd' k => ⟨_, rfl, isi_sp kit_str rd' (k _ (Same.refl _))⟩) fun H2 S2 h2 => ⟨c1, _, rfl, SqL.of h2, _, rfl, ?_⟩⟩
      rw [List.all_map, show (id ∘ isT "str") = isT "str" from rfl]
      have S12 := S1.trans S2
      cases hal : ds.all (isT "str") with
      | false => have q1 := q _ S12; rw [show keptD rows o (.tuple ds) = false by unfold keptD; rw [row_strs hal]; rfl] at q1; exact q1
      | true =>
      have es := str_all hal
      obtain ⟨xs, hxs⟩ : ∃ xs, ds.map strOf = xs := ⟨_, rfl⟩
      rw [hxs] at es
      have ekd : keptD rows o (.tuple ds) = (rowD (.tuple ds) && (decide (xs.Perm o) && keepsR xs rows)) := by unfold keptD; rw [show strsD (.tuple ds) = xs from hxs]
      obtain rfl : vs = xs.map V.str := dts_strs (by rw [← es]; exact rs)
      have hxl : xs.length ≤ 60 := by rw [← hxs, List.length_map]; exact h60
      have hok' : ∀ x ∈ xs, PyData.strOk x = true := fun x hx => hok x (by rw [es]; exact List.mem_map.mpr ⟨x, hx, rfl⟩)
      have ho2 := S2 _ _ ho1
      have hd2 := S2 _ _ hd1
      refine ⟨_, rfl, oa, xs, rfl, SqT.of ho2, by omega, fun D1 s1 hD1 p1 so1 => ?_⟩
      have S3 := same_new (o := .lst (s1.map V.str)) hD1
      refine ⟨_, rfl, d, kvs, ks, rfl, S3 _ _ hd2, ek, by rw [pko.length_eq]; exact oo.few, fun D2 s2 hD2 p2 so2 => ?_⟩
      have S4 := same_new (o := .lst (s2.map V.str)) hD2
      have ok1 : ∀ y ∈ s1, PyData.strOk y = true := fun y hy => hok' y (p1.mem_iff.mp hy)
      have nm2 : ∀ y ∈ s2, Nm y := fun y hy => nmo y ((p2.trans pko).mem_iff.mp hy)
      refine ⟨.list _, .list _, .lst (S4 _ _ upd_same) (strs_rep _ _), .lst upd_same (strs_rep _ _), strs_lay' ok1, strs_lay nm2, ?_, _, rfl, ?_⟩
      · show PyData.depthAll _ + 1 ≤ 60
        rw [strs_depth]; decide
      have e12 : decide (s1 = s2) = decide (xs.Perm o) := decide_eq_decide.mpr ⟨fun e => p1.symm.trans (e ▸ p2.trans pko), fun pm => sortedS_uniq so1 so2 (p1.trans (pm.trans (pko.symm.trans p2.symm)))⟩
      rw [show PyData.eqv (.list (s1.map PyData.str)) (.list (s2.map PyData.str)) = decide (xs.Perm o) by show PyData.eqvAll _ _ = _; rw [strs_eqv, e12]]
      have S5 := S1.trans (S2.trans (S3.trans S4))
      generalize upd (upd H2 D1 (.lst (s1.map V.str))) D2 (.lst (s2.map V.str)) = H3 at S5 ⊢
      rw [ekd] at q
      by_cases hpm : xs.Perm o
      case neg =>
        have q1 := q _ S5
        rw [decide_eq_false hpm, Bool.false_and, Bool.and_false] at q1
        rw [decide_eq_false hpm]; exact q1
      have ndx : xs.Nodup := hpm.nodup_iff.mpr oo.nd
      have hrow : rowD (.tuple ds) = true := by
        show (ds.all nameD && decide (ds.map strOf).Nodup) = true
        rw [hxs, decide_eq_true ndx, Bool.and_true, List.all_eq_true]
        intro y hy
        rw [es] at hy
        obtain ⟨x, hx, rfl⟩ := List.mem_map.mp hy
        exact nm_name (nmo x (hpm.mem_iff.mp hx))
      rw [hrow, decide_eq_true hpm, Bool.true_and, Bool.true_and] at q
      rw [decide_eq_true hpm]
      refine ⟨_, rfl, t, rfl, ⟨_, SqT.of (S5 _ _ ht)⟩, for_tup (xs := ws) (fun i σ H4 => ∃ (v3 v4 v5 : Option V), σ = [some (.ref t), some (.ref oa), some (.ref d), v3, v4, v5] ∧ Same H H4 ∧ keepsR xs (rows.take i) = true) ⟨_, _, _, rfl, S5, rfl⟩ (fun i σ H4 _ ⟨_, _, _, _, z, _⟩ => SqT.of (z _ _ ht)) (fun i x σ H4 hx hP => ?_) (fun σ H4 hP => ?_)⟩
      · obtain ⟨v3, v4, v5, rfl, S, hkp⟩ := hP
        obtain ⟨a, r, rfl, hri, har⟩ := hR.get hx
        have hrm := List.mem_of_getElem? hri
        have hrl := hS.sm.short r hrm
        have tk : rows.take (i + 1) = rows.take i ++ [r] := by rw [List.take_succ, hri]; rfl
        have sub : ∀ n ∈ r, n ∈ xs := fun n hn => hpm.mem_iff.mpr ((oo.mem n).mpr ⟨r, hrm, hn⟩)
        have ha4 := S _ _ har
        have ho4 := S _ _ ho
        refine ⟨_, rfl, a, rfl, ⟨_, SqT.of ha4⟩, fun l hl => ?_⟩
        have ho5 : ∀ u, upd H4 l u oa = some (.tup (xs.map V.str)) := fun u => by rw [upd_ne (ne_of_none ho4 hl)]; exact ho4
        refine comp_tup (xs := r.map V.str) (fun j ys τ H5 => ∃ t0 : Option V, τ = [t0, some (.ref oa)] ∧ ys = ((r.take j).map fun n => (xs.idxOf n : Int)).map V.int ∧ H5 = upd H4 l (.lst ys)) ⟨none, rfl, rfl, rfl⟩ (fun j ys τ H5 ⟨_, _, _, z⟩ => by rw [z]; exact ⟨upd_same, SqT.of (by rw [upd_ne (ne_of_none ha4 hl)]; exact ha4)⟩) (fun j x ys τ H5 hx5 hP5 => ?_) (fun ys τ H5 hP5 => ?_)
        · obtain ⟨t0, rfl, rfl, rfl⟩ := hP5
          have hjl : j < (r.map V.str).length := (List.getElem?_eq_some_iff.mp hx5).1
          have hjr : j < r.length := by simpa using hjl
          obtain rfl : V.str r[j] = x := by simpa [hjr] using hx5
          have tkj : r.take (j + 1) = r.take j ++ [r[j]] := by rw [List.take_succ, List.getElem?_eq_getElem hjr]; rfl
          obtain ⟨i1, i2⟩ := idx_first (sub r[j] (List.getElem_mem hjr))
          refine ⟨_, rfl, .inr (.inr (.inr (.inr ⟨rfl, _, Rd.of (ho5 _)⟩))), _, rfl, oa, xs, r[j], xs.idxOf r[j], rfl, rfl, SqT.of (ho5 _), i1, i2, upd_same, ?_, cw_next hjl ⟨_, rfl, ?_, by rw [upd_upd]⟩⟩
          · rw [List.length_map, List.length_map, List.length_take, sizeLine_eq]; omega
          · rw [tkj, List.map_append, List.map_append]; rfl
        obtain ⟨t0, rfl, rfl, rfl⟩ := hP5
        rw [List.length_map, List.take_length]
        have piff := place_iff ndx (hS.nd r hrm) sub
        obtain ⟨ns, hns⟩ : ∃ ns, (r.map fun n => (xs.idxOf n : Int)) = ns := ⟨_, rfl⟩
        rw [hns] at piff ⊢
        have S6 := same_new (o := .lst (ns.map V.int)) hl
        refine ⟨_, rfl, _, rfl, l, ns, rfl, SqL.of upd_same, by rw [← hns, List.length_map]; omega, fun D ns' hD pm so => ?_⟩
        have S7 := same_new (o := .lst (ns'.map V.int)) hD
        refine ⟨.list _, .list _, .lst (S7 _ _ upd_same) (ints_rep _ _), .lst upd_same (ints_rep _ _), ints_lay _, ints_lay _, ?_, _, rfl, ?_⟩
        · show PyData.depthAll _ + 1 ≤ 60
          rw [ints_depth]; decide
        have en : decide (ns = ns') = decide ((xs.filter fun n => decide (n ∈ r)) = r) := decide_eq_decide.mpr ⟨fun e => piff.mp (e ▸ so), fun z => (List.Perm.eq_of_pairwise (fun _ _ _ _ a b => Int.le_antisymm a b) so (piff.mpr z) pm).symm⟩
        rw [show PyData.eqv (.list (ns.map PyData.int)) (.list (ns'.map PyData.int)) = decide ((xs.filter fun n => decide (n ∈ r)) = r) by show PyData.eqvAll _ _ = _; rw [ints_eqv, en]]
        have S57 := S.trans (S6.trans S7)
        by_cases hk : (xs.filter fun n => decide (n ∈ r)) = r
        · rw [decide_eq_true hk]
          refine ⟨_, _, _, rfl, S57, ?_⟩
          rw [tk]; unfold keepsR at hkp ⊢
          rw [List.all_append, hkp, List.all_cons, decide_eq_true hk]; rfl
        · rw [decide_eq_false hk]
          have q1 := q _ S57
          rw [show keepsR xs rows = false by
            cases e : keepsR xs rows with
            | false => rfl
            | true => exact absurd (of_decide_eq_true (List.all_eq_true.mp e r hrm)) hk] at q1
          exact q1
      · obtain ⟨v3, v4, v5, rfl, S, hkp⟩ := hP
        rw [hR.length, List.take_length] at hkp
        have q1 := q _ S
        rw [hkp] at q1
        exact q1
end
end K14
namespace K14
open PySem L2 PySem.W HT
section
variable {X : Cx} {es : List Expr} {t : TA} {te : TE}
theorem ps_ifRet {c e : Expr} {pos p2} {tc : TT} (hc : PT X c tc) (he : PE X e te) : PS X (.If c [.Return (some e) p2] [] pos) (tIfS tc (tRet te) tNext) := ps_if hc (pss_one (ps_ret he)) pss_nil
theorem pss_ret {e : Expr} {p2} (he : PE X e te) : PSs X [.Return (some e) p2] (tRet te) := pss_one (ps_ret he)
theorem pa_I {i j pos} (hr : PA X es t) : PA X (.Constant (.int i) j pos :: es) (tCons (tC (.int i)) t) := pa_cons pe_int hr
theorem pa_T {fs x1 pos} {t1 : TA} (h : PA X fs t1) (hr : PA X es t) : PA X (.Tuple fs x1 pos :: es) (tCons (tTup t1) t) := pa_cons (pe_tup h) hr
theorem pa_L {fs pos} {t1 : TA} (h : PA X fs t1) (hr : PA X es t) : PA X (.List fs pos :: es) (tCons (tLst t1) t) := pa_cons (pe_lst h) hr
theorem pa_D {pos} (hr : PA X es t) : PA X (.Dict [] [] pos :: es) (tCons tDNewK t) := pa_cons pe_dnewK hr
end
theorem strs_pot {p a : Addr} {H : Hp} {xs : List Str} (h : PotOk p H) (e : H a = some (.lst (xs.map V.str))) : a ≠ p := by
  rintro rfl
  obtain ⟨x, y, e2, _⟩ := h
  rw [e] at e2
  have e3 : xs.map V.str = [.int x, .int y] := HO.lst.inj (Option.some.inj e2)
  cases xs with
  | nil => cases e3
  | cons z t => cases e3
theorem pot_tup {p : Addr} {H H' : Hp} (pk : PotOk p H) (pa : PotAt p H H') : ∀ b xs, H b = some (.tup xs) → H' b = some (.tup xs) := fun b xs e => by
  obtain ⟨x, y, e0, _⟩ := pk
  exact pa.kp b _ e (ne_of e e0 (by intro z; cases z))
theorem pot_same {p : Addr} {H H' : Hp} (h : PotOk p H) (S : Same H H') : PotOk p H' := by
  obtain ⟨x, y, e, r⟩ := h
  exact ⟨x, y, S _ _ e, r⟩
theorem pot_of_same {p : Addr} {H H' : Hp} (h : PotOk p H) (S : Same H H') : PotAt p H H' := ⟨pot_same h S, fun _ _ e _ => S _ _ e⟩
theorem Dts.pot {p : Addr} {H H' : Hp} {vs : List V} {ds : List PyData} (r : Dts p H vs ds) (a : PotAt p H H') : Dts p H' vs ds := r.keep fun b o e n => a.kp b o e n
theorem pot_tupne {p b : Addr} {xs : List V} {H : Hp} (h : PotOk p H) (e : H b = some (.tup xs)) : b ≠ p := by
  obtain ⟨x, y, e0, _⟩ := h
  exact ne_of e e0 (by intro z; cases z)
def okL : PyData → Bool | .str x => PyData.strOk x | _ => true
structure Th (n k : Nat) (d : PyData) : Prop where
  bulk : d.bulk ≤ n
  items : ∀ ds, d = .tuple ds → ds.length ≤ k ∧ ∀ e ∈ ds, okL e = true
theorem Th.mono {n k n' k' : Nat} {d : PyData} (g : Th n k d) (h1 : n ≤ n') (h2 : k ≤ k') : Th n' k' d := ⟨Nat.le_trans g.bulk h1, fun ds e => ⟨Nat.le_trans (g.items ds e).1 h2, (g.items ds e).2⟩⟩
structure Od (d : PyData) : Prop where
  th : Th 10 1 d
  ok : okL d = true
theorem od_dec {d : PyData} (h1 : d.bulk ≤ 10) (h2 : okL d = true) (h3 : match d with | .tuple ds => ds.length ≤ 1 ∧ ∀ e ∈ ds, okL e = true | _ => True) : Od d := ⟨⟨h1, fun ds e => by subst e; exact h3⟩, h2⟩
section
variable {P : Program} {w : World} {K : Frag} {mg : Str → Option Value} {base : Heap} {f : Addr} {fd : FuncData}
@[irreducible] def spTd : Sp := fun vs H Q _ => ∃ a b : Bool, vs = [.bl a, .bl b] ∧ Q (.bl (a == b)) H
theorem td_sp {a b : Bool} {H : Hp} {Q : VK} {E : XK} (q : Q (.bl (a == b)) H) : spTd [.bl a, .bl b] H Q E := by unfold spTd; exact ⟨a, b, rfl, q⟩
abbrev nTd : List Str := ["_law_told", "_law_due"]
theorem scTd : FnScope nTd nTd (defScope sTold) := ⟨rfl, rfl, rfl, by decide +kernel, rfl, by decide +kernel, by decide +kernel⟩
theorem ok_td (F : Fun K "_law_is_told" "_law_is_told" sTold f fd) : FnOk P w K mg base CX0 1 f fd nTd spTd := by
  refine F.ok scTd (fun vs H Q E h => ?_) (fun cdv A outer s H vs Q E hr h => ?_)
  · unfold spTd at h; obtain ⟨a, b, rfl, _⟩ := h; rfl
  · unfold spTd at h
    obtain ⟨a, b, rfl, q⟩ := h
    refine ⟨_, pss_one (ps_ret (pe_and (pe_cmpR op_eq (pe_cmpR op_isB (pv 0) pe_bl (nomark _)) (pv 1) (nomark _)) (pe_one (pe_cmpR op_eq (pe_cmpR op_isB (pv 0) pe_bl (nomark _)) (pe_not (pv 1)) (nomark _))))), ?_⟩
    refine ⟨_, rfl, a, true, rfl, rfl, _, rfl, rfl, ?_⟩
    cases a <;> cases b
    · exact ⟨_, rfl, _, rfl, _, _, rfl, rfl, _, rfl, _, rfl, rfl, q⟩
    · exact ⟨_, rfl, q⟩
    · exact ⟨_, rfl, q⟩
    · exact ⟨_, rfl, _, rfl, _, _, rfl, rfl, _, rfl, _, rfl, rfl, q⟩
abbrev OddQ (p : Addr) (H : Hp) (Q : VK) : Prop := ∀ (u : V) (e : PyData) (H' : Hp), PotAt p H H' → Dt p H' u e → Od e → Q u H'
@[irreducible] def spOdd : Sp := fun vs H Q _ => ∃ (p l : Addr) (ys : List Str), vs = [.ref p, .ref l] ∧ PotOk p H ∧ H l = some (.lst (ys.map V.str)) ∧ (∀ y ∈ ys, Nm y) ∧ ys.length ≤ 20 ∧ OddQ p H Q
theorem odd_sp {p l : Addr} {ys : List Str} {H : Hp} {Q : VK} {E : XK} (h : PotOk p H) (hl : H l = some (.lst (ys.map V.str))) (nm : ∀ y ∈ ys, Nm y) (h20 : ys.length ≤ 20) (q : OddQ p H Q) : spOdd [.ref p, .ref l] H Q E := by unfold spOdd; exact ⟨p, l, ys, rfl, h, hl, nm, h20, q⟩
abbrev nOdd : List Str := ["_law_pot_here", "_law_names_here", "_law_some", "_law_at"]
theorem scOdd : FnScope nOdd ["_law_pot_here", "_law_names_here"] (defScope sOdd) := ⟨rfl, rfl, rfl, by decide +kernel, rfl, by decide +kernel, by decide +kernel⟩
theorem pick {c p : Addr} {xs : List V} {j : Nat} {H : Hp} {Q : VK} (hc : H c = some (.lst xs)) (hj : j < xs.length) (all : ∀ x ∈ xs, ∃ e, Dt p H x e ∧ Od e) (q : ∀ u e, Dt p H u e → Od e → Q u H) : rIxL K (.ref c) (.int (j : Int)) H Q := by
  obtain ⟨e, r, g⟩ := all xs[j] (List.getElem_mem hj)
  exact ⟨c, xs, _, xs[j], rfl, rfl, SqL.of hc, atI_nat (List.getElem?_eq_getElem hj), q _ e r g⟩
theorem od_name {x : Str} (h : Nm x) : Od (.str x) := ⟨⟨Nat.le_trans h.hi (by decide), fun ds e => by cases e⟩, nm_ok h⟩
end
end K14
namespace K14
open PySem L2 PySem.W HT
def cV : Expr → Option V
  | .Constant .none _ _ => some .non
  | .Constant (.bool b) _ _ => some (.bl b)
  | .Constant (.int i) _ _ => some (.int i)
  | .Constant (.str x) _ _ => some (.str x)
  | .UnaryOp .USub (.Constant (.int i) _ _) _ => some (.int (-i))
  | _ => none
section
variable {X : Cx}
theorem pe_cV {e : Expr} {v : V} (h : cV e = some v) : PE X e (tC v) := by
  unfold cV at h
  split at h
  · cases h; exact pe_non
  · cases h; exact pe_bl
  · cases h; exact pe_int
  · cases h; exact pe_str
  · cases h; exact fun pins s σ H Q I q => pe_un un_neg pe_int pins s σ H Q I ⟨_, rfl, q⟩
  · cases h
theorem cV_plain {e : Expr} {v : V} {es : List Expr} (h : cV e = some v) : starEach (e :: es) X.env = (false, eval e X.env) :: starEach es X.env := by
  unfold cV at h
  split at h <;> first | rfl | cases h
theorem pa_consts {rest : List Expr} {t : TA} (hr : PA X rest t) : ∀ {es : List Expr} {vs : List V}, es.map cV = vs.map some → PA X (es ++ rest) (fun σ H Q => t σ H fun xs H2 => Q (vs ++ xs) H2)
  | [], [], _ => hr
  | [], v :: vs, h => by cases h
  | e :: es, [], h => by cases h
  | e :: es, v :: vs, h => by
    rw [List.map_cons, List.map_cons, List.cons.injEq] at h
    exact pa_cons (pe_cV h.1) (pa_consts hr h.2) (cV_plain h.1)
end
end K14
namespace K14
open PySem L2 PySem.W HT
def listEs (e : Expr) : List Expr := match e with | .List es _ => es | _ => []
abbrev esOdd : List Expr := listEs (asgV (bodyAt (defBody sOdd) 0))
abbrev vsOdd : List V := [.non, .bl true, .bl false, .int (-1), .int 0, .int 1, .int 5, .int 6, .str "", .str "none", .str "0"]
abbrev tOdd5 : TA := tCons (tTup tNil) (tCons (tLst tNil) (tCons tDNewK (tCons (tLst (tCons (tC (.int 0)) tNil)) (tCons (tTup (tCons (tC (.int 0)) tNil)) tNil))))
theorem c11 : (esOdd.take 11).map cV = vsOdd.map some := by decide +kernel
theorem r11 {X : Cx} : PA X (esOdd.drop 11) tOdd5 := pa_T pa_nil (pa_L pa_nil (pa_D (pa_L (pa_I pa_nil) (pa_T (pa_I pa_nil) pa_nil))))
theorem pa_odd {X : Cx} : PA X esOdd (fun σ H Q => tOdd5 σ H fun xs H2 => Q (vsOdd ++ xs) H2) := by
  have h := pa_consts (X := X) r11 c11
  rw [List.take_append_drop] at h
  exact h
section
variable {P : Program} {w : World} {K : Frag} {mg : Str → Option Value} {base : Heap} {f : Addr} {fd : FuncData}
theorem ok_odd {fD : Addr} {dD : FuncData} (F : Fun K "_law_odd" "_law_odd" sOdd f fd) (B : Blt mg)
    (GD : FnOk P w K mg base CX0 1 fD dD ["_law_pot_here", "_law_many"] spDigit) (kD : keepIn K (.ref fD) = true) (bD : Binds K dD ["_law_pot_here", "_law_many"] []) (mD : mg "_law_digit" = some (.ref fD)) : FnOk P w K mg base CX0 2 f fd ["_law_pot_here", "_law_names_here"] spOdd := by
  refine F.ok scOdd (fun vs H Q E h => ?_) (fun cdv A outer s H vs Q E hr h => ?_)
  · unfold spOdd at h; obtain ⟨p, l, ys, rfl, _⟩ := h; rfl
  · unfold spOdd at h
    obtain ⟨p, l, ys, rfl, pk, hl, nm, h20, q⟩ := h
    have hr1 : Room 1 _ := hr
    have hu := hr.units
    refine ⟨_, pss_cons (ps_set (i := 2) scOdd.nd rfl (Or.inl rfl) (pe_lst pa_odd))
      (pss_cons (ps_set (i := 3) scOdd.nd rfl (Or.inl rfl) (pe_call GD hr1 rfl mD kD bD .nil pass0 (pa_cons (pv 0) (pa_cons (pe_op op_add (pe_callB call_len_seq rfl B.len boot_len (pa_cons (pv 2) pa_nil)) pe_int) pa_nil))))
      (pss_cons (ps_ifRet (pt_cmpR op_lt (pv 3) (pe_callB call_len_seq rfl B.len boot_len (pa_cons (pv 2) pa_nil)) (nomark _)) (pe_ix ix_list (pv 2) (pv 3) (fun _ _ => rfl)))
      (pss_cons (ps_ifRet (pt_cmpR (op_eqD hu) (pv 1) (pe_lst pa_nil) (nomark _)) pe_str)
      (pss_ret (pe_ix ix_list (pv 1) (pe_op op_mod (pv 3) (pe_callB call_len_seq rfl B.len boot_len (pa_cons (pv 1) pa_nil))) (fun _ _ => rfl)))))), ?_⟩
    have nlp : l ≠ p := strs_pot pk hl
    refine ⟨Nat.zero_le _, fun t1 ht1 => ⟨Nat.zero_le _, fun t2 ht2 => fun t3 ht3 => ⟨by show 1 ≤ sizeLine; rw [sizeLine_eq]; decide, fun t4 ht4 => ⟨by show 1 ≤ sizeLine; rw [sizeLine_eq]; decide, fun t5 ht5 => ⟨by show 16 ≤ sizeLine; rw [sizeLine_eq]; decide, fun c hc => ?_⟩⟩⟩⟩⟩
    have g1 := (PotAt.refl pk).new (o := .tup []) ht1
    have g2 := g1.new (o := .lst []) ht2
    have g3 := g2.new (o := .dK []) ht3
    have g4 := g3.new (o := .lst [V.int 0]) ht4
    have g5 := g4.new (o := .tup [V.int 0]) ht5
    have k2 := same_new (o := .lst []) ht2
    have k3 := same_new (o := .dK []) ht3
    have k4 := same_new (o := .lst [V.int 0]) ht4
    have k5 := same_new (o := .tup [V.int 0]) ht5
    have g6 := g5.new (o := .lst (vsOdd ++ [.ref t1, .ref t2, .ref t3, .ref t4, .ref t5])) hc
    have k6 := same_new (o := .lst (vsOdd ++ [.ref t1, .ref t2, .ref t3, .ref t4, .ref t5])) hc
    have n1 : t1 ≠ p := Ne.symm (pk.ne ht1)
    have n2 : t2 ≠ p := Ne.symm (g1.ok.ne ht2)
    have n3 : t3 ≠ p := Ne.symm (g2.ok.ne ht3)
    have n4 : t4 ≠ p := Ne.symm (g3.ok.ne ht4)
    have n5 : t5 ≠ p := Ne.symm (g4.ok.ne ht5)
    have n6 : c ≠ p := Ne.symm (g5.ok.ne hc)
    have a1 := k6 _ _ (k5 _ _ (k4 _ _ (k3 _ _ (k2 _ _ (upd_same (H := H) (a := t1) (o := .tup []))))))
    have a2 := k6 _ _ (k5 _ _ (k4 _ _ (k3 _ _ (upd_same (H := upd H t1 (.tup [])) (a := t2) (o := .lst [])))))
    have a3 := k6 _ _ (k5 _ _ (k4 _ _ (upd_same (H := upd (upd H t1 (.tup [])) t2 (.lst [])) (a := t3) (o := .dK []))))
    have a4 := k6 _ _ (k5 _ _ (upd_same (H := upd (upd (upd H t1 (.tup [])) t2 (.lst [])) t3 (.dK [])) (a := t4) (o := .lst [V.int 0])))
    have a5 := k6 _ _ (upd_same (H := upd (upd (upd (upd H t1 (.tup [])) t2 (.lst [])) t3 (.dK [])) t4 (.lst [V.int 0])) (a := t5) (o := .tup [V.int 0]))
    have a6 := upd_same (H := upd (upd (upd (upd (upd H t1 (.tup [])) t2 (.lst [])) t3 (.dK [])) t4 (.lst [V.int 0])) t5 (.tup [V.int 0])) (a := c) (o := .lst (vsOdd ++ [.ref t1, .ref t2, .ref t3, .ref t4, .ref t5]))
    refine ⟨_, rfl, _, rfl, c, _, rfl, .inl (SqL.of a6), _, _, rfl, rfl, ?_⟩
    refine digit_sp (p := p) (m := 24) g6.ok (by decide) (by decide) fun at_ H7 b0 b1 p7 => ?_
    obtain ⟨j, rfl⟩ := Int.eq_ofNat_of_zero_le b0
    have g7 := g6.trans p7
    have c7 := p7.kp _ _ a6 n6
    refine ⟨_, rfl, _, rfl, c, _, rfl, .inl (SqL.of c7), _, _, rfl, rfl, _, rfl, ?_⟩
    refine ite2 (fun h0 => ?_) (fun h0 => ?_)
    · have hj : (j : Int) < 16 := of_decide_eq_true h0
      refine ⟨_, rfl, _, rfl, ?_⟩
      refine pick (p := p) c7 (show j < 16 by omega) (fun x hx => ?_) fun u e r g => q u e _ g7 r g
      have hx' : x ∈ ([.non, .bl true, .bl false, .int (-1), .int 0, .int 1, .int 5, .int 6, .str "", .str "none", .str "0", .ref t1, .ref t2, .ref t3, .ref t4, .ref t5] : List V) := hx
      simp only [List.mem_cons, List.not_mem_nil, or_false] at hx'
      rcases hx' with rfl | rfl | rfl | rfl | rfl | rfl | rfl | rfl | rfl | rfl | rfl | rfl | rfl | rfl | rfl | rfl
      · exact ⟨_, .non, od_dec (by decide) rfl trivial⟩
      · exact ⟨_, .bl _, od_dec (by decide) rfl trivial⟩
      · exact ⟨_, .bl _, od_dec (by decide) rfl trivial⟩
      · exact ⟨_, .int _, od_dec (by decide) rfl trivial⟩
      · exact ⟨_, .int _, od_dec (by decide) rfl trivial⟩
      · exact ⟨_, .int _, od_dec (by decide) rfl trivial⟩
      · exact ⟨_, .int _, od_dec (by decide) rfl trivial⟩
      · exact ⟨_, .int _, od_dec (by decide) rfl trivial⟩
      · exact ⟨_, .str _, od_dec (by decide +kernel) (by decide +kernel) trivial⟩
      · exact ⟨_, .str _, od_dec (by decide +kernel) (by decide +kernel) trivial⟩
      · exact ⟨_, .str _, od_dec (by decide +kernel) (by decide +kernel) trivial⟩
      · exact ⟨.tuple [], .tup n1 (p7.kp _ _ a1 n1) .nil, od_dec (by decide) rfl ⟨by decide, fun e he => (by cases he)⟩⟩
      · exact ⟨.list [], .lst n2 (p7.kp _ _ a2 n2) .nil, od_dec (by decide) rfl trivial⟩
      · exact ⟨.dict [], .dct n3 (p7.kp _ _ a3 n3), od_dec (by decide) rfl trivial⟩
      · exact ⟨.list [.int 0], .lst n4 (p7.kp _ _ a4 n4) (.cons (.int _) .nil), od_dec (by decide) rfl trivial⟩
      · exact ⟨.tuple [.int 0], .tup n5 (p7.kp _ _ a5 n5) (.cons (.int _) .nil), od_dec (by decide) rfl ⟨by decide, fun e he => by rw [List.mem_singleton.mp he]; rfl⟩⟩
    have hl7 := g7.kp _ _ hl nlp
    refine ⟨_, rfl, Nat.zero_le _, fun e0 he0 => ?_⟩
    have g8 := g7.new (o := .lst []) he0
    have hl8 : upd H7 e0 (.lst []) l = some (.lst (ys.map V.str)) := by rw [upd_ne (ne_of_none hl7 he0)]; exact hl7
    refine eq_nil hl8 upd_same nm ⟨_, rfl, ?_⟩
    cases hy : ys.isEmpty with
    | true => exact q _ _ _ g8 (.str _) (od_dec (by decide +kernel) (by decide +kernel) trivial)
    | false =>
      have hpos : 0 < ys.length := by cases ys with
        | nil => cases hy
        | cons _ _ => simp
      refine ⟨_, rfl, _, rfl, _, rfl, l, _, rfl, .inl (SqL.of hl8), ?_⟩
      rw [List.length_map]
      refine ⟨_, _, rfl, rfl, by omega, ?_⟩
      show rIxL K (.ref l) (.int ((j : Int) % (ys.length : Int))) _ _
      rw [← Int.natCast_emod]
      have hm : j % ys.length < ys.length := Nat.mod_lt _ hpos
      exact ⟨l, _, _, .str ys[j % ys.length], rfl, rfl, SqL.of hl8, atI_nat (by rw [List.getElem?_map, List.getElem?_eq_getElem hm]; rfl), q _ _ _ g8 (.str _) (od_name (nm _ (List.getElem_mem hm)))⟩
end
end K14
namespace K14
open PySem L2 PySem.W HT
section
variable {P : Program} {w : World} {K : Frag} {mg : Str → Option Value} {base : Heap} {f : Addr} {fd : FuncData}
abbrev PlQ (p : Addr) (ys : List Str) (m : Nat) (H : Hp) (Q : VK) : Prop := ∀ (l : Addr) (ws : List V) (rows : List (List Str)) (H' : Hp), H l = none → PotAt p H H' → H' l = some (.lst ws) → RowsV H' ws rows → rows.length ≤ m → (∀ r ∈ rows, r.Sublist ys) → Q (.ref l) H'
@[irreducible] def spPl : Sp := fun vs H Q _ => ∃ (p n : Addr) (ys : List Str) (m : Nat), vs = [.ref p, .ref n, .int (m : Int)] ∧ PotOk p H ∧ H n = some (.lst (ys.map V.str)) ∧ ys.length ≤ 20 ∧ m ≤ 9 ∧ PlQ p ys m H Q
theorem pl_sp {p n : Addr} {ys : List Str} {m : Nat} {H : Hp} {Q : VK} {E : XK} (h : PotOk p H) (hn : H n = some (.lst (ys.map V.str))) (h20 : ys.length ≤ 20) (h9 : m ≤ 9) (q : PlQ p ys m H Q) : spPl [.ref p, .ref n, .int (m : Int)] H Q E := by unfold spPl; exact ⟨p, n, ys, m, rfl, h, hn, h20, h9, q⟩
abbrev nPl : List Str := ["_law_pot_here", "_law_names_here", "_law_most", "_law_rows", "_law_turn"]
theorem scPl : FnScope nPl ["_law_pot_here", "_law_names_here", "_law_most"] (defScope sPlain) := ⟨rfl, rfl, rfl, by decide +kernel, rfl, by decide +kernel, by decide +kernel⟩
def exprV (s : Stmt) : Expr := match s with | .Expr e _ => e | _ => .Constant .none 0 ⟨0, 0, 0, 0⟩
abbrev ePl : Expr := arg0 (arg0 (exprV (bodyAt (forBody (bodyAt (defBody sPlain) 1)) 0)))
theorem csPl : CompScope nPl (defScope sPlain) ["_law_name", "_law_pot_here"] [none, some 0] (compSc ePl) := ⟨rfl, by decide +kernel, by decide +kernel, rfl, fv_of (by decide +kernel), by decide +kernel⟩
theorem ok_pl {fD : Addr} {dD : FuncData} (F : Fun K "_law_plain_rows" "_law_plain_rows" sPlain f fd) (B : Blt mg)
    (GD : FnOk P w K mg base CX0 1 fD dD ["_law_pot_here", "_law_many"] spDigit) (kD : keepIn K (.ref fD) = true) (bD : Binds K dD ["_law_pot_here", "_law_many"] []) (mD : mg "_law_digit" = some (.ref fD)) : FnOk P w K mg base CX0 2 f fd ["_law_pot_here", "_law_names_here", "_law_most"] spPl := by
  refine F.ok scPl (fun vs H Q E h => ?_) (fun cdv A outer s H vs Q E hr h => ?_)
  · unfold spPl at h; obtain ⟨p, n, ys, m, rfl, _⟩ := h; rfl
  · unfold spPl at h
    obtain ⟨p, n, ys, m, rfl, pk, hn, h20, h9, q⟩ := h
    have hr1 : Room 1 _ := hr
    refine ⟨_, pss_cons (ps_set (i := 3) scPl.nd rfl (Or.inl rfl) (pe_lst pa_nil))
      (pss_cons (ps_for PassesOwn.never rfl (pi_range1 rfl B.range (pa_cons (pe_call GD hr1 rfl mD kD bD .nil pass0 (pa_cons (pv 0) (pa_cons (pe_op op_add (pv 2) pe_int) pa_nil))) pa_nil)) (pg_name (i := 4) scPl.nd rfl (Or.inl rfl))
        (pss_one (ps_expr (pe_bm PySem.F.plainAttrs_list PySem.F.slot_list_append PySem.F.type_list_append mt_append (pv 3) (pa_cons (pe_callTy call_tuple_of rfl B.tuple boot_tuple (pa_cons (pe_comp rfl csPl (pi_list (pv 1)) (fun s H fp => ⟨pg_name (i := 0) csPl.nd rfl (Or.inl rfl), pifs_one (pt_cmpR op_gt (pe_call GD hr1 rfl mD kD bD .nil pass0 (pa_cons (pv 1) (pa_cons pe_int pa_nil))) pe_int (nomark _)), pv 0⟩)) pa_nil)) pa_nil)))))
      (pss_one (ps_ret (pv 3)))), ?_⟩
    have nnp : n ≠ p := strs_pot pk hn
    refine ⟨Nat.zero_le _, fun ra hra => ?_⟩
    have npr : p ≠ ra := pk.ne hra
    have g1 := (PotAt.refl pk).new (o := .lst []) hra
    have hra1 : upd H ra (.lst []) ra = some (.lst []) := upd_same
    generalize upd H ra (.lst []) = H1 at g1 hra1 ⊢
    refine ⟨_, rfl, _, rfl, _, _, rfl, rfl, digit_sp (p := p) (m := (m : Int) + 1) g1.ok (by omega) (by omega) fun d H2 d0 d1 p2 => ?_⟩
    have g2 := g1.trans p2
    refine ⟨d, rfl, by omega, by omega, for_range (fun i σ H3 => ∃ (ws : List V) (rows : List (List Str)) (v4 : Option V), σ = [some (.ref p), some (.ref n), some (.int (m : Int)), some (.ref ra), v4] ∧ PotAt p H H3 ∧ H3 ra = some (.lst ws) ∧ RowsV H3 ws rows ∧ rows.length = i ∧ ∀ r ∈ rows, r.Sublist ys) ⟨[], [], none, rfl, g2, p2.kp _ _ hra1 (Ne.symm npr), .nil, rfl, fun r hr => by cases hr⟩ (fun i σ H3 hi hP => ?_) (fun σ H3 hP => ?_)⟩
    · obtain ⟨ws, rows, v4, rfl, g3, hra3, hR3, hl3, sub3⟩ := hP
      have hn3 := g3.kp _ _ hn nnp
      refine ⟨_, rfl, .inl ⟨rfl, _, SqL.of hra3⟩, _, rfl, n, rfl, ⟨_, SqL.of hn3⟩, fun ca hca => ?_⟩
      have npc : p ≠ ca := g3.ok.ne hca
      have nrc : ra ≠ ca := ne_of_none hra3 hca
      refine comp_list (xs := ys.map V.str) (fun j zs τ H4 => ∃ (t0 : Option V) (rs : List Str), zs = rs.map V.str ∧ τ = [t0, some (.ref p)] ∧ rs.Sublist (ys.take j) ∧ PotAt p H3 H4 ∧ H4 ca = some (.lst zs)) ⟨none, [], rfl, rfl, List.nil_sublist _, (PotAt.refl g3.ok).new hca, upd_same⟩ (fun j zs τ H4 ⟨_, rs, _, _, _, z, z2⟩ => ⟨z2, SqL.of (z.kp _ _ hn3 nnp)⟩) ?_ ?_
      · rintro j x zs τ H4 hx ⟨t0, rs, rfl, rfl, hsub, p8, h8⟩
        have hjl : j < (ys.map V.str).length := (List.getElem?_eq_some_iff.mp hx).1
        have hjr : j < ys.length := by simpa using hjl
        obtain rfl : V.str ys[j] = x := by simpa [hjr] using hx
        have tkj : ys.take (j + 1) = ys.take j ++ [ys[j]] := by rw [List.take_succ, List.getElem?_eq_getElem hjr]; rfl
        have rl : rs.length ≤ 20 := by have := hsub.length_le; rw [List.length_take] at this; omega
        refine ⟨_, rfl, digit_sp (p := p) (m := 3) p8.ok (by decide) (by decide) fun d H9 d0 d1 p9 => ?_⟩
        refine ⟨_, _, rfl, rfl, _, rfl, ?_⟩
        have h9 := p9.kp _ _ h8 (Ne.symm npc)
        refine ite2 (fun hb => ?_) (fun hb => ?_)
        · refine ⟨_, rfl, h9, by rw [List.length_map, sizeLine_eq]; omega, cw_next hjl ⟨_, rs ++ [ys[j]], by rw [List.map_append]; rfl, rfl, ?_, (p8.trans p9).write hca npc, upd_same⟩⟩
          rw [tkj]; exact hsub.append (List.Sublist.refl _)
        · refine cw_next hjl ⟨_, rs, rfl, rfl, ?_, p8.trans p9, h9⟩
          rw [tkj]; exact hsub.trans (List.sublist_append_left _ _)
      · rintro zs τ H4 ⟨t0, rs, rfl, rfl, hsub, p8, h8⟩
        rw [List.length_map, List.take_length] at hsub
        refine ⟨ca, _, rfl, .inl ⟨SqL.of h8, fun t ht => ?_⟩⟩
        have g9 := (g3.trans p8).new (o := .tup (rs.map V.str)) ht
        have p9 := p8.new (o := .tup (rs.map V.str)) ht
        have hra9 := p9.kp _ _ hra3 (Ne.symm npr)
        have hl10 : rows.length ≤ 9 := by omega
        have hwl := hR3.length
        refine ⟨ra, _, _, rfl, rfl, hra9, by rw [sizeLine_eq]; omega, ?_⟩
        have nrt : t ≠ ra := fun z => by
          have := p8.kp _ _ hra3 (Ne.symm npr)
          rw [← z, ht] at this; cases this
        have up : ∀ b xs, upd H4 t (.tup (rs.map V.str)) b = some (.tup xs) → upd (upd H4 t (.tup (rs.map V.str))) ra (.lst (ws ++ [.ref t])) b = some (.tup xs) := fun b xs e => by rw [upd_ne (ne_of e hra9 (by intro z; cases z))]; exact e
        refine ⟨_, rows ++ [rs], _, rfl, g9.write hra npr, upd_same, RowsV.append (rows_keep hR3 fun b xs e => up _ _ (pot_tup g3.ok p9 _ _ e)) (up _ _ upd_same), by rw [List.length_append, hl3]; rfl, fun r hr => ?_⟩
        rcases List.mem_append.mp hr with z | z
        · exact sub3 r z
        · rw [List.mem_singleton.mp z]; exact hsub
    · obtain ⟨ws, rows, v4, rfl, g3, hra3, hR3, hl3, sub3⟩ := hP
      exact ⟨_, rfl, q ra ws rows H3 hra g3 hra3 hR3 (by omega) sub3⟩
end
end K14
namespace K14
open PySem L2 PySem.W HT
section
variable {P : Program} {w : World} {K : Frag} {mg : Str → Option Value} {base : Heap} {f : Addr} {fd : FuncData}
abbrev nRo : List Str := ["_law_pot_here", "_law_names_here", "_law_many", "_law_ring", "_law_at"]
theorem scRo : FnScope nRo ["_law_pot_here", "_law_names_here", "_law_many"] (defScope sRingOf) := ⟨rfl, rfl, rfl, by decide +kernel, rfl, by decide +kernel, by decide +kernel⟩
abbrev eRo : Expr := asgV (bodyAt (defBody sRingOf) 0)
theorem csRo : CompScope nRo (defScope sRingOf) ["_law_k", "_law_many", "_law_names_here"] [none, some 2, some 1] (compSc eRo) := ⟨rfl, by decide +kernel, by decide +kernel, rfl, fv_of (by decide +kernel), by decide +kernel⟩
def WishAt (ys : List Str) (d : PyData) : Prop := ∃ (i : Nat) (x y : Str), d = .tuple [.int (i : Int), .str x, .str y] ∧ x ∈ ys ∧ y ∈ ys
def WV (ys : List Str) (H : Hp) (vs : List V) (ds : List PyData) : Prop := Paired (fun v e => ∃ (a : Addr) (i : Nat) (x y : Str), v = V.ref a ∧ H a = some (.tup [.int (i : Int), .str x, .str y]) ∧ e = PyData.tuple [.int (i : Int), .str x, .str y] ∧ x ∈ ys ∧ y ∈ ys) vs ds
theorem WV.keep {ys : List Str} {H H' : Hp} {vs : List V} {ds : List PyData} (h : WV ys H vs ds) (s : ∀ b xs, H b = some (.tup xs) → H' b = some (.tup xs)) : WV ys H' vs ds := Paired.imp' (fun _ _ ⟨a, i, x, y, e, q, z⟩ => ⟨a, i, x, y, e, s _ _ q, z⟩) h
theorem WV.app {ys : List Str} {H : Hp} : ∀ {vs us : List V} {ds es : List PyData}, WV ys H vs ds → WV ys H us es → WV ys H (vs ++ us) (ds ++ es)
  | _, _, _, _, .nil, q => q
  | _, _, _, _, .cons a b, q => .cons a (WV.app b q)
theorem WV.take {ys : List Str} {H : Hp} : ∀ {vs : List V} {ds : List PyData} (k : Nat), WV ys H vs ds → WV ys H (vs.take k) (ds.take k)
  | _, _, 0, _ => .nil
  | _, _, _ + 1, .nil => .nil
  | _, _, k + 1, .cons a b => .cons a (WV.take k b)
theorem WV.drop {ys : List Str} {H : Hp} : ∀ {vs : List V} {ds : List PyData} (k : Nat), WV ys H vs ds → WV ys H (vs.drop k) (ds.drop k)
  | _, _, 0, r => r
  | _, _, _ + 1, .nil => .nil
  | _, _, k + 1, .cons _ b => WV.drop k b
theorem WV.dts {p : Addr} {ys : List Str} {H : Hp} (h : PotOk p H) : ∀ {vs : List V} {ds : List PyData}, WV ys H vs ds → Dts p H vs ds ∧ ∀ e ∈ ds, WishAt ys e
  | _, _, .nil => ⟨.nil, fun e he => by cases he⟩
  | _, _, .cons ⟨a, i, x, y, e1, e2, e3, hx, hy⟩ b => by
    obtain ⟨r, all⟩ := WV.dts h b
    subst e1; subst e3
    refine ⟨.cons (.tup (pot_tupne h e2) e2 (.cons (.int _) (.cons (.str _) (.cons (.str _) .nil)))) r, fun e he => ?_⟩
    rcases List.mem_cons.mp he with rfl | z
    · exact ⟨i, x, y, rfl, hx, hy⟩
    · exact all e z
abbrev RoQ (p : Addr) (ys : List Str) (m : Nat) (H : Hp) (Q : VK) : Prop := ∀ (u : V) (ds : List PyData) (H' : Hp), PotAt p H H' → Dt p H' u (.tuple ds) → ds.length = m → (∀ e ∈ ds, WishAt ys e) → Q u H'
@[irreducible] def spRo : Sp := fun vs H Q _ => ∃ (p n : Addr) (ys : List Str) (m : Nat), vs = [.ref p, .ref n, .int (m : Int)] ∧ PotOk p H ∧ H n = some (.lst (ys.map V.str)) ∧ m ≤ ys.length ∧ 1 ≤ m ∧ m ≤ 9 ∧ RoQ p ys m H Q
theorem ro_sp {p n : Addr} {ys : List Str} {m : Nat} {H : Hp} {Q : VK} {E : XK} (h : PotOk p H) (hn : H n = some (.lst (ys.map V.str))) (hm : m ≤ ys.length) (m1 : 1 ≤ m) (m9 : m ≤ 9) (q : RoQ p ys m H Q) : spRo [.ref p, .ref n, .int (m : Int)] H Q E := by unfold spRo; exact ⟨p, n, ys, m, rfl, h, hn, hm, m1, m9, q⟩
theorem ok_ro {fD : Addr} {dD : FuncData} (F : Fun K "_law_ring_of" "_law_ring_of" sRingOf f fd) (B : Blt mg)
    (GD : FnOk P w K mg base CX0 1 fD dD ["_law_pot_here", "_law_many"] spDigit) (kD : keepIn K (.ref fD) = true) (bD : Binds K dD ["_law_pot_here", "_law_many"] []) (mD : mg "_law_digit" = some (.ref fD)) : FnOk P w K mg base CX0 2 f fd ["_law_pot_here", "_law_names_here", "_law_many"] spRo := by
  refine F.ok scRo (fun vs H Q E h => ?_) (fun cdv A outer s H vs Q E hr h => ?_)
  · unfold spRo at h; obtain ⟨p, n, ys, m, rfl, _⟩ := h; rfl
  · unfold spRo at h
    obtain ⟨p, n, ys, m, rfl, pk, hn, hm, m1, m9, q⟩ := h
    have hr1 : Room 1 _ := hr
    refine ⟨_, pss_cons (ps_setComp (i := 3) rfl csRo scRo.nd rfl rfl (pi_range1 rfl B.range (pa_cons (pv 2) pa_nil)) (fun s H fp => ⟨pg_name (i := 0) csRo.nd rfl (Or.inl rfl), pifs_nil, pe_tup (pa_cons (pv 0) (pa_cons (pe_ix (ix_list_K K rfl) (pv 2) (pv 0) (fun _ _ => rfl)) (pa_cons (pe_ix (ix_list_K K rfl) (pv 2) (pe_op op_mod (pe_op op_add (pv 0) pe_int) (pv 1)) (fun _ _ => rfl)) pa_nil)))⟩))
      (pss_cons (ps_set (i := 4) scRo.nd rfl (Or.inl rfl) (pe_call GD hr1 rfl mD kD bD .nil pass0 (pa_cons (pv 0) (pa_cons (pv 2) pa_nil))))
      (pss_one (ps_ret (pe_callTy call_tuple_of rfl B.tuple boot_tuple (pa_cons (pe_op op_cat (pe_slice sl_list (pv 3) (po_some (pv 4)) po_none) (pe_slice sl_list (pv 3) po_none (po_some (pv 4)))) pa_nil))))), ?_⟩
    have nnp : n ≠ p := strs_pot pk hn
    refine ⟨_, rfl, (m : Int), rfl, by omega, by omega, fun ca hca => ?_⟩
    have npc : p ≠ ca := pk.ne hca
    refine comp_range (fun i zs τ H1 => ∃ (t0 : Option V) (ds : List PyData), τ = [t0, some (.int (m : Int)), some (.ref n)] ∧ Same H H1 ∧ H1 ca = some (.lst zs) ∧ WV ys H1 zs ds ∧ ds.length = i) ⟨none, [], rfl, same_new hca, upd_same, .nil, rfl⟩ (fun i zs τ H1 ⟨_, _, _, _, z, _⟩ => z) (fun i zs τ H1 hi hP => ?_) (fun zs τ H1 hP => ?_)
    · obtain ⟨t0, ds, rfl, S1, hc1, wv, hl⟩ := hP
      have hi' : i < m := by simpa using hi
      have hn1 := S1 _ _ hn
      rw [Int.zero_add]
      have hiy : i < ys.length := by omega
      have hmp : 0 < m := by omega
      have hj : (i + 1) % m < ys.length := Nat.lt_of_lt_of_le (Nat.mod_lt _ hmp) hm
      refine ⟨_, rfl, _, rfl, _, rfl, n, _, _, .str ys[i], rfl, rfl, SqL.of hn1, atI_nat (by rw [List.getElem?_map, List.getElem?_eq_getElem hiy]; rfl), ?_⟩
      refine ⟨_, rfl, _, rfl, _, _, rfl, rfl, _, rfl, _, _, rfl, rfl, by omega, ?_⟩
      show rIxL K (.ref n) (.int (((i : Int) + 1) % (m : Int))) _ _
      rw [show (((i : Int) + 1) % (m : Int)) = (((i + 1) % m : Nat) : Int) by rw [Int.natCast_emod]; rfl]
      refine ⟨n, _, _, .str ys[(i + 1) % m], rfl, rfl, SqL.of hn1, atI_nat (by rw [List.getElem?_map, List.getElem?_eq_getElem hj]; rfl), by show 3 ≤ sizeLine; rw [sizeLine_eq]; decide, fun t ht => ?_⟩
      have S2 := same_new (o := .tup [V.int (i : Int), V.str ys[i], V.str ys[(i + 1) % m]]) ht
      have hc2 := S2 _ _ hc1
      have up : ∀ b xs, upd H1 t (.tup [V.int (i : Int), V.str ys[i], V.str ys[(i + 1) % m]]) b = some (.tup xs) → upd (upd H1 t (.tup [V.int (i : Int), V.str ys[i], V.str ys[(i + 1) % m]])) ca (.lst (zs ++ [.ref t])) b = some (.tup xs) := fun b xs e => by rw [upd_ne (ne_of e hc2 (by intro z; cases z))]; exact e
      have hzl : zs.length = ds.length := Paired.length wv
      refine ⟨hc2, by rw [sizeLine_eq]; omega, cw_next hi ⟨_, ds ++ [.tuple [.int (i : Int), .str ys[i], .str ys[(i + 1) % m]]], rfl, fun b o e => ?_, upd_same, (wv.keep fun b xs e => up _ _ (S2 _ _ e)).app (.cons ⟨t, i, _, _, rfl, up _ _ upd_same, rfl, List.getElem_mem hiy, List.getElem_mem hj⟩ .nil), by rw [List.length_append, hl]; rfl⟩⟩
      rw [upd_ne (ne_of_none e hca)]; exact S2 _ _ (S1 _ _ e)
    · obtain ⟨t0, ds, rfl, S1, hc1, wv, hl⟩ := hP
      have hl' : ds.length = m := by simpa using hl
      have hzl : zs.length = ds.length := Paired.length wv
      have g1 := pot_of_same pk S1
      refine ⟨_, rfl, _, rfl, digit_sp (p := p) (m := (m : Int)) g1.ok (by omega) (by omega) fun d H2 d0 d1 p2 => ?_⟩
      obtain ⟨k, rfl⟩ := Int.eq_ofNat_of_zero_le d0
      have g2 := g1.trans p2
      have hc2 := p2.kp _ _ hc1 (Ne.symm npc)
      have wv2 := wv.keep fun b xs e => pot_tup g1.ok p2 b xs e
      refine ⟨_, rfl, _, rfl, _, rfl, ca, _, rfl, SqL.of hc2, fun s1 hs1 => ?_⟩
      rw [cut_from]
      have S4 := same_new (o := .lst (zs.drop k)) hs1
      refine ⟨_, rfl, _, rfl, _, rfl, ca, _, rfl, SqL.of (S4 _ _ hc2), fun s2 hs2 => ?_⟩
      rw [cut_to]
      have S5 := same_new (o := .lst (zs.take k)) hs2
      refine ⟨s1, s2, _, _, rfl, rfl, S5 _ _ upd_same, upd_same, ?_, fun s3 hs3 => ?_⟩
      · rw [List.length_drop, List.length_take, sizeLine_eq]; omega
      have S6 := same_new (o := .lst (zs.drop k ++ zs.take k)) hs3
      refine ⟨s3, _, rfl, .inl ⟨SqL.of upd_same, fun t ht => ?_⟩⟩
      have S7 := same_new (o := .tup (zs.drop k ++ zs.take k)) ht
      have S47 := S4.trans (S5.trans (S6.trans S7))
      have g7 := g2.trans (pot_of_same g2.ok S47)
      have wv7 := wv2.keep fun b xs e => S47 b _ e
      obtain ⟨dd, all⟩ := ((wv7.drop k).app (wv7.take k)).dts g7.ok
      exact q _ (ds.drop k ++ ds.take k) _ g7 (.tup (pot_tupne g7.ok upd_same) upd_same dd) (by rw [List.length_append, List.length_drop, List.length_take]; omega) all
end
end K14
namespace K14
open PySem L2 PySem.W HT
structure It (b : Nat) (e : PyData) : Prop where
  bulk : e.bulk ≤ b
  ok : okL e = true
theorem It.mono {b c : Nat} {e : PyData} (h : It b e) (l : b ≤ c) : It c e := ⟨Nat.le_trans h.bulk l, h.ok⟩
theorem bulk_its {b : Nat} : ∀ {ds : List PyData}, (∀ e ∈ ds, It b e) → PyData.bulkAll ds ≤ ds.length * (b + 1)
  | [], _ => Nat.zero_le _
  | d :: ds, h => by
    have h1 := (h d List.mem_cons_self).bulk
    have h2 := bulk_its fun e he => h e (List.mem_cons_of_mem _ he)
    simp only [PyData.bulkAll, List.length_cons, Nat.add_mul, Nat.one_mul] at *
    omega
inductive Sq (b k : Nat) : PyData → Prop where
  | tup {ds : List PyData} : ds.length ≤ k → (∀ e ∈ ds, It b e) → Sq b k (.tuple ds)
  | lst {ds : List PyData} : ds.length ≤ k → (∀ e ∈ ds, It b e) → Sq b k (.list ds)
theorem Sq.bulk {b k : Nat} {d : PyData} (h : Sq b k d) : d.bulk ≤ k * (b + 1) := by
  cases h with
  | tup l a => exact Nat.le_trans (bulk_its a) (Nat.mul_le_mul_right _ l)
  | lst l a => exact Nat.le_trans (bulk_its a) (Nat.mul_le_mul_right _ l)
theorem Sq.ok {b k : Nat} {d : PyData} (h : Sq b k d) : okL d = true := by cases h <;> rfl
theorem Sq.th {b k : Nat} {d : PyData} (h : Sq b k d) : Th (k * (b + 1)) k d := ⟨h.bulk, fun ds e => by
  subst e
  cases h with
  | tup l a => exact ⟨l, fun e he => (a e he).ok⟩⟩
theorem ixN_nat {n j : Nat} (h : j < n) : ixN n (j : Int) = some j := by unfold ixN; rw [if_pos (by omega), if_pos (by omega)]; rfl
theorem Od.it {d : PyData} (h : Od d) : It 10 d := ⟨h.th.bulk, h.ok⟩
theorem Dts.set {p : Addr} {H : Hp} : ∀ {vs : List V} {ds : List PyData} {v : V} {d : PyData} (k : Nat), Dts p H vs ds → Dt p H v d → Dts p H (vs.set k v) (ds.set k d)
  | _, _, _, _, _, .nil, _ => .nil
  | _, _, _, _, 0, .cons _ b, r => .cons r b
  | _, _, _, _, k + 1, .cons a b, r => .cons a (Dts.set k b r)
section
variable {P : Program} {w : World} {K : Frag} {mg : Str → Option Value} {base : Heap} {f : Addr} {fd : FuncData}
abbrev PsQ (p : Addr) (b k : Nat) (H : Hp) (Q : VK) : Prop := ∀ (u : V) (e : PyData) (H' : Hp), PotAt p H H' → Dt p H' u e → Sq b (k + 1) e → Q u H'
@[irreducible] def spPs : Sp := fun us H Q _ => ∃ (p r n : Addr) (vs : List V) (ds : List PyData) (ys : List Str) (b k : Nat), us = [.ref p, .ref r, .ref n] ∧ PotOk p H ∧ H r = some (.tup vs) ∧ Dts p H vs ds ∧ 0 < ds.length ∧ ds.length ≤ k ∧ k ≤ 60 ∧ 10 ≤ b ∧ (∀ e ∈ ds, It b e) ∧ H n = some (.lst (ys.map V.str)) ∧ (∀ y ∈ ys, Nm y) ∧ ys.length ≤ 20 ∧ PsQ p b k H Q
theorem ps_sp {p r n : Addr} {vs : List V} {ds : List PyData} {ys : List Str} {b k : Nat} {H : Hp} {Q : VK} {E : XK} (h : PotOk p H) (hr : H r = some (.tup vs)) (rs : Dts p H vs ds) (h0 : 0 < ds.length) (hk : ds.length ≤ k) (k60 : k ≤ 60) (hb : 10 ≤ b) (it : ∀ e ∈ ds, It b e) (hn : H n = some (.lst (ys.map V.str))) (nm : ∀ y ∈ ys, Nm y) (h20 : ys.length ≤ 20) (q : PsQ p b k H Q) : spPs [.ref p, .ref r, .ref n] H Q E := by
  unfold spPs; exact ⟨p, r, n, vs, ds, ys, b, k, rfl, h, hr, rs, h0, hk, k60, hb, it, hn, nm, h20, q⟩
abbrev nPs : List Str := ["_law_pot_here", "_law_row", "_law_names_here", "_law_way", "_law_at", "_law_other", "_law_found"]
theorem scPs : FnScope nPs ["_law_pot_here", "_law_row", "_law_names_here"] (defScope sPartS) := ⟨rfl, rfl, rfl, by decide +kernel, rfl, by decide +kernel, by decide +kernel⟩
theorem ok_ps {fD fO : Addr} {dD dO : FuncData} (F : Fun K "_law_part_spoilt" "_law_part_spoilt" sPartS f fd) (B : Blt mg)
    (GD : FnOk P w K mg base CX0 1 fD dD ["_law_pot_here", "_law_many"] spDigit) (kD : keepIn K (.ref fD) = true) (bD : Binds K dD ["_law_pot_here", "_law_many"] []) (mD : mg "_law_digit" = some (.ref fD))
    (GO : FnOk P w K mg base CX0 2 fO dO ["_law_pot_here", "_law_names_here"] spOdd) (kO : keepIn K (.ref fO) = true) (bO : Binds K dO ["_law_pot_here", "_law_names_here"] []) (mO : mg "_law_odd" = some (.ref fO)) : FnOk P w K mg base CX0 3 f fd ["_law_pot_here", "_law_row", "_law_names_here"] spPs := by
  refine F.ok scPs (fun vs H Q E h => ?_) (fun cdv A outer s H vs Q E hr h => ?_)
  · unfold spPs at h; obtain ⟨p, r, n, vs, ds, ys, b, k, rfl, _⟩ := h; rfl
  · unfold spPs at h
    obtain ⟨p, r, n, vs, ds, ys, b, k, rfl, pk, hR, rs, h0, hk, k60, hb, it, hn, nm, h20, q⟩ := h
    have hr2 : Room 2 _ := hr
    have hr1 : Room 1 _ := hr2.mono (by decide)
    refine ⟨_, pss_cons (ps_par (i := 3) (j := 4) rfl scPs.nd rfl rfl (by decide) rfl rfl (pa_cons (pe_call GD hr1 rfl mD kD bD .nil pass0 (pa_cons (pv 0) (pa_I pa_nil))) (pa_cons (pe_call GD hr1 rfl mD kD bD .nil pass0 (pa_cons (pv 0) (pa_cons (pe_callB call_len_seq rfl B.len boot_len (pa_cons (pv 1) pa_nil)) pa_nil))) pa_nil)) rfl)
      (pss_cons (ps_set (i := 5) scPs.nd rfl (Or.inl rfl) (pe_call GD hr1 rfl mD kD bD .nil pass0 (pa_cons (pv 0) (pa_cons (pe_callB call_len_seq rfl B.len boot_len (pa_cons (pv 1) pa_nil)) pa_nil))))
      (pss_cons (ps_ifRet (pt_cmpR op_eq (pv 3) pe_int (nomark _)) (pe_op op_catA (pe_slice sl_tupA (pv 1) po_none (po_some (pv 4))) (pe_slice sl_tupA (pv 1) (po_some (pe_op op_add (pv 4) pe_int)) po_none)))
      (pss_cons (ps_ifRet (pt_cmpR op_eq (pv 3) pe_int (nomark _)) (pe_op op_catA (pe_op op_catA (pe_slice sl_tupA (pv 1) po_none (po_some (pv 4))) (pe_tup (pa_cons (pe_ix ix_tup (pv 1) (pv 5) (fun _ _ => rfl)) pa_nil))) (pe_slice sl_tupA (pv 1) (po_some (pv 4)) po_none)))
      (pss_cons (ps_if (pt_cmpR op_eq (pv 3) pe_int (nomark _))
        (pss_cons (ps_set (i := 6) scPs.nd rfl (Or.inl rfl) (pe_callTy call_list_of rfl B.list boot_list (pa_cons (pv 1) pa_nil)))
        (pss_cons (ps_asg (pe_tup (pa_cons (pe_ix ix_tup (pv 1) (pv 5) (fun _ _ => rfl)) (pa_cons (pe_ix ix_tup (pv 1) (pv 4) (fun _ _ => rfl)) pa_nil))) (pg_tup (n := 2) rfl (pgs_cons (pg_sub (pv 6) (pv 4) set_list) (pgs_cons (pg_sub (pv 6) (pv 5) set_list) pgs_nil))))
        (pss_ret (pe_callTy call_tuple_of rfl B.tuple boot_tuple (pa_cons (pv 6) pa_nil))))) pss_nil)
      (pss_cons (ps_ifRet (pt_cmpR op_eq (pv 3) pe_int (nomark _)) (pe_callTy call_list_of rfl B.list boot_list (pa_cons (pv 1) pa_nil)))
      (pss_ret (pe_op op_catA (pe_op op_catA (pe_slice sl_tupA (pv 1) po_none (po_some (pv 4))) (pe_tup (pa_cons (pe_call GO hr2 rfl mO kO bO .nil pass0 (pa_cons (pv 0) (pa_cons (pv 2) pa_nil))) pa_nil))) (pe_slice sl_tupA (pv 1) (po_some (pe_op op_add (pv 4) pe_int)) po_none)))))))), ?_⟩
    have nnp : n ≠ p := strs_pot pk hn
    have hvl : vs.length = ds.length := rs.length
    refine ⟨_, rfl, digit_sp (p := p) (m := 6) pk (by decide) (by decide) fun wy H1 a0 a1 p1 => ?_⟩
    refine ⟨_, rfl, _, rfl, r, _, rfl, .inr (SqT.of (pot_tup pk p1 _ _ hR)), ?_⟩
    refine digit_sp (p := p) (m := (vs.length : Int)) p1.ok (by omega) (by omega) fun at_ H2 b0 b1 p2 => ?_
    have p12 := p1.trans p2
    obtain ⟨j, rfl⟩ := Int.eq_ofNat_of_zero_le b0
    refine ⟨_, _, rfl, ?_⟩
    refine ⟨_, rfl, _, rfl, r, _, rfl, .inr (SqT.of (pot_tup pk p12 _ _ hR)), ?_⟩
    refine digit_sp (p := p) (m := (vs.length : Int)) p12.ok (by omega) (by omega) fun ot H3 c0 c1 p3 => ?_
    have p13 := p12.trans p3
    obtain ⟨o, rfl⟩ := Int.eq_ofNat_of_zero_le c0
    have hR3 := pot_tup pk p13 _ _ hR
    have rs3 := Dts.pot rs p13
    have hn3 := p13.kp _ _ hn nnp
    have hj : j < vs.length := by omega
    have ho : o < vs.length := by omega
    have hjd : j < ds.length := by omega
    have hod : o < ds.length := by omega
    obtain ⟨vj, hvj, rj⟩ := rs3.get (List.getElem?_eq_getElem hjd)
    obtain ⟨vo, hvo, ro⟩ := rs3.get (List.getElem?_eq_getElem hod)
    clear p1 p2 p12 p3
    have fin : ∀ (t : Addr) (ws : List V) (es : List PyData) (H' : Hp), PotAt p H H' → H' t = some (.tup ws) → Dts p H' ws es → es.length ≤ k + 1 → (∀ e ∈ es, It b e) → Q (.ref t) H' := fun t ws es H' g ht rd l a => q _ _ H' g (.tup (pot_tupne g.ok ht) ht rd) (.tup l a)
    have tk : ∀ (i : Nat) (e : PyData), e ∈ ds.take i → It b e := fun i e he => it e (List.mem_of_mem_take he)
    have dp : ∀ (i : Nat) (e : PyData), e ∈ ds.drop i → It b e := fun i e he => it e (List.mem_of_mem_drop he)
    refine ⟨_, rfl, rfl, _, rfl, ?_⟩
    refine ite2 (fun h0 => ?_) (fun h0 => ?_)
    · refine ⟨_, rfl, _, rfl, _, rfl, r, _, rfl, hR3, fun t1 H4 S4 h4 => ?_⟩
      rw [cut_to] at h4
      refine ⟨_, rfl, _, rfl, _, _, rfl, rfl, _, rfl, r, _, rfl, S4 _ _ hR3, fun t2 H5 S5 h5 => ?_⟩
      rw [show ((j : Int) + 1) = ((j + 1 : Nat) : Int) from rfl, cut_from] at h5
      refine ⟨t1, t2, _, _, rfl, rfl, S5 _ _ h4, h5, by rw [List.length_take, List.length_drop, sizeLine_eq]; omega, fun t H6 S6 h6 => ?_⟩
      have S := S4.trans (S5.trans S6)
      have rs6 := Dts.keep (fun a o e _ => S a o e) rs3
      refine fin t _ _ H6 (p13.trans (pot_of_same p13.ok S)) h6 ((rs6.take j).app (rs6.drop (j + 1))) (by rw [List.length_append, List.length_take, List.length_drop]; omega) fun e he => ?_
      rcases List.mem_append.mp he with z | z
      · exact tk _ _ z
      · exact dp _ _ z
    refine ⟨_, rfl, rfl, _, rfl, ?_⟩
    refine ite2 (fun h1 => ?_) (fun h1 => ?_)
    · refine ⟨_, rfl, _, rfl, _, rfl, r, _, rfl, hR3, fun t1 H4 S4 h4 => ?_⟩
      rw [cut_to] at h4
      refine ⟨_, rfl, _, rfl, r, _, _, _, rfl, rfl, SqT.of (S4 _ _ hR3), atI_nat hvo, by show 1 ≤ sizeLine; rw [sizeLine_eq]; decide, fun t2 ht2 => ?_⟩
      have S5 := same_new (o := .tup [vo]) ht2
      refine ⟨t1, t2, _, _, rfl, rfl, S5 _ _ h4, upd_same, by rw [List.length_take, sizeLine_eq]; show _ + 1 ≤ _; omega, fun t3 H6 S6 h6 => ?_⟩
      have S46 := S4.trans (S5.trans S6)
      refine ⟨_, rfl, _, rfl, _, rfl, r, _, rfl, S46 _ _ hR3, fun t4 H7 S7 h7 => ?_⟩
      rw [cut_from] at h7
      refine ⟨t3, t4, _, _, rfl, rfl, S7 _ _ h6, h7, by rw [List.length_append, List.length_take, List.length_drop, sizeLine_eq]; show _ + 1 + _ ≤ _; omega, fun t H8 S8 h8 => ?_⟩
      have S := S46.trans (S7.trans S8)
      have rs8 := Dts.keep (fun a o e _ => S a o e) rs3
      have ro8 := Dt.keep (fun a o e _ => S a o e) ro
      refine fin t _ _ H8 (p13.trans (pot_of_same p13.ok S)) h8 (((rs8.take j).app (.cons ro8 .nil)).app (rs8.drop j)) (by rw [List.length_append, List.length_append, List.length_take, List.length_drop]; show _ + 1 + _ ≤ _; omega) fun e he => ?_
      rcases List.mem_append.mp he with z | z
      · rcases List.mem_append.mp z with z | z
        · exact tk _ _ z
        · rw [List.mem_singleton.mp z]; exact it _ (List.getElem_mem hod)
      · exact dp _ _ z
    refine ⟨_, rfl, rfl, _, rfl, ?_⟩
    refine ite2 (fun h2 => ?_) (fun h2 => ?_)
    · refine ⟨_, rfl, r, _, rfl, .inr (SqT.of hR3), fun l hl => ?_⟩
      have S4 := same_new (o := .lst vs) hl
      have npl := p13.ok.ne hl
      refine ⟨_, rfl, _, rfl, r, _, _, _, rfl, rfl, SqT.of (S4 _ _ hR3), atI_nat hvo, _, rfl, _, rfl, r, _, _, _, rfl, rfl, SqT.of (S4 _ _ hR3), atI_nat hvj, by show 2 ≤ sizeLine; rw [sizeLine_eq]; decide, fun t2 ht2 => ?_⟩
      have S5 := same_new (o := .tup [vo, vj]) ht2
      have hl5 := S5 _ _ (upd_same (H := H3) (a := l) (o := .lst vs))
      refine ⟨t2, _, rfl, SqT.of upd_same, rfl, vo, [vj], rfl, _, rfl, _, rfl, l, vs, _, j, rfl, rfl, hl5, ixN_nat hj, vj, [], rfl, _, rfl, _, rfl, l, _, _, o, rfl, rfl, upd_same, ixN_nat (by rw [List.length_set]; exact ho), rfl, ?_⟩
      refine ⟨_, rfl, l, _, rfl, .inl ⟨SqL.of upd_same, fun t ht => ?_⟩⟩
      have g4 := p13.new (o := .lst vs) hl
      have g5 := g4.new (o := .tup [vo, vj]) ht2
      have hlH := p13.free hl
      have g6 := (g5.write (o := .lst (vs.set j vo)) hlH npl).write (o := .lst ((vs.set j vo).set o vj)) hlH npl
      have g7 := g6.new (o := .tup ((vs.set j vo).set o vj)) ht
      have up : ∀ (a : Addr) (x : HO), H3 a = some x → a ≠ p → upd (upd (upd (upd (upd H3 l (.lst vs)) t2 (.tup [vo, vj])) l (.lst (vs.set j vo))) l (.lst ((vs.set j vo).set o vj))) t (.tup ((vs.set j vo).set o vj)) a = some x := fun a x e _ => by
        have nal : a ≠ l := ne_of_none e hl
        rw [upd_ne (ne_of_none (b := t) (by rw [upd_ne nal, upd_ne nal]; exact S5 _ _ (S4 _ _ e)) ht), upd_ne nal, upd_ne nal]
        exact S5 _ _ (S4 _ _ e)
      have rs7 := Dts.keep up rs3
      refine fin t _ _ _ g7 upd_same (Dts.set o (Dts.set j rs7 (Dt.keep up ro)) (Dt.keep up rj)) (by rw [List.length_set, List.length_set]; omega) fun e he => ?_
      rcases List.mem_or_eq_of_mem_set he with z | z
      · rcases List.mem_or_eq_of_mem_set z with z | z
        · exact it _ z
        · rw [z]; exact it _ (List.getElem_mem hod)
      · rw [z]; exact it _ (List.getElem_mem hjd)
    refine ⟨_, rfl, rfl, _, rfl, ?_⟩
    refine ite2 (fun h3 => ?_) (fun h3 => ?_)
    · refine ⟨_, rfl, r, _, rfl, .inr (SqT.of hR3), fun l hl => ?_⟩
      have S4 := same_new (o := .lst vs) hl
      have g4 := p13.new (o := .lst vs) hl
      exact q _ _ _ g4 (.lst (Ne.symm (p13.ok.ne hl)) upd_same (Dts.keep (fun a o e _ => S4 a o e) rs3)) (.lst (by omega) it)
    refine ⟨_, rfl, _, rfl, _, rfl, r, _, rfl, hR3, fun t1 H4 S4 h4 => ?_⟩
    rw [cut_to] at h4
    have g4 := p13.trans (pot_of_same p13.ok S4)
    refine ⟨_, rfl, _, rfl, odd_sp g4.ok (S4 _ _ hn3) nm h20 fun u e H5 p5 ru ge => ⟨by show 1 ≤ sizeLine; rw [sizeLine_eq]; decide, fun t2 ht2 => ?_⟩⟩
    have S6 := same_new (o := .tup [u]) ht2
    have g5 := g4.trans p5
    refine ⟨t1, t2, _, _, rfl, rfl, S6 _ _ (pot_tup g4.ok p5 _ _ h4), upd_same, by rw [List.length_take, sizeLine_eq]; show _ + 1 ≤ _; omega, fun t3 H7 S7 h7 => ?_⟩
    have S67 := S6.trans S7
    refine ⟨_, rfl, _, rfl, _, _, rfl, rfl, _, rfl, r, _, rfl, S67 _ _ (pot_tup g4.ok p5 _ _ (S4 _ _ hR3)), fun t4 H8 S8 h8 => ?_⟩
    rw [show ((j : Int) + 1) = ((j + 1 : Nat) : Int) from rfl, cut_from] at h8
    refine ⟨t3, t4, _, _, rfl, rfl, S8 _ _ h7, h8, by rw [List.length_append, List.length_take, List.length_drop, sizeLine_eq]; show _ + 1 + _ ≤ _; omega, fun t H9 S9 h9 => ?_⟩
    have S := S67.trans (S8.trans S9)
    have rs9 := Dts.keep (fun a o e _ => S a o e) (Dts.pot (Dts.keep (fun a o e _ => S4 a o e) rs3) p5)
    have ru9 := Dt.keep (fun a o e _ => S a o e) ru
    refine fin t _ _ H9 (g5.trans (pot_of_same g5.ok S)) h9 (((rs9.take j).app (.cons ru9 .nil)).app (rs9.drop (j + 1))) (by rw [List.length_append, List.length_append, List.length_take, List.length_drop]; show _ + 1 + _ ≤ _; omega) fun e' he => ?_
    rcases List.mem_append.mp he with z | z
    · rcases List.mem_append.mp z with z | z
      · exact tk _ _ z
      · rw [List.mem_singleton.mp z]; exact ge.it.mono hb
    · exact dp _ _ z
end
end K14
namespace K14
open PySem L2 PySem.W HT
def TupI (e : PyData) : Prop := ∃ es, e = .tuple es ∧ 0 < es.length ∧ es.length ≤ 3 ∧ ∀ i ∈ es, It 10 i
def StrI (e : PyData) : Prop := ∃ x, e = .str x ∧ Nm x
theorem TupI.it {e : PyData} (h : TupI e) : It 44 e := by
  obtain ⟨es, rfl, _, l, a⟩ := h
  refine ⟨Nat.le_trans (bulk_its a) ?_, rfl⟩
  have := Nat.mul_le_mul_right 11 l
  omega
theorem StrI.it {e : PyData} (h : StrI e) : It 44 e := by
  obtain ⟨x, rfl, n⟩ := h
  exact (od_name n).it.mono (by decide)
theorem it_int (i : Int) : It 10 (.int i) := ⟨by simp [PyData.bulk], rfl⟩
theorem WishAt.tup {ys : List Str} (nm : ∀ y ∈ ys, Nm y) {e : PyData} (h : WishAt ys e) : TupI e := by
  obtain ⟨i, x, y, rfl, hx, hy⟩ := h
  refine ⟨_, rfl, Nat.succ_pos _, Nat.le_refl 3, fun z hz => ?_⟩
  rcases List.mem_cons.mp hz with rfl | hz
  · exact it_int _
  rcases List.mem_cons.mp hz with rfl | hz
  · exact (od_name (nm _ hx)).it
  · rw [List.mem_singleton.mp hz]; exact (od_name (nm _ hy)).it
section
variable {P : Program} {w : World} {K : Frag} {mg : Str → Option Value} {base : Heap} {f : Addr} {fd : FuncData}
abbrev SpQ (p : Addr) (H : Hp) (Q : VK) : Prop := ∀ (u : V) (e : PyData) (H' : Hp), PotAt p H H' → Dt p H' u e → Th 1000 60 e → Q u H'
@[irreducible] def spSp : Sp := fun us H Q _ => ∃ (p r n : Addr) (vs : List V) (ds : List PyData) (ys : List Str), us = [.ref p, .ref r, .ref n] ∧ PotOk p H ∧ H r = some (.tup vs) ∧ Dts p H vs ds ∧ ds.length ≤ 9 ∧ ((∀ e ∈ ds, StrI e) ∨ ∀ e ∈ ds, TupI e) ∧ H n = some (.lst (ys.map V.str)) ∧ (∀ y ∈ ys, Nm y) ∧ ys.length ≤ 20 ∧ SpQ p H Q
theorem sp_sp {p r n : Addr} {vs : List V} {ds : List PyData} {ys : List Str} {H : Hp} {Q : VK} {E : XK} (h : PotOk p H) (hr : H r = some (.tup vs)) (rs : Dts p H vs ds) (h9 : ds.length ≤ 9) (it : (∀ e ∈ ds, StrI e) ∨ ∀ e ∈ ds, TupI e) (hn : H n = some (.lst (ys.map V.str))) (nm : ∀ y ∈ ys, Nm y) (h20 : ys.length ≤ 20) (q : SpQ p H Q) : spSp [.ref p, .ref r, .ref n] H Q E := by
  unfold spSp; exact ⟨p, r, n, vs, ds, ys, rfl, h, hr, rs, h9, it, hn, nm, h20, q⟩
abbrev nSp : List Str := ["_law_pot_here", "_law_good", "_law_names_here", "_law_way", "_law_at"]
theorem scSp : FnScope nSp ["_law_pot_here", "_law_good", "_law_names_here"] (defScope sSpoilt) := ⟨rfl, rfl, rfl, by decide +kernel, rfl, by decide +kernel, by decide +kernel⟩
theorem th_of {b k : Nat} {d : PyData} (h : Sq b k d) (hk : k ≤ 60) (hb : k * (b + 1) ≤ 1000) : Th 1000 60 d := h.th.mono hb hk
theorem ok_sp {fD fO fP : Addr} {dD dO dP : FuncData} (F : Fun K "_law_spoilt" "_law_spoilt" sSpoilt f fd) (B : Blt mg) (B2 : Blt2 mg)
    (GD : FnOk P w K mg base CX0 1 fD dD ["_law_pot_here", "_law_many"] spDigit) (kD : keepIn K (.ref fD) = true) (bD : Binds K dD ["_law_pot_here", "_law_many"] []) (mD : mg "_law_digit" = some (.ref fD))
    (GO : FnOk P w K mg base CX0 2 fO dO ["_law_pot_here", "_law_names_here"] spOdd) (kO : keepIn K (.ref fO) = true) (bO : Binds K dO ["_law_pot_here", "_law_names_here"] []) (mO : mg "_law_odd" = some (.ref fO))
    (GP : FnOk P w K mg base CX0 3 fP dP ["_law_pot_here", "_law_row", "_law_names_here"] spPs) (kP : keepIn K (.ref fP) = true) (bP : Binds K dP ["_law_pot_here", "_law_row", "_law_names_here"] []) (mP : mg "_law_part_spoilt" = some (.ref fP)) : FnOk P w K mg base CX0 4 f fd ["_law_pot_here", "_law_good", "_law_names_here"] spSp := by
  refine F.ok scSp (fun vs H Q E h => ?_) (fun cdv A outer s H vs Q E hr h => ?_)
  · unfold spSp at h; obtain ⟨p, r, n, vs, ds, ys, rfl, _⟩ := h; rfl
  · unfold spSp at h
    obtain ⟨p, r, n, vs, ds, ys, rfl, pk, hR, rs, h9, it, hn, nm, h20, q⟩ := h
    have hr3 : Room 3 _ := hr
    have hr2 : Room 2 _ := hr3.mono (by decide)
    have hr1 : Room 1 _ := hr3.mono (by decide)
    have hu := hr.units
    refine ⟨_, pss_cons (ps_set (i := 3) scSp.nd rfl (Or.inl rfl) (pe_call GD hr1 rfl mD kD bD .nil pass0 (pa_cons (pv 0) (pa_I pa_nil))))
      (pss_cons (ps_ifRet (pt_cmpR op_eq (pv 3) pe_int (nomark _)) (pe_call GO hr2 rfl mO kO bO .nil pass0 (pa_cons (pv 0) (pa_cons (pv 2) pa_nil))))
      (pss_cons (ps_ifRet (pt_cmpR op_eq (pv 3) pe_int (nomark _)) (pe_op op_catA (pv 1) (pv 1)))
      (pss_cons (ps_ifRet (PW.pt (pw_or (pt_cmpR op_lt (pv 3) pe_int (nomark _)) (pw_or1 (pt_cmpR (op_eqT0 hu) (pv 1) (pe_tup pa_nil) (nomark _))))) (pv 1))
      (pss_cons (ps_if (PW.pt (pw_and (pt_cmpR op_lt (pv 3) pe_int (nomark _)) (pw_and1 (pt_val (pe_callB call_isi rfl B2.isi boot_isi (pa_cons (pe_ix ix_tup (pv 1) pe_int (fun _ _ => rfl)) (pa_cons (pe_bltn (v := .ty "tuple") rfl B.tuple boot_tuple rfl) pa_nil)))))))
        (pss_cons (ps_set (i := 4) scSp.nd rfl (Or.inl rfl) (pe_call GD hr1 rfl mD kD bD .nil pass0 (pa_cons (pv 0) (pa_cons (pe_callB call_len_seq rfl B.len boot_len (pa_cons (pv 1) pa_nil)) pa_nil))))
        (pss_ret (pe_op op_catA (pe_op op_catA (pe_slice sl_tupA (pv 1) po_none (po_some (pv 4))) (pe_tup (pa_cons (pe_call GP hr3 rfl mP kP bP .nil pass0 (pa_cons (pv 0) (pa_cons (pe_ix ix_tup (pv 1) (pv 4) (fun _ _ => rfl)) (pa_cons (pv 2) pa_nil)))) pa_nil))) (pe_slice sl_tupA (pv 1) (po_some (pe_op op_add (pv 4) pe_int)) po_none)))) pss_nil)
      (pss_ret (pe_call GP hr3 rfl mP kP bP .nil pass0 (pa_cons (pv 0) (pa_cons (pv 1) (pa_cons (pv 2) pa_nil))))))))), ?_⟩
    have nnp : n ≠ p := strs_pot pk hn
    have hvl : vs.length = ds.length := rs.length
    have it44 : ∀ e ∈ ds, It 44 e := fun e he => by
      rcases it with z | z
      · exact (z e he).it
      · exact (z e he).it
    refine ⟨_, rfl, digit_sp (p := p) (m := 9) pk (by decide) (by decide) fun wy H1 a0 a1 p1 => ?_⟩
    have hR1 := pot_tup pk p1 _ _ hR
    have hn1 := p1.kp _ _ hn nnp
    have rs1 := Dts.pot rs p1
    refine ⟨_, rfl, rfl, _, rfl, ?_⟩
    refine ite2 (fun h0 => ?_) (fun h0 => ?_)
    · exact ⟨_, rfl, _, rfl, odd_sp p1.ok hn1 nm h20 fun u e H2 p2 ru ge => q u e H2 (p1.trans p2) ru (ge.th.mono (by decide) (by decide))⟩
    refine ⟨_, rfl, rfl, _, rfl, ?_⟩
    refine ite2 (fun h1 => ?_) (fun h1 => ?_)
    · refine ⟨_, rfl, _, rfl, r, r, _, _, rfl, rfl, hR1, hR1, by rw [sizeLine_eq]; omega, fun t H2 S2 h2 => ?_⟩
      have rs2 := Dts.keep (fun a o e _ => S2 a o e) rs1
      have g2 := p1.trans (pot_of_same p1.ok S2)
      refine q _ (.tuple (ds ++ ds)) H2 g2 (.tup (pot_tupne g2.ok h2) h2 (rs2.app rs2)) (th_of (b := 44) (k := 18) (.tup (by rw [List.length_append]; omega) fun e he => ?_) (by decide) (by decide))
      rcases List.mem_append.mp he with z | z <;> exact it44 _ z
    have last : ∀ (H2 : Hp), PotAt p H H2 → 0 < ds.length → spPs [.ref p, .ref r, .ref n] H2 Q E0 := fun H2 p2 hp =>
      ps_sp (k := 9) (b := 44) p2.ok (pot_tup pk p2 _ _ hR) (Dts.pot rs p2) hp h9 (by decide) (by decide) it44 (p2.kp _ _ hn nnp) nm h20 fun u e H3 p3 ru sq => q u e H3 (p2.trans p3) ru (th_of sq (by decide) (by decide))
    have good : ∀ (H2 : Hp), PotAt p H H2 → Q (.ref r) H2 := fun H2 p2 => q _ (.tuple ds) H2 p2 (.tup (pot_tupne pk hR) (pot_tup pk p2 _ _ hR) (Dts.pot rs p2)) (th_of (b := 44) (k := 9) (.tup h9 it44) (by decide) (by decide))
    refine ⟨_, rfl, _, _, rfl, rfl, _, rfl, ?_⟩
    refine ite2 (fun h4 => ?_) (fun h4 => ?_)
    · exact ⟨_, rfl, good H1 p1⟩
    refine ⟨_, rfl, Nat.zero_le _, fun e0 he0 => ?_⟩
    have S0 := same_new (o := .tup []) he0
    have he : upd H1 e0 (.tup []) e0 = some (.tup []) := upd_same
    generalize upd H1 e0 (.tup []) = H2 at S0 he ⊢
    have p2 := p1.trans (pot_of_same p1.ok S0)
    have hR2 := S0 _ _ hR1
    refine ⟨r, e0, _, rfl, rfl, hR2, he, _, rfl, ?_⟩
    by_cases hz : ds = []
    · subst hz
      obtain rfl := dts_nil rs
      exact ⟨_, rfl, good H2 p2⟩
    have hpos : 0 < ds.length := List.length_pos_iff.mpr hz
    obtain ⟨v0, hv0, r0⟩ := (Dts.pot rs p2).get (List.getElem?_eq_getElem hpos)
    have hne : vs.isEmpty = false := by
      cases vs with
      | nil => rw [← hvl] at hpos; exact absurd hpos (Nat.lt_irrefl 0)
      | cons a b => rfl
    rw [hne]
    refine ⟨_, rfl, _, _, rfl, rfl, _, rfl, ?_⟩
    refine ite2 (fun h7 => ?_) (fun h7 => ⟨_, rfl, _, rfl, _, rfl, last H2 p2 hpos⟩)
    refine ⟨_, rfl, r, _, _, v0, rfl, rfl, SqT.of hR2, (show atI vs ((0 : Nat) : Int) = _ from atI_nat hv0), isi_sp kit_tuple r0 ⟨_, rfl, ?_⟩⟩
    rcases it with it | it
    · obtain ⟨x, ex, _⟩ := it _ (List.getElem_mem hpos)
      rw [ex]
      exact ⟨_, rfl, _, rfl, _, rfl, last H2 p2 hpos⟩
    obtain ⟨es, ex, _⟩ := it _ (List.getElem_mem hpos)
    rw [ex]
    refine ⟨_, rfl, _, rfl, r, _, rfl, .inr (SqT.of hR2), ?_⟩
    refine digit_sp (p := p) (m := (vs.length : Int)) p2.ok (by omega) (by omega) fun at_ H3 b0 b1 p3 => ?_
    obtain ⟨j, rfl⟩ := Int.eq_ofNat_of_zero_le b0
    have p13 := p2.trans p3
    have hR3 := pot_tup pk p13 _ _ hR
    have rs3 := Dts.pot rs p13
    have hn3 := p13.kp _ _ hn nnp
    have hj : j < vs.length := by omega
    have hjd : j < ds.length := by omega
    obtain ⟨vj, hvj, rj⟩ := rs3.get (List.getElem?_eq_getElem hjd)
    obtain ⟨fs, ef, f0, f3, fi⟩ := it _ (List.getElem_mem hjd)
    rw [ef] at rj
    obtain ⟨aj, us, rfl, naj, haj, ruj⟩ := dt_tup rj
    refine ⟨_, rfl, _, rfl, _, rfl, r, _, rfl, hR3, fun t1 H4 S4 h4 => ?_⟩
    rw [cut_to] at h4
    have g4 := p13.trans (pot_of_same p13.ok S4)
    refine ⟨_, rfl, _, rfl, _, rfl, r, _, _, _, rfl, rfl, SqT.of (S4 _ _ hR3), atI_nat hvj, _, rfl, ps_sp (k := 3) (b := 10) g4.ok (S4 _ _ haj) (Dts.keep (fun a o e _ => S4 a o e) ruj) f0 f3 (by decide) (by decide) fi (S4 _ _ hn3) nm h20 fun u e H5 p5 ru sq => ⟨by show 1 ≤ sizeLine; rw [sizeLine_eq]; decide, fun t2 ht2 => ?_⟩⟩
    have S6 := same_new (o := .tup [u]) ht2
    have g5 := g4.trans p5
    refine ⟨t1, t2, _, _, rfl, rfl, S6 _ _ (pot_tup g4.ok p5 _ _ h4), upd_same, by rw [List.length_take, sizeLine_eq]; show _ + 1 ≤ _; omega, fun t3 H7 S7 h7 => ?_⟩
    have S67 := S6.trans S7
    refine ⟨_, rfl, _, rfl, _, _, rfl, rfl, _, rfl, r, _, rfl, S67 _ _ (pot_tup g4.ok p5 _ _ (S4 _ _ hR3)), fun t4 H8 S8 h8 => ?_⟩
    rw [show ((j : Int) + 1) = ((j + 1 : Nat) : Int) from rfl, cut_from] at h8
    refine ⟨t3, t4, _, _, rfl, rfl, S8 _ _ h7, h8, by rw [List.length_append, List.length_take, List.length_drop, sizeLine_eq]; show _ + 1 + _ ≤ _; omega, fun t H9 S9 h9' => ?_⟩
    have S := S67.trans (S8.trans S9)
    have rs9 := Dts.keep (fun a o e _ => S a o e) (Dts.pot (Dts.keep (fun a o e _ => S4 a o e) rs3) p5)
    have ru9 := Dt.keep (fun a o e _ => S a o e) ru
    have g9 := g5.trans (pot_of_same g5.ok S)
    refine q _ _ H9 g9 (.tup (pot_tupne g9.ok h9') h9' (((rs9.take j).app (.cons ru9 .nil)).app (rs9.drop (j + 1)))) (th_of (b := 44) (k := 10) (.tup (by rw [List.length_append, List.length_append, List.length_take, List.length_drop]; show _ + 1 + _ ≤ _; omega) fun e' he => ?_) (by decide) (by decide))
    rcases List.mem_append.mp he with z | z
    · rcases List.mem_append.mp z with z | z
      · exact it44 _ (List.mem_of_mem_take z)
      · rw [List.mem_singleton.mp z]; exact ⟨sq.bulk, sq.ok⟩
    · exact it44 _ (List.mem_of_mem_drop z)
end
end K14
namespace K14
open PySem L2 PySem.W HT
theorem cut_mid (xs : List V) (h t : Nat) (hh : h ≤ xs.length) (ht : t ≤ xs.length) : cutV xs (some (h : Int)) (some (t : Int)) = (xs.drop h).take (t - h) := by
  unfold cutV; rw [HT.sIx_nat, HT.sIx_nat, Nat.min_eq_left hh, Nat.min_eq_left ht]
theorem perm_two {a b : Str} {s : List Str} {h t : Nat} (l : h ≤ t) : ((s.take h ++ [a] ++ (s.drop h).take (t - h)) ++ [b] ++ s.drop t).Perm (a :: b :: s) := by
  have e : s.take h ++ (s.drop h).take (t - h) = s.take t := by
    rw [← List.take_add]; congr 1; omega
  have p1 : (s.take h ++ [a] ++ (s.drop h).take (t - h)).Perm (a :: s.take t) := by
    rw [← e, List.append_assoc]
    exact List.perm_middle
  have p2 : ((s.take h ++ [a] ++ (s.drop h).take (t - h)) ++ [b] ++ s.drop t).Perm ((a :: s.take t) ++ [b] ++ s.drop t) := (p1.append_right _).append_right _
  refine p2.trans ?_
  rw [List.append_assoc]
  have p3 : ((a :: s.take t) ++ ([b] ++ s.drop t)).Perm (b :: ((a :: s.take t) ++ s.drop t)) := List.perm_middle
  refine p3.trans ?_
  rw [List.cons_append, List.take_append_drop]
  exact List.Perm.swap _ _ _
section
variable {P : Program} {w : World} {K : Frag} {mg : Str → Option Value} {base : Heap} {f : Addr} {fd : FuncData}
abbrev WdQ (p : Addr) (ys : List Str) (m : Nat) (H : Hp) (Q : VK) : Prop := ∀ (l : Addr) (ws : List V) (rows : List (List Str)) (H' : Hp), H l = none → PotAt p H H' → H' l = some (.lst ws) → RowsV H' ws rows → rows.length ≤ m → (∀ r ∈ rows, r.Nodup ∧ r.length ≤ 20 ∧ ∀ x ∈ r, x ∈ ys) → Q (.ref l) H'
@[irreducible] def spWd : Sp := fun vs H Q _ => ∃ (p n : Addr) (ys : List Str) (m : Nat), vs = [.ref p, .ref n, .int (m : Int)] ∧ PotOk p H ∧ H n = some (.lst (ys.map V.str)) ∧ ys.length ≤ 9 ∧ ys.Nodup ∧ 2 ≤ m ∧ m ≤ ys.length ∧ WdQ p ys m H Q
theorem wd_sp {p n : Addr} {ys : List Str} {m : Nat} {H : Hp} {Q : VK} {E : XK} (h : PotOk p H) (hn : H n = some (.lst (ys.map V.str))) (h9 : ys.length ≤ 9) (nd : ys.Nodup) (m2 : 2 ≤ m) (hm : m ≤ ys.length) (q : WdQ p ys m H Q) : spWd [.ref p, .ref n, .int (m : Int)] H Q E := by unfold spWd; exact ⟨p, n, ys, m, rfl, h, hn, h9, nd, m2, hm, q⟩
abbrev nWd : List Str := ["_law_pot_here", "_law_names_here", "_law_many", "_law_rows", "_law_k", "_law_a", "_law_b", "_law_others", "_law_some", "_law_at", "_law_ahead", "_law_row"]
theorem scWd : FnScope nWd ["_law_pot_here", "_law_names_here", "_law_many"] (defScope sWished) := ⟨rfl, rfl, rfl, by decide +kernel, rfl, by decide +kernel, by decide +kernel⟩
abbrev bWd : List Stmt := forBody (bodyAt (defBody sWished) 1)
abbrev eWd1 : Expr := asgV (bodyAt bWd 1)
abbrev eWd2 : Expr := asgV (bodyAt bWd 2)
theorem csWd1 : CompScope nWd (defScope sWished) ["_law_name", "_law_a", "_law_b"] [none, some 5, some 6] (compSc eWd1) := ⟨rfl, by decide +kernel, by decide +kernel, rfl, fv_of (by decide +kernel), by decide +kernel⟩
theorem csWd2 : CompScope nWd (defScope sWished) ["_law_name", "_law_pot_here"] [none, some 0] (compSc eWd2) := ⟨rfl, by decide +kernel, by decide +kernel, rfl, fv_of (by decide +kernel), by decide +kernel⟩
theorem ok_wd {fD fS : Addr} {dD dS : FuncData} (F : Fun K "_law_wished" "_law_wished" sWished f fd) (B : Blt mg)
    (GD : FnOk P w K mg base CX0 1 fD dD ["_law_pot_here", "_law_many"] spDigit) (kD : keepIn K (.ref fD) = true) (bD : Binds K dD ["_law_pot_here", "_law_many"] []) (mD : mg "_law_digit" = some (.ref fD))
    (GS : FnOk P w K mg base CX0 2 fS dS ["_law_pot_here", "_law_names_here"] spShuf) (kS : keepIn K (.ref fS) = true) (bS : Binds K dS ["_law_pot_here", "_law_names_here"] []) (mS : mg "_law_shuffled" = some (.ref fS)) : FnOk P w K mg base CX0 3 f fd ["_law_pot_here", "_law_names_here", "_law_many"] spWd := by
  refine F.ok scWd (fun vs H Q E h => ?_) (fun cdv A outer s H vs Q E hr h => ?_)
  · unfold spWd at h; obtain ⟨p, n, ys, m, rfl, _⟩ := h; rfl
  · unfold spWd at h
    obtain ⟨p, n, ys, m, rfl, pk, hn, h9, nd, m2, hm, q⟩ := h
    have hr2 : Room 2 _ := hr
    have hr1 : Room 1 _ := hr2.mono (by decide)
    refine ⟨_, pss_cons (ps_set (i := 3) scWd.nd rfl (Or.inl rfl) (pe_lst pa_nil))
      (pss_cons (ps_for PassesOwn.never rfl (pi_range1 rfl B.range (pa_cons (pv 2) pa_nil)) (pg_name (i := 4) scWd.nd rfl (Or.inl rfl))
        (pss_cons (ps_asg (pe_tup (pa_cons (pe_ix ix_list (pv 1) (pv 4) (fun _ _ => rfl)) (pa_cons (pe_ix ix_list (pv 1) (pe_op op_mod (pe_op op_add (pv 4) pe_int) (pv 2)) (fun _ _ => rfl)) pa_nil))) (pg_tup (n := 2) rfl (pgs_cons (pg_name (i := 5) scWd.nd rfl (Or.inr rfl)) (pgs_cons (pg_name (i := 6) scWd.nd rfl (Or.inr rfl)) pgs_nil))))
        (pss_cons (ps_setComp (i := 7) rfl csWd1 scWd.nd rfl rfl (pi_list (pe_call GS hr2 rfl mS kS bS .nil pass0 (pa_cons (pv 0) (pa_cons (pv 1) pa_nil)))) (fun s H fp => ⟨pg_name (i := 0) csWd1.nd rfl (Or.inl rfl), pifs_one (pt_cmpR (op_notIn_K K rfl) (pv 0) (pe_tup (pa_cons (pv 1) (pa_cons (pv 2) pa_nil))) rfl), pv 0⟩))
        (pss_cons (ps_setComp (i := 8) rfl csWd2 scWd.nd rfl rfl (pi_list (pv 7)) (fun s H fp => ⟨pg_name (i := 0) csWd2.nd rfl (Or.inl rfl), pifs_one (pt_cmpR op_eq (pe_call GD hr1 rfl mD kD bD .nil pass0 (pa_cons (pv 1) (pa_I pa_nil))) pe_int (nomark _)), pv 0⟩))
        (pss_cons (ps_set (i := 9) scWd.nd rfl (Or.inl rfl) (pe_call GD hr1 rfl mD kD bD .nil pass0 (pa_cons (pv 0) (pa_cons (pe_op op_add (pe_callB call_len_seq rfl B.len boot_len (pa_cons (pv 8) pa_nil)) pe_int) pa_nil))))
        (pss_cons (ps_set (i := 10) scWd.nd rfl (Or.inl rfl) (pe_call GD hr1 rfl mD kD bD .nil pass0 (pa_cons (pv 0) (pa_cons (pe_op op_add (pv 9) pe_int) pa_nil))))
        (pss_cons (ps_set (i := 11) scWd.nd rfl (Or.inl rfl) (pe_op op_cat (pe_op op_cat (pe_slice sl_list (pv 8) po_none (po_some (pv 10))) (pe_lst (pa_cons (pv 5) pa_nil))) (pe_slice sl_list (pv 8) (po_some (pv 10)) (po_some (pv 9)))))
        (pss_one (ps_expr (pe_bm PySem.F.plainAttrs_list PySem.F.slot_list_append PySem.F.type_list_append mt_append (pv 3) (pa_cons (pe_callTy call_tuple_of rfl B.tuple boot_tuple (pa_cons (pe_op op_cat (pe_op op_cat (pv 11) (pe_lst (pa_cons (pv 6) pa_nil))) (pe_slice sl_list (pv 8) (po_some (pv 9)) po_none)) pa_nil)) pa_nil)))))))))))
      (pss_one (ps_ret (pv 3)))), ?_⟩
    have nnp : n ≠ p := strs_pot pk hn
    refine ⟨Nat.zero_le _, fun ra hra => ?_⟩
    have npr : p ≠ ra := pk.ne hra
    have g1 := (PotAt.refl pk).new (o := .lst []) hra
    refine ⟨_, rfl, (m : Int), rfl, by omega, by omega, for_range (fun i σ H3 => ∃ (ws : List V) (rows : List (List Str)) (v4 v5 v6 v7 v8 v9 v10 v11 : Option V), σ = [some (.ref p), some (.ref n), some (.int (m : Int)), some (.ref ra), v4, v5, v6, v7, v8, v9, v10, v11] ∧ PotAt p H H3 ∧ H3 ra = some (.lst ws) ∧ RowsV H3 ws rows ∧ rows.length = i ∧ ∀ r ∈ rows, r.Nodup ∧ r.length ≤ 20 ∧ ∀ x ∈ r, x ∈ ys) ⟨[], [], none, none, none, none, none, none, none, none, rfl, g1, upd_same, .nil, rfl, fun r hr => by cases hr⟩ (fun i σ H3 hi hP => ?_) (fun σ H3 hP => ?_)⟩
    · obtain ⟨ws, rows, v4, v5, v6, v7, v8, v9, v10, v11, rfl, g3, hra3, hR3, hl3, all3⟩ := hP
      have hi' : i < m := by simpa using hi
      have hn3 := g3.kp _ _ hn nnp
      rw [Int.zero_add]
      obtain ⟨xa, xb, A1, A2, am, bm, hab⟩ : ∃ xa xb : Str, atI (ys.map V.str) (i : Int) = some (.str xa) ∧ atI (ys.map V.str) (((i : Int) + 1) % (m : Int)) = some (.str xb) ∧ xa ∈ ys ∧ xb ∈ ys ∧ xa ≠ xb := by
        have hiy : i < ys.length := by omega
        have hj : (i + 1) % m < ys.length := Nat.lt_of_lt_of_le (Nat.mod_lt _ (by omega)) hm
        refine ⟨ys[i], ys[(i + 1) % m], atI_nat (by rw [List.getElem?_map, List.getElem?_eq_getElem hiy]; rfl), ?_, List.getElem_mem hiy, List.getElem_mem hj, fun z => ?_⟩
        · rw [show (((i : Int) + 1) % (m : Int)) = (((i + 1) % m : Nat) : Int) by rw [Int.natCast_emod]; rfl]
          exact atI_nat (by rw [List.getElem?_map, List.getElem?_eq_getElem hj]; rfl)
        · have e := (List.getElem_inj nd).mp z
          by_cases h : i + 1 < m
          · rw [Nat.mod_eq_of_lt h] at e; omega
          · rw [show i + 1 = m by omega, Nat.mod_self] at e; omega
      refine ⟨_, rfl, _, rfl, n, _, _, .str xa, rfl, rfl, SqL.of hn3, A1, ?_⟩
      refine ⟨_, rfl, _, rfl, _, _, rfl, rfl, _, rfl, _, _, rfl, rfl, by omega, n, _, _, .str xb, rfl, rfl, SqL.of hn3, A2, by show 2 ≤ sizeLine; rw [sizeLine_eq]; decide, fun t ht => ?_⟩
      have S4 := same_new (o := .tup [V.str xa, V.str xb]) ht
      have h4 : upd H3 t (.tup [V.str xa, V.str xb]) t = _ := upd_same
      generalize upd H3 t (.tup [V.str xa, V.str xb]) = H4 at S4 h4 ⊢
      have p4 := pot_of_same g3.ok S4
      refine ⟨t, _, rfl, SqT.of h4, rfl, _, _, rfl, _, _, rfl, rfl, ?_⟩
      refine ⟨_, rfl, _, rfl, shuf_sp p4.ok (Ne.symm nnp) (S4 _ _ hn3) (by omega) fun la zs H5 hla hz p5 h5 => ⟨la, rfl, ⟨_, SqL.of h5⟩, fun ca hca => ?_⟩⟩
      have npc : p ≠ ca := p5.ok.ne hca
      have ndz : zs.Nodup := hz.nodup_iff.mpr nd
      have zl : zs.length ≤ 9 := by rw [hz.length_eq]; exact h9
      refine comp_list (xs := zs.map V.str) (fun j us τ H6 => ∃ (t0 : Option V) (rs : List Str), us = rs.map V.str ∧ τ = [t0, some (.str xa), some (.str xb)] ∧ rs.Sublist (zs.take j) ∧ xa ∉ rs ∧ xb ∉ rs ∧ PotAt p H5 H6 ∧ H6 ca = some (.lst us)) ⟨none, [], rfl, rfl, List.nil_sublist _, by simp, by simp, (PotAt.refl p5.ok).new hca, upd_same⟩ (fun j us τ H6 ⟨_, rs, _, _, _, _, _, z, z2⟩ => ⟨z2, SqL.of (z.kp _ _ h5 (fun e => p4.ok.ne hla e.symm))⟩) ?_ ?_
      · rintro j x us τ H6 hx ⟨t0, rs, rfl, rfl, hsub, na, nb, p6, h6⟩
        have hjl : j < (zs.map V.str).length := (List.getElem?_eq_some_iff.mp hx).1
        have hjr : j < zs.length := by simpa using hjl
        obtain rfl : V.str zs[j] = x := by simpa [hjr] using hx
        have tkj : zs.take (j + 1) = zs.take j ++ [zs[j]] := by rw [List.take_succ, List.getElem?_eq_getElem hjr]; rfl
        have rl : rs.length ≤ 20 := by have := hsub.length_le; rw [List.length_take] at this; omega
        refine ⟨_, rfl, _, rfl, _, rfl, by show 2 ≤ sizeLine; rw [sizeLine_eq]; decide, fun t2 ht2 => ⟨t2, _, rfl, .inr (SqT.of upd_same), rfl, rfl, _, rfl, ?_⟩⟩
        have p7 := p6.new (o := .tup [V.str xa, V.str xb]) ht2
        have nct : ca ≠ t2 := ne_of_none h6 ht2
        have h7 : upd H6 t2 (.tup [V.str xa, V.str xb]) ca = some (.lst (rs.map V.str)) := by rw [upd_ne nct]; exact h6
        rw [if_pos rfl, show inV (.str zs[j]) [V.str xa, V.str xb] = decide (zs[j] ∈ [xa, xb]) from inV_strs _ [xa, xb]]
        refine ite2 (fun hb => ?_) (fun hb => ?_)
        · have hb' : zs[j] ∉ [xa, xb] := by simpa using hb
          have n1 : xa ≠ zs[j] := fun z => hb' (by rw [← z]; simp)
          have n2 : xb ≠ zs[j] := fun z => hb' (by rw [← z]; simp)
          refine ⟨_, rfl, h7, by rw [List.length_map, sizeLine_eq]; omega, cw_next hjl ⟨_, rs ++ [zs[j]], by rw [List.map_append]; rfl, rfl, ?_, ?_, ?_, p7.write hca npc, upd_same⟩⟩
          · rw [tkj]; exact hsub.append (List.Sublist.refl _)
          · simp [na, n1]
          · simp [nb, n2]
        · refine cw_next hjl ⟨_, rs, rfl, rfl, ?_, na, nb, p7, h7⟩
          rw [tkj]; exact hsub.trans (List.sublist_append_left _ _)
      rintro us τ H6 ⟨t0, rs, rfl, rfl, hsub, na, nb, p6, h6⟩
      rw [List.length_map, List.take_length] at hsub
      have rl : rs.length ≤ 9 := by have := hsub.length_le; omega
      have ndr : rs.Nodup := hsub.nodup ndz
      have g6 := (g3.trans p4).trans (p5.trans p6)
      refine ⟨_, rfl, ca, rfl, ⟨_, SqL.of h6⟩, fun da hda => ?_⟩
      have npd : p ≠ da := p6.ok.ne hda
      refine comp_list (xs := rs.map V.str) (fun j us τ H7 => ∃ (t0 : Option V) (ss : List Str), us = ss.map V.str ∧ τ = [t0, some (.ref p)] ∧ ss.Sublist (rs.take j) ∧ PotAt p H6 H7 ∧ H7 da = some (.lst us)) ⟨none, [], rfl, rfl, List.nil_sublist _, (PotAt.refl p6.ok).new hda, upd_same⟩ (fun j us τ H7 ⟨_, ss, _, _, _, z, z2⟩ => ⟨z2, SqL.of (z.kp _ _ h6 (Ne.symm npc))⟩) ?_ ?_
      · rintro j x us τ H7 hx ⟨t0, ss, rfl, rfl, hsu2, p7, h7⟩
        have hjl : j < (rs.map V.str).length := (List.getElem?_eq_some_iff.mp hx).1
        have hjr : j < rs.length := by simpa using hjl
        obtain rfl : V.str rs[j] = x := by simpa [hjr] using hx
        have tkj : rs.take (j + 1) = rs.take j ++ [rs[j]] := by rw [List.take_succ, List.getElem?_eq_getElem hjr]; rfl
        have sl : ss.length ≤ 20 := by have := hsu2.length_le; rw [List.length_take] at this; omega
        refine ⟨_, rfl, digit_sp (p := p) (m := 2) p7.ok (by decide) (by decide) fun d H8 d0 d1 p8 => ⟨rfl, _, rfl, ?_⟩⟩
        have h8 := p8.kp _ _ h7 (Ne.symm npd)
        refine ite2 (fun hb => ?_) (fun hb => ?_)
        · refine ⟨_, rfl, h8, by rw [List.length_map, sizeLine_eq]; omega, cw_next hjl ⟨_, ss ++ [rs[j]], by rw [List.map_append]; rfl, rfl, ?_, (p7.trans p8).write hda npd, upd_same⟩⟩
          rw [tkj]; exact hsu2.append (List.Sublist.refl _)
        · refine cw_next hjl ⟨_, ss, rfl, rfl, ?_, p7.trans p8, h8⟩
          rw [tkj]; exact hsu2.trans (List.sublist_append_left _ _)
      rintro us τ H7 ⟨t0, ss, rfl, rfl, hsu2, p7, h7⟩
      rw [List.length_map, List.take_length] at hsu2
      have sl : ss.length ≤ 9 := by have := hsu2.length_le; omega
      have nds : ss.Nodup := hsu2.nodup ndr
      have na2 : xa ∉ ss := fun z => na (hsu2.subset z)
      have nb2 : xb ∉ ss := fun z => nb (hsu2.subset z)
      have sub2 : ∀ x ∈ ss, x ∈ ys := fun x hx => hz.mem_iff.mp (hsub.subset (hsu2.subset hx))
      have g7 := g6.trans p7
      refine ⟨_, rfl, _, rfl, da, _, rfl, .inl (SqL.of h7), _, _, rfl, rfl, ?_⟩
      refine digit_sp (p := p) (m := ((ss.map V.str).length : Int) + 1) p7.ok (by omega) (by rw [List.length_map]; omega) fun at_ H8 b0 b1 p8 => ?_
      obtain ⟨tt, rfl⟩ := Int.eq_ofNat_of_zero_le b0
      have htt : tt ≤ ss.length := by rw [List.length_map] at b1; omega
      refine ⟨_, rfl, _, rfl, _, _, rfl, rfl, ?_⟩
      refine digit_sp (p := p) (m := (tt : Int) + 1) p8.ok (by omega) (by omega) fun ah H9 c0 c1 p9 => ?_
      obtain ⟨hh, rfl⟩ := Int.eq_ofNat_of_zero_le c0
      have hht : hh ≤ tt := by omega
      have g9 := g7.trans (p8.trans p9)
      have h9' := p9.kp _ _ (p8.kp _ _ h7 (Ne.symm npd)) (Ne.symm npd)
      have p39 := p4.trans (p5.trans (p6.trans (p7.trans (p8.trans p9))))
      clear g7 p8 p9 g6 p4 p5 p6 p7
      refine ⟨_, rfl, _, rfl, _, rfl, da, _, rfl, SqL.of h9', fun s1 hs1 => ?_⟩
      rw [cut_to]
      have T1 := same_new (o := .lst ((ss.map V.str).take hh)) hs1
      have e1 : upd H9 s1 (.lst ((ss.map V.str).take hh)) s1 = _ := upd_same
      generalize upd H9 s1 (.lst ((ss.map V.str).take hh)) = J1 at T1 e1 ⊢
      refine ⟨_, rfl, by show 1 ≤ sizeLine; rw [sizeLine_eq]; decide, fun s2 hs2 => ?_⟩
      have T2 := same_new (o := .lst [V.str xa]) hs2
      have e2 : upd J1 s2 (.lst [V.str xa]) s2 = _ := upd_same
      generalize upd J1 s2 (.lst [V.str xa]) = J2 at T2 e2 ⊢
      refine ⟨s1, s2, _, _, rfl, rfl, T2 _ _ e1, e2, by rw [List.length_take, List.length_map, sizeLine_eq]; show _ + 1 ≤ _; omega, fun s3 hs3 => ?_⟩
      have T3 := same_new (o := .lst ((ss.map V.str).take hh ++ [V.str xa])) hs3
      have e3 : upd J2 s3 (.lst ((ss.map V.str).take hh ++ [V.str xa])) s3 = _ := upd_same
      generalize upd J2 s3 (.lst ((ss.map V.str).take hh ++ [V.str xa])) = J3 at T3 e3 ⊢
      have T13 := T1.trans (T2.trans T3)
      refine ⟨_, rfl, _, rfl, _, rfl, _, rfl, _, rfl, da, _, rfl, SqL.of (T13 _ _ h9'), fun s4 hs4 => ?_⟩
      rw [cut_mid _ _ _ (by rw [List.length_map]; omega) (by rw [List.length_map]; omega)]
      have T4 := same_new (o := .lst (((ss.map V.str).drop hh).take (tt - hh))) hs4
      have e4 : upd J3 s4 (.lst (((ss.map V.str).drop hh).take (tt - hh))) s4 = _ := upd_same
      generalize upd J3 s4 (.lst (((ss.map V.str).drop hh).take (tt - hh))) = J4 at T4 e4 ⊢
      refine ⟨s3, s4, _, _, rfl, rfl, T4 _ _ e3, e4, by rw [List.length_append, List.length_take, List.length_take, List.length_drop, List.length_map, sizeLine_eq]; show _ + 1 + _ ≤ _; omega, fun s5 hs5 => ?_⟩
      have T5 := same_new (o := .lst ((ss.map V.str).take hh ++ [V.str xa] ++ ((ss.map V.str).drop hh).take (tt - hh))) hs5
      have e5 : upd J4 s5 (.lst ((ss.map V.str).take hh ++ [V.str xa] ++ ((ss.map V.str).drop hh).take (tt - hh))) s5 = _ := upd_same
      generalize upd J4 s5 (.lst ((ss.map V.str).take hh ++ [V.str xa] ++ ((ss.map V.str).drop hh).take (tt - hh))) = J5 at T5 e5 ⊢
      have T15 := T13.trans (T4.trans T5)
      have hra9 := p39.kp _ _ hra3 (Ne.symm npr)
      refine ⟨_, rfl, .inl ⟨rfl, _, SqL.of (T15 _ _ hra9)⟩, _, rfl, _, rfl, by show 1 ≤ sizeLine; rw [sizeLine_eq]; decide, fun s6 hs6 => ?_⟩
      have T6 := same_new (o := .lst [V.str xb]) hs6
      have e6 : upd J5 s6 (.lst [V.str xb]) s6 = _ := upd_same
      generalize upd J5 s6 (.lst [V.str xb]) = J6 at T6 e6 ⊢
      refine ⟨s5, s6, _, _, rfl, rfl, T6 _ _ e5, e6, by rw [List.length_append, List.length_append, List.length_take, List.length_take, List.length_drop, List.length_map, sizeLine_eq]; show _ + 1 + _ + 1 ≤ _; omega, fun s7 hs7 => ?_⟩
      have T7 := same_new (o := .lst ((ss.map V.str).take hh ++ [V.str xa] ++ ((ss.map V.str).drop hh).take (tt - hh) ++ [V.str xb])) hs7
      have e7 : upd J6 s7 (.lst ((ss.map V.str).take hh ++ [V.str xa] ++ ((ss.map V.str).drop hh).take (tt - hh) ++ [V.str xb])) s7 = _ := upd_same
      generalize upd J6 s7 (.lst ((ss.map V.str).take hh ++ [V.str xa] ++ ((ss.map V.str).drop hh).take (tt - hh) ++ [V.str xb])) = J7 at T7 e7 ⊢
      have T17 := T15.trans (T6.trans T7)
      refine ⟨_, rfl, _, rfl, _, rfl, da, _, rfl, SqL.of (T17 _ _ h9'), fun s8 hs8 => ?_⟩
      rw [cut_from]
      have T8 := same_new (o := .lst ((ss.map V.str).drop tt)) hs8
      have e8 : upd J7 s8 (.lst ((ss.map V.str).drop tt)) s8 = _ := upd_same
      generalize upd J7 s8 (.lst ((ss.map V.str).drop tt)) = J8 at T8 e8 ⊢
      obtain ⟨ls, els, lsp⟩ : ∃ ls : List Str, ((ss.map V.str).take hh ++ [V.str xa] ++ ((ss.map V.str).drop hh).take (tt - hh) ++ [V.str xb] ++ (ss.map V.str).drop tt) = ls.map V.str ∧ ls.Perm (xa :: xb :: ss) := ⟨_, by simp only [List.map_append, List.map_take, List.map_drop, List.map_cons, List.map_nil], perm_two hht⟩
      have lll : ls.length ≤ 11 := by rw [lsp.length_eq]; simp only [List.length_cons]; omega
      refine ⟨s7, s8, _, _, rfl, rfl, T8 _ _ e7, e8, by rw [← List.length_append, els, List.length_map, sizeLine_eq]; omega, fun s9 hs9 => ?_⟩
      rw [els]
      have T9 := same_new (o := .lst (ls.map V.str)) hs9
      refine ⟨s9, _, rfl, .inl ⟨SqL.of upd_same, fun tp htp => ?_⟩⟩
      have T10 := same_new (o := .tup (ls.map V.str)) htp
      have e10 : upd (upd J8 s9 (.lst (ls.map V.str))) tp (.tup (ls.map V.str)) tp = _ := upd_same
      have TT := T17.trans (T8.trans (T9.trans T10))
      generalize upd (upd J8 s9 (.lst (ls.map V.str))) tp (.tup (ls.map V.str)) = J10 at TT e10 ⊢
      have g10 := g9.trans (pot_of_same g9.ok TT)
      have hra10 := TT _ _ hra9
      have hwl := hR3.length
      refine ⟨ra, _, _, rfl, rfl, hra10, by rw [sizeLine_eq]; omega, ?_⟩
      have up : ∀ b xs, J10 b = some (.tup xs) → upd J10 ra (.lst (ws ++ [.ref tp])) b = some (.tup xs) := fun b xs e => by rw [upd_ne (ne_of e hra10 (by intro z; cases z))]; exact e
      refine ⟨_, rows ++ [ls], _, _, _, _, _, _, _, _, rfl, g10.write hra npr, upd_same, RowsV.append (rows_keep hR3 fun b xs e => up _ _ (TT _ _ (pot_tup g3.ok p39 _ _ e))) (up _ _ e10), by rw [List.length_append, hl3]; rfl, fun r hr => ?_⟩
      rcases List.mem_append.mp hr with z | z
      · exact all3 r z
      · rw [List.mem_singleton.mp z]
        refine ⟨lsp.nodup_iff.mpr ?_, by omega, fun x hx => ?_⟩
        · rw [List.nodup_cons, List.nodup_cons]
          refine ⟨fun z => ?_, nb2, nds⟩
          rcases List.mem_cons.mp z with z | z
          · exact hab z
          · exact na2 z
        · rcases List.mem_cons.mp (lsp.mem_iff.mp hx) with rfl | z
          · exact am
          rcases List.mem_cons.mp z with rfl | z
          · exact bm
          · exact sub2 x z
    · obtain ⟨ws, rows, v4, v5, v6, v7, v8, v9, v10, v11, rfl, g3, hra3, hR3, hl3, all3⟩ := hP
      exact ⟨_, rfl, q ra ws rows H3 hra g3 hra3 hR3 (by omega) all3⟩
end
end K14
namespace K14
open PySem L2 PySem.W HT
theorem boot_min : bootBuiltins "min" = some (.builtin "min") := by decide +kernel
section
variable {P : Program} {w : World} {K : Frag} {mg : Str → Option Value} {base : Heap} {f : Addr} {fd : FuncData}
theorem pot_sp {a : Addr} {ns : List Int} {k : Int} {H : Hp} {Q : VK} {E : XK} (h : SqL K H a (ns.map V.int)) (k0 : 0 ≤ k) (k1 : k ≤ 100) (hl : ns.length ≤ 63) (q : ∀ p H', H p = none → PotOk p H' → Same H H' → Q (.ref p) H') : spPot K [.ref a, .int k] H Q E := by
  unfold spPot
  exact ⟨a, ns, k, rfl, h, k0, k1, hl, fun p x y hp x0 y0 y1 => q p _ hp ⟨x, y, upd_same, x0, y0, y1⟩ (same_new hp)⟩
theorem names_sp {p : Addr} {m : Nat} {H : Hp} {Q : VK} {E : XK} (h : PotOk p H) (hm : m ≤ 20) (q : ∀ (l : Addr) (ys : List Str) (H' : Hp), H l = none → ys.length = m → (∀ y ∈ ys, Nm y) → ys.Nodup → PotAt p H H' → H' l = some (.lst (ys.map V.str)) → Q (.ref l) H') : spNames [.ref p, .int m] H Q E := by
  unfold spNames; exact ⟨p, m, rfl, h, hm, q⟩
theorem sqL_same {H H' : Hp} {a : Addr} {xs : List V} (h : SqL K H a xs) (s : Same H H') : SqL K H' a xs := by
  rcases h with (h | ⟨o, h⟩) | h
  · exact .inl (.inl (s _ _ h))
  · exact .inl (.inr ⟨o, s _ _ h⟩)
  · exact .inr h
def nmsOf (ys : List Str) (rows : List (List Str)) : List Str := ys.filter fun x => rows.any fun r => decide (x ∈ r)
theorem nms_ok {ys : List Str} {rows : List (List Str)} (nd : ys.Nodup) (h9 : ys.length ≤ 9) (sub : ∀ r ∈ rows, ∀ x ∈ r, x ∈ ys) : NmO rows (nmsOf ys rows) := by
  refine ⟨nd.filter _, fun x => ?_, Nat.le_trans (List.length_filter_le _ _) (by omega)⟩
  unfold nmsOf
  rw [List.mem_filter]
  constructor
  · rintro ⟨_, h⟩
    obtain ⟨r, hr, hx⟩ := List.any_eq_true.mp h
    exact ⟨r, hr, of_decide_eq_true hx⟩
  · rintro ⟨r, hr, hx⟩
    exact ⟨sub r hr x hx, List.any_eq_true.mpr ⟨r, hr, decide_eq_true hx⟩⟩
@[irreducible] def spLaw (K : Frag) : Sp := fun vs H Q _ => ∃ (a : Addr) (ns : List Int), vs = [.ref a] ∧ SqL K H a (ns.map V.int) ∧ ns.length ≤ 63 ∧ ∀ H', Q (.bl true) H'
abbrev nLaw : List Str := ["_law_script", "_law_k", "_law_pot_here", "_law_has_ring", "_law_many", "_law_names_here", "_law_rows", "_law_ring", "_law_order", "_law_turn", "_law_thing"]
theorem scLaw : FnScope nLaw ["_law_script"] (defScope sLaw) := ⟨rfl, rfl, rfl, by decide +kernel, rfl, by decide +kernel, by decide +kernel⟩
abbrev bLaw : List Stmt := forBody (bodyAt (defBody sLaw) 0)
abbrev eLw : Expr := arg0 (asgV (bodyAt bLaw 6))
def if0 (e : Expr) : Expr := match e with | .ListComp _ (g :: _) _ _ => g.ifs.getD 0 (.Constant .none 0 ⟨0, 0, 0, 0⟩) | _ => .Constant .none 0 ⟨0, 0, 0, 0⟩
abbrev scLO : Scope := compSc eLw
abbrev scLI : Scope := compSc (arg0 (if0 eLw))
theorem csLO : CompScope nLaw (defScope sLaw) ["_law_name", "_law_rows"] [none, some 6] scLO := ⟨rfl, by decide +kernel, by decide +kernel, rfl, fv_of (by decide +kernel), by decide +kernel⟩
theorem csLI {env : Env} : CompScope ["_law_name", "_law_rows"] (relabel scLO env) ["_law_row", "_law_name"] [none, some 0] scLI := nest rfl (by decide +kernel) (by decide +kernel) rfl (by decide +kernel) (by decide +kernel)
theorem ndLI : (["_law_row", "_law_name"] : List Str).Nodup := by decide +kernel
theorem call_anyK {X : Cx} (K : Frag) (h : X.K = K) (hc : X.calm = true) : CallR X (.builtin "any") (fun xs H Q => ∃ (p : Addr) (bs : List Bool), xs = [.ref p] ∧ SqL K H p (bs.map V.bl) ∧ Q (.bl (bs.any id)) H) := by subst h; exact call_anyB hc
theorem via2 {G : Prop} {Cond C : Addr → Addr → Hp → Prop} (h1 : (∀ a b H6, Cond a b H6 → C a b H6) → G) (h2 : ∀ a b H6, Cond a b H6 → C a b H6) : G := h1 h2
theorem rows_app {H : Hp} : ∀ {vs us : List V} {rs qs : List (List Str)}, RowsV H vs rs → RowsV H us qs → RowsV H (vs ++ us) (rs ++ qs)
  | _, _, _, _, .nil, q => q
  | _, _, _, _, .cons a b, q => .cons a (rows_app b q)
theorem str_dts {p : Addr} {H : Hp} : ∀ xs : List Str, Dts p H (xs.map V.str) (xs.map PyData.str)
  | [] => .nil
  | x :: xs => .cons (.str x) (str_dts xs)
theorem strI_all {xs : List Str} (nm : ∀ x ∈ xs, Nm x) : ∀ e ∈ xs.map PyData.str, StrI e := fun e he => by
  obtain ⟨x, hx, rfl⟩ := List.mem_map.mp he
  exact ⟨x, rfl, nm x hx⟩
theorem ok_law {fP fD fN fS fL fR fW fSp fT fI fJ fK fM : Addr} {dP dD dN dS dL dR dW dSp dT dI dJ dK dM : FuncData} (F : Fun K "law" "law" sLaw f fd) (B : Blt mg) (B3 : Blt3 mg)
    (GP : FnOk P w K mg base CX0 1 fP dP ["_law_script", "_law_k"] (spPot K)) (kP : keepIn K (.ref fP) = true) (bP : Binds K dP ["_law_script", "_law_k"] []) (mP : mg "_law_pot" = some (.ref fP))
    (GD : FnOk P w K mg base CX0 1 fD dD ["_law_pot_here", "_law_many"] spDigit) (kD : keepIn K (.ref fD) = true) (bD : Binds K dD ["_law_pot_here", "_law_many"] []) (mD : mg "_law_digit" = some (.ref fD))
    (GN : FnOk P w K mg base CX0 3 fN dN ["_law_pot_here", "_law_many"] spNames) (kN : keepIn K (.ref fN) = true) (bN : Binds K dN ["_law_pot_here", "_law_many"] []) (mN : mg "_law_names" = some (.ref fN))
    (GS : FnOk P w K mg base CX0 2 fS dS ["_law_pot_here", "_law_names_here"] spShuf) (kS : keepIn K (.ref fS) = true) (bS : Binds K dS ["_law_pot_here", "_law_names_here"] []) (mS : mg "_law_shuffled" = some (.ref fS))
    (GL : FnOk P w K mg base CX0 2 fL dL ["_law_pot_here", "_law_names_here", "_law_most"] spPl) (kL : keepIn K (.ref fL) = true) (bL : Binds K dL ["_law_pot_here", "_law_names_here", "_law_most"] []) (mL : mg "_law_plain_rows" = some (.ref fL))
    (GR : FnOk P w K mg base CX0 2 fR dR ["_law_pot_here", "_law_names_here", "_law_many"] spRo) (kR : keepIn K (.ref fR) = true) (bR : Binds K dR ["_law_pot_here", "_law_names_here", "_law_many"] []) (mR : mg "_law_ring_of" = some (.ref fR))
    (GW : FnOk P w K mg base CX0 3 fW dW ["_law_pot_here", "_law_names_here", "_law_many"] spWd) (kW : keepIn K (.ref fW) = true) (bW : Binds K dW ["_law_pot_here", "_law_names_here", "_law_many"] []) (mW : mg "_law_wished" = some (.ref fW))
    (GSp : FnOk P w K mg base CX0 4 fSp dSp ["_law_pot_here", "_law_good", "_law_names_here"] spSp) (kSp : keepIn K (.ref fSp) = true) (bSp : Binds K dSp ["_law_pot_here", "_law_good", "_law_names_here"] []) (mSp : mg "_law_spoilt" = some (.ref fSp))
    (GT : FnOk P w K mg base CX0 1 fT dT nTd spTd) (kT : keepIn K (.ref fT) = true) (bT : Binds K dT nTd []) (mT : mg "_law_is_told" = some (.ref fT))
    (GI : FnOk P w K mg base CX0 3 fI dI ["rows", "thing"] spIsRg) (kI : keepIn K (.ref fI) = true) (bI : Binds K dI ["rows", "thing"] []) (mI : mg "is_ring" = some (.ref fI))
    (GJ : FnOk P w K mg base CX0 2 fJ dJ ["_law_rows", "_law_ring"] spIsRg) (kJ : keepIn K (.ref fJ) = true) (bJ : Binds K dJ ["_law_rows", "_law_ring"] []) (mJ : mg "_law_is_round" = some (.ref fJ))
    (GK : FnOk P w K mg base CX0 3 fK dK ["rows", "thing"] spKp) (kK : keepIn K (.ref fK) = true) (bK : Binds K dK ["rows", "thing"] []) (mK : mg "keeps" = some (.ref fK))
    (GM : FnOk P w K mg base CX0 1 fM dM ["_law_rows", "_law_order"] spKt) (kM : keepIn K (.ref fM) = true) (bM : Binds K dM ["_law_rows", "_law_order"] []) (mM : mg "_law_is_kept" = some (.ref fM)) :
    FnOk P w K mg base CX0 5 f fd ["_law_script"] (spLaw K) := by
  refine F.ok scLaw (fun vs H Q E h => ?_) (fun cdv A outer s H vs Q E hr h => ?_)
  · unfold spLaw at h; obtain ⟨a, ns, rfl, _⟩ := h; rfl
  · unfold spLaw at h
    obtain ⟨a, sc, rfl, hS, hns, q⟩ := h
    have hr4 : Room 4 _ := hr
    have hr3 : Room 3 _ := hr4.mono (by decide)
    have hr2 : Room 2 _ := hr4.mono (by decide)
    have hr1 : Room 1 _ := hr4.mono (by decide)
    refine ⟨_, pss_cons (ps_for PassesOwn.never rfl (pi_range1 rfl B.range (pa_cons (pe_callB (call_max2 rfl) rfl B.max boot_max (pa_I (pa_cons (pe_callB (call_min2 rfl) rfl B.min boot_min (pa_I (pa_cons (pe_callB call_len_seq rfl B.len boot_len (pa_cons (pv 0) pa_nil)) pa_nil))) pa_nil))) pa_nil)) (pg_name (i := 1) scLaw.nd rfl (Or.inl rfl))
        (pss_cons (ps_set (i := 2) scLaw.nd rfl (Or.inl rfl) (pe_call GP hr1 rfl mP kP bP .nil pass0 (pa_cons (pv 0) (pa_cons (pv 1) pa_nil))))
        (pss_cons (ps_par (i := 3) (j := 4) rfl scLaw.nd rfl rfl (by decide) rfl rfl (pa_cons (pe_cmpR op_eq (pe_call GD hr1 rfl mD kD bD .nil pass0 (pa_cons (pv 2) (pa_I pa_nil))) pe_int (nomark _)) (pa_cons (pe_op op_add pe_int (pe_call GD hr1 rfl mD kD bD .nil pass0 (pa_cons (pv 2) (pa_I pa_nil)))) pa_nil)) rfl)
        (pss_cons (ps_set (i := 5) scLaw.nd rfl (Or.inl rfl) (pe_call GS hr2 rfl mS kS bS .nil pass0 (pa_cons (pv 2) (pa_cons (pe_call GN hr3 rfl mN kN bN .nil pass0 (pa_cons (pv 2) (pa_cons (pe_op op_add (pv 4) (pe_call GD hr1 rfl mD kD bD .nil pass0 (pa_cons (pv 2) (pa_I pa_nil)))) pa_nil))) pa_nil))))
        (pss_cons (ps_set (i := 6) scLaw.nd rfl (Or.inr rfl) (pe_call GL hr2 rfl mL kL bL .nil pass0 (pa_cons (pv 2) (pa_cons (pv 5) (pa_cons (pe_ix ix_list (pe_lst (pa_I (pa_I pa_nil))) (pe_callTy call_int1 rfl B3.int boot_int (pa_cons (pv 3) pa_nil)) (fun _ _ => rfl)) pa_nil)))))
        (pss_cons (ps_set (i := 7) scLaw.nd rfl (Or.inl rfl) (pe_tup (pa_T (pa_I (pa_cons (pe_ix ix_list (pv 5) pe_int (fun _ _ => rfl)) (pa_cons (pe_ix ix_list (pv 5) pe_int (fun _ _ => rfl)) pa_nil))) (pa_T (pa_I (pa_cons (pe_ix ix_list (pv 5) pe_int (fun _ _ => rfl)) (pa_cons (pe_ix ix_list (pv 5) pe_int (fun _ _ => rfl)) pa_nil))) pa_nil))))
        (pss_cons (ps_if (pt_val (pv 3))
          (pss_cons (ps_set (i := 7) scLaw.nd rfl (Or.inl rfl) (pe_call GR hr2 rfl mR kR bR .nil pass0 (pa_cons (pv 2) (pa_cons (pv 5) (pa_cons (pv 4) pa_nil)))))
          (pss_one (ps_set (i := 6) scLaw.nd rfl (Or.inr rfl) (pe_op op_cat (pe_call GW hr3 rfl mW kW bW .nil pass0 (pa_cons (pv 2) (pa_cons (pv 5) (pa_cons (pv 4) pa_nil)))) (pv 6))))) pss_nil)
        (pss_cons (ps_set (i := 8) scLaw.nd rfl (Or.inl rfl) (pe_callTy call_tuple_of rfl B.tuple boot_tuple (pa_cons (pe_comp rfl csLO (pi_list (pv 5)) (fun s H fp => ⟨pg_name (i := 0) csLO.nd rfl (Or.inr rfl), pifs_one (pt_val (pe_callB (call_anyK K rfl rfl) rfl B.any boot_any (pa_cons (pe_comp rfl csLI (pi_list_K K rfl (pv 1)) (fun s H fp => ⟨pg_name (i := 0) ndLI rfl (Or.inl rfl), pifs_nil, pe_cmpR (op_in_K K rfl) (pv 1) (pv 0) rfl⟩)) pa_nil))), pv 0⟩)) pa_nil)))
        (pss_cons (ps_set (i := 6) scLaw.nd rfl (Or.inr rfl) (pe_callTy call_tuple_of rfl B.tuple boot_tuple (pa_cons (pv 6) pa_nil)))
        (pss_one (ps_for PassesOwn.never rfl (pi_range1 rfl B.range (pa_I pa_nil)) (pg_name (i := 9) scLaw.nd rfl (Or.inl rfl))
          (pss_cons (ps_set (i := 10) scLaw.nd rfl (Or.inl rfl) (pe_call GSp hr4 rfl mSp kSp bSp .nil pass0 (pa_cons (pv 2) (pa_cons (pv 7) (pa_cons (pv 5) pa_nil)))))
          (pss_cons (ps_ifRet (pt_not (pt_val (pe_call GT hr1 rfl mT kT bT .nil pass0 (pa_cons (pe_call GI hr3 rfl mI kI bI .nil pass0 (pa_cons (pv 6) (pa_cons (pv 10) pa_nil))) (pa_cons (pe_call GJ hr2 rfl mJ kJ bJ .nil pass0 (pa_cons (pv 6) (pa_cons (pv 10) pa_nil))) pa_nil))))) pe_bl)
          (pss_cons (ps_set (i := 10) scLaw.nd rfl (Or.inl rfl) (pe_call GSp hr4 rfl mSp kSp bSp .nil pass0 (pa_cons (pv 2) (pa_cons (pv 8) (pa_cons (pv 5) pa_nil)))))
          (pss_one (ps_ifRet (pt_not (pt_val (pe_call GT hr1 rfl mT kT bT .nil pass0 (pa_cons (pe_call GK hr3 rfl mK kK bK .nil pass0 (pa_cons (pv 6) (pa_cons (pv 10) pa_nil))) (pa_cons (pe_call GM hr1 rfl mM kM bM .nil pass0 (pa_cons (pv 6) (pa_cons (pv 10) pa_nil))) pa_nil))))) pe_bl))))))))))))))))
      (pss_one (ps_ret pe_bl)), ?_⟩
    refine ⟨_, rfl, a, _, rfl, .inl hS, ?_⟩
    rw [List.length_map]
    refine ⟨_, _, rfl, _, _, rfl, _, rfl, ?_, ?_, for_range (fun i σ H1 => ∃ v1 v2 v3 v4 v5 v6 v7 v8 v9 v10 : Option V, σ = [some (.ref a), v1, v2, v3, v4, v5, v6, v7, v8, v9, v10] ∧ Same H H1) ⟨none, none, none, none, none, none, none, none, none, none, rfl, Same.refl _⟩ (fun i σ H1 hi hP => ?_) (fun σ H1 _ => q _)⟩
    · split <;> (try split) <;> omega
    · split <;> (try split) <;> omega
    obtain ⟨v1, v2, v3, v4, v5, v6, v7, v8, v9, v10, rfl, S1⟩ := hP
    have hi7 : i < 7 := by
      refine Nat.lt_of_lt_of_le hi ?_
      split <;> (try split) <;> omega
    refine ⟨_, rfl, _, rfl, pot_sp (sqL_same hS S1) (by omega) (by omega) hns fun p H2 hp pk S2 => ?_⟩
    refine ⟨_, rfl, digit_sp (p := p) (m := 2) pk (by decide) (by decide) fun dr H3 a0 a1 p3 => ⟨rfl, ?_⟩⟩
    refine ⟨_, rfl, digit_sp (p := p) (m := 3) p3.ok (by decide) (by decide) fun dm H4 b0 b1 p4 => ?_⟩
    obtain ⟨mm, rfl⟩ := Int.eq_ofNat_of_zero_le b0
    refine ⟨_, _, rfl, rfl, .bl (decide (V.int dr = V.int 1)), .int ((2 + mm : Nat) : Int), rfl, ?_⟩
    generalize decide (V.int dr = V.int 1) = hb
    have hm1 : 2 ≤ 2 + mm := by omega
    have hm2 : 2 + mm ≤ 4 := by omega
    generalize 2 + mm = m at hm1 hm2 ⊢
    refine ⟨_, rfl, _, rfl, _, rfl, _, rfl, digit_sp (p := p) (m := 5) p4.ok (by decide) (by decide) fun dn H5 c0 c1 p5 => ⟨_, _, rfl, rfl, ?_⟩⟩
    obtain ⟨nn, rfl⟩ := Int.eq_ofNat_of_zero_le c0
    refine names_sp (m := m + nn) p5.ok (by omega) fun l0 ys0 H6 hl0 hyl ynm0 ynd0 p6 h6 => ?_
    refine shuf_sp p6.ok (p5.ok.ne hl0) h6 (by omega) fun n ys H7 hn0 hpm p7 hn => ?_
    have yl : ys.length = m + nn := by rw [hpm.length_eq]; exact hyl
    have nm : ∀ y ∈ ys, Nm y := fun y hy => ynm0 y (hpm.mem_iff.mp hy)
    have nd : ys.Nodup := hpm.nodup_iff.mpr ynd0
    have g7 := p3.trans (p4.trans (p5.trans (p6.trans p7)))
    have nnp : n ≠ p := strs_pot g7.ok hn
    clear p3 p4 p5 p6 p7
    obtain ⟨mv, hat, mv6⟩ : ∃ mv : Nat, atI [V.int 6, V.int 2] (if hb = true then 1 else 0) = some (.int (mv : Int)) ∧ mv ≤ 6 := by
      cases hb
      · exact ⟨6, rfl, by decide⟩
      · exact ⟨2, rfl, by decide⟩
    refine ⟨_, rfl, _, rfl, by show 2 ≤ sizeLine; rw [sizeLine_eq]; decide, fun c hc => ⟨_, rfl, .inr ⟨_, rfl, c, _, _, _, rfl, rfl, SqL.of upd_same, hat, ?_⟩⟩⟩
    have g8 := g7.new (o := .lst [V.int 6, V.int 2]) hc
    have hn8 := same_new (o := .lst [V.int 6, V.int 2]) hc _ _ hn
    generalize upd H7 c (.lst [V.int 6, V.int 2]) = H8 at g8 hn8 ⊢
    refine pl_sp g8.ok hn8 (by omega) (by omega) fun rl ws rows H9 hrl p9 hrl9 hR9 hlen sub => ?_
    have g9 := g8.trans p9
    have hn9 := p9.kp _ _ hn8 nnp
    have nrp : rl ≠ p := Ne.symm (g8.ok.ne hrl)
    obtain ⟨y0, y1, yr, rfl⟩ : ∃ y0 y1 yr, ys = y0 :: y1 :: yr := by
      match ys, yl with
      | [], h => exact absurd h (by show ¬ 0 = _; omega)
      | [_], h => exact absurd h (by show ¬ 1 = _; omega)
      | y0 :: y1 :: yr, _ => exact ⟨y0, y1, yr, rfl⟩
    have A0 : atI ((y0 :: y1 :: yr).map V.str) 0 = some (V.str y0) := (show atI _ ((0 : Nat) : Int) = _ from atI_nat rfl)
    have A1 : atI ((y0 :: y1 :: yr).map V.str) 1 = some (V.str y1) := (show atI _ ((1 : Nat) : Int) = _ from atI_nat rfl)
    have m0 : y0 ∈ y0 :: y1 :: yr := List.mem_cons_self
    have m1 : y1 ∈ y0 :: y1 :: yr := List.mem_cons_of_mem _ List.mem_cons_self
    generalize y0 :: y1 :: yr = ys at yl nm nd hpm hn hn8 hn9 sub A0 A1 m0 m1 ⊢
    have three : 3 ≤ sizeLine := by rw [sizeLine_eq]; decide
    refine ⟨_, rfl, n, _, _, _, rfl, rfl, SqL.of hn9, A0, _, rfl, n, _, _, _, rfl, rfl, SqL.of hn9, A1, three, fun t1 ht1 => ?_⟩
    have S10 := same_new (o := .tup [V.int 0, V.str y0, V.str y1]) ht1
    have e10 : upd H9 t1 (.tup [V.int 0, V.str y0, V.str y1]) t1 = _ := upd_same
    generalize upd H9 t1 (.tup [V.int 0, V.str y0, V.str y1]) = H10 at S10 e10 ⊢
    have hn10 := S10 _ _ hn9
    refine ⟨_, rfl, n, _, _, _, rfl, rfl, SqL.of hn10, A1, _, rfl, n, _, _, _, rfl, rfl, SqL.of hn10, A0, three, fun t2 ht2 => ?_⟩
    have S11 := same_new (o := .tup [V.int 1, V.str y1, V.str y0]) ht2
    have e11 : upd H10 t2 (.tup [V.int 1, V.str y1, V.str y0]) t2 = _ := upd_same
    generalize upd H10 t2 (.tup [V.int 1, V.str y1, V.str y0]) = H11 at S11 e11 ⊢
    refine ⟨by show 2 ≤ sizeLine; rw [sizeLine_eq]; decide, fun t3 ht3 => ?_⟩
    have S12 := same_new (o := .tup [V.ref t1, V.ref t2]) ht3
    have e12 : upd H11 t3 (.tup [V.ref t1, V.ref t2]) t3 = _ := upd_same
    generalize upd H11 t3 (.tup [V.ref t1, V.ref t2]) = H12 at S12 e12 ⊢
    have S := S10.trans (S11.trans S12)
    have g12 := g9.trans (pot_of_same g9.ok S)
    have hn12 := S _ _ hn9
    have hrl12 := S _ _ hrl9
    have hR12 := hR9.same S
    have rows_ok : ∀ r ∈ rows, r.Nodup ∧ r.length ≤ 20 ∧ ∀ x ∈ r, x ∈ ys := fun r hr => ⟨(sub r hr).nodup nd, by have := (sub r hr).length_le; omega, fun x hx => (sub r hr).subset hx⟩
    refine ⟨_, rfl, _, rfl, ?_⟩
    apply via2 (Cond := fun rt rl' J => ∃ (vs : List V) (ds : List PyData) (ws : List V) (rows : List (List Str)), PotAt p H2 J ∧ J n = some (.lst (ys.map V.str)) ∧ J rt = some (.tup vs) ∧ Dts p J vs ds ∧ ds.length ≤ 9 ∧ (∀ e ∈ ds, TupI e) ∧ J rl' = some (.lst ws) ∧ RowsV J ws rows ∧ rows.length ≤ 10 ∧ ∀ r ∈ rows, r.Nodup ∧ r.length ≤ 20 ∧ ∀ x ∈ r, x ∈ ys)
    · intro cont
      refine ite2 (fun hb => ?_) (fun _ => ?_)
      · refine ⟨_, rfl, _, rfl, _, rfl, ro_sp g12.ok hn12 (by omega) (by omega) (by omega) fun u ds J p13 ru dl wa => ?_⟩
        obtain ⟨rt, vs, rfl, nr, hrt, rs⟩ := dt_tup ru
        have g13 := g12.trans p13
        refine ⟨_, rfl, _, rfl, _, rfl, wd_sp g13.ok (p13.kp _ _ hn12 nnp) (by omega) nd hm1 (by omega) fun wl wws wrows J2 hwl p14 hwl14 hRw wlen wall => ?_⟩
        have g14 := g13.trans p14
        have p24 := p13.trans p14
        have hl1 := hRw.length
        have hl2 := hR12.length
        refine ⟨_, rfl, wl, rl, _, _, rfl, rfl, hwl14, p24.kp _ _ hrl12 nrp, by rw [sizeLine_eq]; omega, fun l3 hl3 => ?_⟩
        have S15 := same_new (o := .lst (wws ++ ws)) hl3
        have e15 : upd J2 l3 (.lst (wws ++ ws)) l3 = _ := upd_same
        generalize upd J2 l3 (.lst (wws ++ ws)) = J3 at S15 e15 ⊢
        refine cont rt l3 J3 ⟨vs, ds, _, wrows ++ rows, g14.trans (pot_of_same g14.ok S15), S15 _ _ (p24.kp _ _ hn12 nnp), S15 _ _ (pot_tup g13.ok p14 _ _ hrt), Dts.keep (fun b o e _ => S15 b o e) (Dts.pot rs p14), by omega, fun e he => (wa e he).tup nm, e15, rows_app (hRw.same S15) ((rows_keep hR12 fun b xs e => pot_tup g12.ok p24 b xs e).same S15), by rw [List.length_append]; omega, fun r hr => ?_⟩
        rcases List.mem_append.mp hr with z | z
        · exact wall r z
        · exact rows_ok r z
      · refine cont t3 rl H12 ⟨_, [.tuple [.int 0, .str y0, .str y1], .tuple [.int 1, .str y1, .str y0]], ws, rows, g12, hn12, e12, ?_, by show 2 ≤ 9; decide, fun e he => ?_, hrl12, hR12, by omega, rows_ok⟩
        · have f1 := S12 _ _ (S11 _ _ e10)
          have f2 := S12 _ _ e11
          exact .cons (.tup (pot_tupne g12.ok f1) f1 (.cons (.int _) (.cons (.str _) (.cons (.str _) .nil)))) (.cons (.tup (pot_tupne g12.ok f2) f2 (.cons (.int _) (.cons (.str _) (.cons (.str _) .nil)))) .nil)
        · rcases List.mem_cons.mp he with rfl | he
          · exact (show WishAt ys _ from ⟨0, y0, y1, rfl, m0, m1⟩).tup nm
          · rw [List.mem_singleton.mp he]; exact (show WishAt ys _ from ⟨1, y1, y0, rfl, m1, m0⟩).tup nm
    clear hR12 hrl12 hn12 g12 hR9 hrl9 hn9 g9 p9 hn8 g8 sub rows_ok hlen hrl nrp S S10 S11 S12 e10 e11 e12
    rintro rt rl J ⟨vs, ds, ws, rows, gJ, hnJ, hrt, rds, dl, dti, hrl, hR, hl10, rows_ok⟩
    have hwl := hR.length
    refine ⟨_, rfl, n, rfl, ⟨_, SqL.of hnJ⟩, fun ca hca => ?_⟩
    refine comp_list (xs := ys.map V.str) (fun j zs τ J1 => ∃ (t0 : Option V) (rs : List Str), zs = rs.map V.str ∧ τ = [t0, some (.ref rl)] ∧ rs.Sublist (ys.take j) ∧ Same J J1 ∧ J1 ca = some (.lst zs)) ⟨none, [], rfl, rfl, List.nil_sublist _, same_new hca, upd_same⟩ (fun j zs τ J1 ⟨_, rs, _, _, _, z, z2⟩ => ⟨z2, SqL.of (z _ _ hnJ)⟩) ?_ ?_
    · rintro j x zs τ J1 hx ⟨t0, rs, rfl, rfl, hsub, SJ1, h1⟩
      have hjl : j < (ys.map V.str).length := (List.getElem?_eq_some_iff.mp hx).1
      have hjr : j < ys.length := by simpa using hjl
      obtain rfl : V.str ys[j] = x := by simpa [hjr] using hx
      have tkj : ys.take (j + 1) = ys.take j ++ [ys[j]] := by rw [List.take_succ, List.getElem?_eq_getElem hjr]; rfl
      have rsl : rs.length ≤ 20 := by have := hsub.length_le; rw [List.length_take] at this; omega
      refine ⟨_, rfl, rl, rfl, ⟨_, SqL.of (SJ1 _ _ hrl)⟩, fun ia hia => ?_⟩
      have nci : ca ≠ ia := ne_of_none h1 hia
      refine comp_list (xs := ws) (fun k bs τ' J2 => ∃ (t1 : Option V) (cs : List Bool), bs = cs.map V.bl ∧ cs.length = k ∧ τ' = [t1, some (.str ys[j])] ∧ Same J1 J2 ∧ J2 ia = some (.lst bs)) ⟨none, [], rfl, rfl, rfl, same_new hia, upd_same⟩ (fun k bs τ' J2 ⟨_, cs, _, _, _, z, z2⟩ => ⟨z2, SqL.of (z _ _ (SJ1 _ _ hrl))⟩) ?_ ?_
      · rintro k x bs τ' J2 hx2 ⟨t1, cs, rfl, hcl, rfl, SJ2, h2⟩
        obtain ⟨ar, r, rfl, hri, har⟩ := hR.get hx2
        have hkl : k < ws.length := (List.getElem?_eq_some_iff.mp hx2).1
        refine ⟨_, rfl, _, rfl, ar, _, rfl, .inr (SqT.of (SJ2 _ _ (SJ1 _ _ har))), rfl, flat_strs _, h2, by rw [List.length_map, sizeLine_eq]; omega, cw_next hkl ⟨_, cs ++ [_], by rw [List.map_append]; rfl, by rw [List.length_append, hcl]; rfl, rfl, fun b o e => ?_, upd_same⟩⟩
        rw [upd_ne (ne_of_none e hia)]; exact SJ2 _ _ e
      · rintro bs τ' J2 ⟨t1, cs, rfl, hcl, rfl, SJ2, h2⟩
        have h12 := SJ2 _ _ h1
        refine ⟨ia, cs, rfl, SqL.of h2, _, rfl, ?_⟩
        refine ite2 (fun _ => ?_) (fun _ => ?_)
        · refine ⟨_, rfl, h12, by rw [List.length_map, sizeLine_eq]; omega, cw_next hjl ⟨_, rs ++ [ys[j]], by rw [List.map_append]; rfl, rfl, ?_, fun b o e => ?_, upd_same⟩⟩
          · rw [tkj]; exact hsub.append (List.Sublist.refl _)
          · rw [upd_ne (ne_of_none e hca)]; exact SJ2 _ _ (SJ1 _ _ e)
        · refine cw_next hjl ⟨_, rs, rfl, rfl, ?_, SJ1.trans SJ2, h12⟩
          rw [tkj]; exact hsub.trans (List.sublist_append_left _ _)
    rintro zs τ J1 ⟨t0, rs, rfl, rfl, hsub, SJ1, h1⟩
    rw [List.length_map, List.take_length] at hsub
    have rsl : rs.length ≤ 8 := by have := hsub.length_le; omega
    refine ⟨ca, _, rfl, .inl ⟨SqL.of h1, fun ot hot => ?_⟩⟩
    have S2' := same_new (o := .tup (rs.map V.str)) hot
    have eo : upd J1 ot (.tup (rs.map V.str)) ot = _ := upd_same
    generalize upd J1 ot (.tup (rs.map V.str)) = J2 at S2' eo ⊢
    refine ⟨_, rfl, rl, _, rfl, .inl ⟨SqL.of (S2' _ _ (SJ1 _ _ hrl)), fun tr htr => ?_⟩⟩
    have S3' := same_new (o := .tup ws) htr
    have er : upd J2 tr (.tup ws) tr = _ := upd_same
    generalize upd J2 tr (.tup ws) = J3 at S3' er ⊢
    have SS := SJ1.trans (S2'.trans S3')
    have gJ3 := gJ.trans (pot_of_same gJ.ok SS)
    have eo3 := S3' _ _ eo
    have hn3 := SS _ _ hnJ
    have hrt3 := SS _ _ hrt
    have hR3 := hR.same SS
    have rds3 := Dts.keep (fun b o e _ => SS b o e) rds
    have hRws : Rws rows := ⟨⟨hl10, fun r hr => (rows_ok r hr).2.1, fun r hr x hx => nm x ((rows_ok r hr).2.2 x hx)⟩, fun r hr => (rows_ok r hr).1⟩
    have hNm := nms_ok nd (by omega) fun r hr => (rows_ok r hr).2.2
    have nmr : ∀ y ∈ rs, Nm y := fun y hy => nm y (hsub.subset hy)
    generalize nmsOf ys rows = o at hNm
    clear hR rds hrt hnJ hrl gJ SS S2' S3' SJ1 h1 eo
    refine ⟨3, rfl, by decide, by decide, for_range (fun j σ J4 => ∃ w9 w10 : Option V, σ = [some (.ref a), some (.int (0 + (i : Int))), some (.ref p), some (.bl hb), some (.int (m : Int)), some (.ref n), some (.ref tr), some (.ref rt), some (.ref ot), w9, w10] ∧ PotAt p J3 J4) ⟨v9, v10, rfl, PotAt.refl gJ3.ok⟩ (fun j σ J4 hj hP => ?_) (fun σ J4 hP => ?_)⟩
    · obtain ⟨w9, w10, rfl, p4⟩ := hP
      have tup4 : ∀ {J5 : Hp}, PotAt p J3 J5 → ∀ {b : Addr} {xs : List V}, J3 b = some (.tup xs) → J5 b = some (.tup xs) := by intro J5 p5 b xs e; exact pot_tup gJ3.ok p5 b xs e
      refine ⟨_, rfl, _, rfl, _, rfl, sp_sp p4.ok (tup4 p4 hrt3) (Dts.pot rds3 p4) dl (.inr dti) (p4.kp _ _ hn3 nnp) nm (by omega) fun u e J5 p5 ru th => ?_⟩
      have p45 := p4.trans p5
      have hR5 := rows_keep hR3 fun b xs z => tup4 p45 z
      refine ⟨_, rfl, _, rfl, isrg_sp (tup4 p45 er) hR5 hRws ru th.bulk fun J6 S6 => ?_⟩
      refine ⟨_, rfl, _, rfl, isrg_sp (S6 _ _ (tup4 p45 er)) (hR5.same S6) hRws (Dt.keep (fun b o e _ => S6 b o e) ru) th.bulk fun J7 S7 => td_sp ⟨_, rfl, ?_⟩⟩
      rw [beq_self_eq_true]
      have p47 := p45.trans (pot_of_same p45.ok (S6.trans S7))
      refine ⟨_, rfl, _, rfl, _, rfl, sp_sp p47.ok (tup4 p47 eo3) (str_dts rs) (by rw [List.length_map]; omega) (.inl (strI_all nmr)) (p47.kp _ _ hn3 nnp) nm (by omega) fun u2 e2 J8 p8 ru2 th2 => ?_⟩
      have p48 := p47.trans p8
      have hR8 := rows_keep hR3 fun b xs z => tup4 p48 z
      refine ⟨_, rfl, _, rfl, kp_sp (tup4 p48 er) hR8 hRws hNm ru2 th2.bulk (fun ds e => (th2.items ds e).1) fun J9 S9 => ?_⟩
      refine ⟨_, rfl, _, rfl, kt_sp (S9 _ _ (tup4 p48 er)) (hR8.same S9) hRws hNm (Dt.keep (fun b o e _ => S9 b o e) ru2) (fun ds e => ⟨(th2.items ds e).1, fun x hx => (th2.items ds e).2 _ hx⟩) fun J10 S10 => td_sp ⟨_, rfl, ?_⟩⟩
      rw [beq_self_eq_true]
      exact ⟨_, _, rfl, p48.trans (pot_of_same p48.ok (S9.trans S10))⟩
    · obtain ⟨w9, w10, rfl, p4⟩ := hP
      have gz := gJ3.trans p4
      exact ⟨_, _, _, _, _, _, _, _, _, _, rfl, fun b o z => gz.kp b o (S2 _ _ (S1 _ _ z)) (ne_of_none (S1 _ _ z) hp)⟩
end
end K14
namespace K14
open PySem L2 PySem.W
theorem all_mk {l : OpenLaw} {w : World} {K : Frag} {h : Heap} {mg : Str → Option Value} {fa fIw fNm fKe fIr fNw fIg fWi fP fD fN fSh fWd fRo fQr fKt fLw fRd fOd fPs fSp fTd fL  : Addr} (X : K.In h) (G : h.Ns mainGlobals mg) (hfa : mg "law" = some (.ref fa))
    {odIw anIw odNm anNm odKe anKe odIr anIr odNw anNw odIg anIg odWi anWi odP anP odD anD odN anN odSh anSh odWd anWd odRo anRo odQr anQr odKt anKt odLw anLw odRd anRd odOd anOd odPs anPs odSp anSp odTd anTd odL anL : Option Addr} {slIw slNm slKe slIr slNw slIg slWi slP slD slN slSh slWd slRo slQr slKt slLw slRd slOd slPs slSp slTd slL : Array (Option Value)} {ocIw kVIw dcIw pmIw cdIw ctIw ocNm kVNm dcNm pmNm cdNm ctNm ocKe kVKe dcKe pmKe cdKe ctKe ocIr kVIr dcIr pmIr cdIr ctIr ocNw kVNw dcNw pmNw cdNw ctNw ocIg kVIg dcIg pmIg cdIg ctIg ocWi kVWi dcWi pmWi cdWi ctWi ocP kVP dcP pmP cdP ctP ocD kVD dcD pmD cdD ctD ocN kVN dcN pmN cdN ctN ocSh kVSh dcSh pmSh cdSh ctSh ocWd kVWd dcWd pmWd cdWd ctWd ocRo kVRo dcRo pmRo cdRo ctRo ocQr kVQr dcQr pmQr cdQr ctQr ocKt kVKt dcKt pmKt cdKt ctKt ocLw kVLw dcLw pmLw cdLw ctLw ocRd kVRd dcRd pmRd cdRd ctRd ocOd kVOd dcOd pmOd cdOd ctOd ocPs kVPs dcPs pmPs cdPs ctPs ocSp kVSp dcSp pmSp cdSp ctSp ocTd kVTd dcTd pmTd cdTd ctTd ocL kVL dcL pmL cdL ctL : Value}
    (fIwa : nsIn K mainGlobals "is_whole" = some (some (.ref fIw)))
    (fIwl : K.lookup fIw = some (fnR ocIw odIw "is_whole" "is_whole" sIsWhole .none kVIw dcIw pmIw anIw cdIw ctIw slIw))
    (fIwc : codeIn K cdIw "is_whole" = true)
    (fIwk : keepIn K (.ref fIw) = true)
    (fNma : nsIn K mainGlobals "is_name" = some (some (.ref fNm)))
    (fNml : K.lookup fNm = some (fnR ocNm odNm "is_name" "is_name" sIsName .none kVNm dcNm pmNm anNm cdNm ctNm slNm))
    (fNmc : codeIn K cdNm "is_name" = true)
    (fNmk : keepIn K (.ref fNm) = true)
    (fKea : nsIn K mainGlobals "keeps" = some (some (.ref fKe)))
    (fKel : K.lookup fKe = some (fnR ocKe odKe "keeps" "keeps" sKeeps .none kVKe dcKe pmKe anKe cdKe ctKe slKe))
    (fKec : codeIn K cdKe "keeps" = true)
    (fKek : keepIn K (.ref fKe) = true)
    (fIra : nsIn K mainGlobals "is_row" = some (some (.ref fIr)))
    (fIrl : K.lookup fIr = some (fnR ocIr odIr "is_row" "is_row" sIsRow .none kVIr dcIr pmIr anIr cdIr ctIr slIr))
    (fIrc : codeIn K cdIr "is_row" = true)
    (fIrk : keepIn K (.ref fIr) = true)
    (fNwa : nsIn K mainGlobals "names_within" = some (some (.ref fNw)))
    (fNwl : K.lookup fNw = some (fnR ocNw odNw "names_within" "names_within" sNW .none kVNw dcNw pmNw anNw cdNw ctNw slNw))
    (fNwc : codeIn K cdNw "names_within" = true)
    (fNwk : keepIn K (.ref fNw) = true)
    (fIga : nsIn K mainGlobals "is_ring" = some (some (.ref fIg)))
    (fIgl : K.lookup fIg = some (fnR ocIg odIg "is_ring" "is_ring" sIsRing .none kVIg dcIg pmIg anIg cdIg ctIg slIg))
    (fIgc : codeIn K cdIg "is_ring" = true)
    (fIgk : keepIn K (.ref fIg) = true)
    (fWia : nsIn K mainGlobals "is_wish" = some (some (.ref fWi)))
    (fWil : K.lookup fWi = some (fnR ocWi odWi "is_wish" "is_wish" sIsWish .none kVWi dcWi pmWi anWi cdWi ctWi slWi))
    (fWic : codeIn K cdWi "is_wish" = true)
    (fWik : keepIn K (.ref fWi) = true)
    (fPa : nsIn K mainGlobals "_law_pot" = some (some (.ref fP)))
    (fPl : K.lookup fP = some (fnR ocP odP "_law_pot" "_law_pot" sPot .none kVP dcP pmP anP cdP ctP slP))
    (fPc : codeIn K cdP "_law_pot" = true)
    (fPk : keepIn K (.ref fP) = true)
    (fDa : nsIn K mainGlobals "_law_digit" = some (some (.ref fD)))
    (fDl : K.lookup fD = some (fnR ocD odD "_law_digit" "_law_digit" sDigit .none kVD dcD pmD anD cdD ctD slD))
    (fDc : codeIn K cdD "_law_digit" = true)
    (fDk : keepIn K (.ref fD) = true)
    (fNa : nsIn K mainGlobals "_law_names" = some (some (.ref fN)))
    (fNl : K.lookup fN = some (fnR ocN odN "_law_names" "_law_names" sNames .none kVN dcN pmN anN cdN ctN slN))
    (fNc : codeIn K cdN "_law_names" = true)
    (fNk : keepIn K (.ref fN) = true)
    (fSha : nsIn K mainGlobals "_law_shuffled" = some (some (.ref fSh)))
    (fShl : K.lookup fSh = some (fnR ocSh odSh "_law_shuffled" "_law_shuffled" sShuf .none kVSh dcSh pmSh anSh cdSh ctSh slSh))
    (fShc : codeIn K cdSh "_law_shuffled" = true)
    (fShk : keepIn K (.ref fSh) = true)
    (fWda : nsIn K mainGlobals "_law_wished" = some (some (.ref fWd)))
    (fWdl : K.lookup fWd = some (fnR ocWd odWd "_law_wished" "_law_wished" sWished .none kVWd dcWd pmWd anWd cdWd ctWd slWd))
    (fWdc : codeIn K cdWd "_law_wished" = true)
    (fWdk : keepIn K (.ref fWd) = true)
    (fRoa : nsIn K mainGlobals "_law_ring_of" = some (some (.ref fRo)))
    (fRol : K.lookup fRo = some (fnR ocRo odRo "_law_ring_of" "_law_ring_of" sRingOf .none kVRo dcRo pmRo anRo cdRo ctRo slRo))
    (fRoc : codeIn K cdRo "_law_ring_of" = true)
    (fRok : keepIn K (.ref fRo) = true)
    (fQra : nsIn K mainGlobals "_law_plain_rows" = some (some (.ref fQr)))
    (fQrl : K.lookup fQr = some (fnR ocQr odQr "_law_plain_rows" "_law_plain_rows" sPlain .none kVQr dcQr pmQr anQr cdQr ctQr slQr))
    (fQrc : codeIn K cdQr "_law_plain_rows" = true)
    (fQrk : keepIn K (.ref fQr) = true)
    (fKta : nsIn K mainGlobals "_law_is_kept" = some (some (.ref fKt)))
    (fKtl : K.lookup fKt = some (fnR ocKt odKt "_law_is_kept" "_law_is_kept" sIsKept .none kVKt dcKt pmKt anKt cdKt ctKt slKt))
    (fKtc : codeIn K cdKt "_law_is_kept" = true)
    (fKtk : keepIn K (.ref fKt) = true)
    (fLwa : nsIn K mainGlobals "_law_is_wish" = some (some (.ref fLw)))
    (fLwl : K.lookup fLw = some (fnR ocLw odLw "_law_is_wish" "_law_is_wish" sLWish .none kVLw dcLw pmLw anLw cdLw ctLw slLw))
    (fLwc : codeIn K cdLw "_law_is_wish" = true)
    (fLwk : keepIn K (.ref fLw) = true)
    (fRda : nsIn K mainGlobals "_law_is_round" = some (some (.ref fRd)))
    (fRdl : K.lookup fRd = some (fnR ocRd odRd "_law_is_round" "_law_is_round" sRound .none kVRd dcRd pmRd anRd cdRd ctRd slRd))
    (fRdc : codeIn K cdRd "_law_is_round" = true)
    (fRdk : keepIn K (.ref fRd) = true)
    (fOda : nsIn K mainGlobals "_law_odd" = some (some (.ref fOd)))
    (fOdl : K.lookup fOd = some (fnR ocOd odOd "_law_odd" "_law_odd" sOdd .none kVOd dcOd pmOd anOd cdOd ctOd slOd))
    (fOdc : codeIn K cdOd "_law_odd" = true)
    (fOdk : keepIn K (.ref fOd) = true)
    (fPsa : nsIn K mainGlobals "_law_part_spoilt" = some (some (.ref fPs)))
    (fPsl : K.lookup fPs = some (fnR ocPs odPs "_law_part_spoilt" "_law_part_spoilt" sPartS .none kVPs dcPs pmPs anPs cdPs ctPs slPs))
    (fPsc : codeIn K cdPs "_law_part_spoilt" = true)
    (fPsk : keepIn K (.ref fPs) = true)
    (fSpa : nsIn K mainGlobals "_law_spoilt" = some (some (.ref fSp)))
    (fSpl : K.lookup fSp = some (fnR ocSp odSp "_law_spoilt" "_law_spoilt" sSpoilt .none kVSp dcSp pmSp anSp cdSp ctSp slSp))
    (fSpc : codeIn K cdSp "_law_spoilt" = true)
    (fSpk : keepIn K (.ref fSp) = true)
    (fTda : nsIn K mainGlobals "_law_is_told" = some (some (.ref fTd)))
    (fTdl : K.lookup fTd = some (fnR ocTd odTd "_law_is_told" "_law_is_told" sTold .none kVTd dcTd pmTd anTd cdTd ctTd slTd))
    (fTdc : codeIn K cdTd "_law_is_told" = true)
    (fTdk : keepIn K (.ref fTd) = true)
    (fLa : nsIn K mainGlobals "law" = some (some (.ref fL)))
    (fLl : K.lookup fL = some (fnR ocL odL "law" "law" sLaw .none kVL dcL pmL anL cdL ctL slL))
    (fLc : codeIn K cdL "law" = true)
    (fLk : keepIn K (.ref fL) = true)
    (zlen : nsIn K mainGlobals "len" = some none)
    (zmax : nsIn K mainGlobals "max" = some none)
    (zmin : nsIn K mainGlobals "min" = some none)
    (zabs : nsIn K mainGlobals "abs" = some none)
    (zrange : nsIn K mainGlobals "range" = some none)
    (zany : nsIn K mainGlobals "any" = some none)
    (zall : nsIn K mainGlobals "all" = some none)
    (zlist : nsIn K mainGlobals "list" = some none)
    (ztuple : nsIn K mainGlobals "tuple" = some none)
    (zenumerate : nsIn K mainGlobals "enumerate" = some none)
    (zisinstance : nsIn K mainGlobals "isinstance" = some none)
    (zstr : nsIn K mainGlobals "str" = some none)
    (zdict : nsIn K mainGlobals "dict" = some none)
    (zsorted : nsIn K mainGlobals "sorted" = some none)
    (zint : nsIn K mainGlobals "int" = some none)
    (zbool : nsIn K mainGlobals "bool" = some none)
    (zset : nsIn K mainGlobals "set" = some none) :
    ∃ fd : FuncData, (∀ (s : Shared) (v : Value), BindsTo s fd ⟨[v], []⟩ [("_law_script", v)]) ∧ ∀ base : Heap, K.In base → base.Ns mainGlobals mg → FnOk l.prog w K mg base CX0 5 fa fd ["_law_script"] (spLaw K) := by
  have e := hfa.symm.trans (mg_of X G fLa)
  cases e
  have Bl : Blt mg := ⟨mg_none_of X G zlen, mg_none_of X G zmax, mg_none_of X G zmin, mg_none_of X G zabs, mg_none_of X G zrange, mg_none_of X G zany, mg_none_of X G zall, mg_none_of X G zlist, mg_none_of X G ztuple, mg_none_of X G zenumerate⟩
  have B2 : Blt2 mg := ⟨mg_none_of X G zisinstance, mg_none_of X G zstr, mg_none_of X G zdict, mg_none_of X G zsorted⟩
  have B3 : Blt3 mg := ⟨mg_none_of X G zint, mg_none_of X G zbool⟩
  have bs := mg_none_of X G zset
  have FIw := fun_mk (st := sIsWhole) fIwl fIwc fIwk
  have FNm := fun_mk (st := sIsName) fNml fNmc fNmk
  have FKe := fun_mk (st := sKeeps) fKel fKec fKek
  have FIr := fun_mk (st := sIsRow) fIrl fIrc fIrk
  have FNw := fun_mk (st := sNW) fNwl fNwc fNwk
  have FIg := fun_mk (st := sIsRing) fIgl fIgc fIgk
  have FWi := fun_mk (st := sIsWish) fWil fWic fWik
  have FP := fun_mk (st := sPot) fPl fPc fPk
  have FD := fun_mk (st := sDigit) fDl fDc fDk
  have FN := fun_mk (st := sNames) fNl fNc fNk
  have FSh := fun_mk (st := sShuf) fShl fShc fShk
  have FWd := fun_mk (st := sWished) fWdl fWdc fWdk
  have FRo := fun_mk (st := sRingOf) fRol fRoc fRok
  have FQr := fun_mk (st := sPlain) fQrl fQrc fQrk
  have FKt := fun_mk (st := sIsKept) fKtl fKtc fKtk
  have FLw := fun_mk (st := sLWish) fLwl fLwc fLwk
  have FRd := fun_mk (st := sRound) fRdl fRdc fRdk
  have FOd := fun_mk (st := sOdd) fOdl fOdc fOdk
  have FPs := fun_mk (st := sPartS) fPsl fPsc fPsk
  have FSp := fun_mk (st := sSpoilt) fSpl fSpc fSpk
  have FTd := fun_mk (st := sTold) fTdl fTdc fTdk
  have FL := fun_mk (st := sLaw) fLl fLc fLk
  have bIw := FIw.binds (ps := ["thing"]) fun _ _ _ _ _ _ us hl => match us, hl with | [_], _ => rfl
  have bNm := FNm.binds (ps := ["thing"]) fun _ _ _ _ _ _ us hl => match us, hl with | [_], _ => rfl
  have bKe := FKe.binds (ps := ["rows", "thing"]) fun _ _ _ _ _ _ us hl => match us, hl with | [_, _], _ => rfl
  have bIr := FIr.binds (ps := ["thing"]) fun _ _ _ _ _ _ us hl => match us, hl with | [_], _ => rfl
  have bNw := FNw.binds (ps := ["rows"]) fun _ _ _ _ _ _ us hl => match us, hl with | [_], _ => rfl
  have bIg := FIg.binds (ps := ["rows", "thing"]) fun _ _ _ _ _ _ us hl => match us, hl with | [_, _], _ => rfl
  have bWi := FWi.binds (ps := ["rows", "thing"]) fun _ _ _ _ _ _ us hl => match us, hl with | [_, _], _ => rfl
  have bP := FP.binds (ps := ["_law_script", "_law_k"]) fun _ _ _ _ _ _ us hl => match us, hl with | [_, _], _ => rfl
  have bD := FD.binds (ps := ["_law_pot_here", "_law_many"]) fun _ _ _ _ _ _ us hl => match us, hl with | [_, _], _ => rfl
  have bN := FN.binds (ps := ["_law_pot_here", "_law_many"]) fun _ _ _ _ _ _ us hl => match us, hl with | [_, _], _ => rfl
  have bSh := FSh.binds (ps := ["_law_pot_here", "_law_names_here"]) fun _ _ _ _ _ _ us hl => match us, hl with | [_, _], _ => rfl
  have bWd := FWd.binds (ps := ["_law_pot_here", "_law_names_here", "_law_many"]) fun _ _ _ _ _ _ us hl => match us, hl with | [_, _, _], _ => rfl
  have bRo := FRo.binds (ps := ["_law_pot_here", "_law_names_here", "_law_many"]) fun _ _ _ _ _ _ us hl => match us, hl with | [_, _, _], _ => rfl
  have bQr := FQr.binds (ps := ["_law_pot_here", "_law_names_here", "_law_most"]) fun _ _ _ _ _ _ us hl => match us, hl with | [_, _, _], _ => rfl
  have bKt := FKt.binds (ps := ["_law_rows", "_law_order"]) fun _ _ _ _ _ _ us hl => match us, hl with | [_, _], _ => rfl
  have bLw := FLw.binds (ps := ["_law_rows", "_law_wish"]) fun _ _ _ _ _ _ us hl => match us, hl with | [_, _], _ => rfl
  have bRd := FRd.binds (ps := ["_law_rows", "_law_ring"]) fun _ _ _ _ _ _ us hl => match us, hl with | [_, _], _ => rfl
  have bOd := FOd.binds (ps := ["_law_pot_here", "_law_names_here"]) fun _ _ _ _ _ _ us hl => match us, hl with | [_, _], _ => rfl
  have bPs := FPs.binds (ps := ["_law_pot_here", "_law_row", "_law_names_here"]) fun _ _ _ _ _ _ us hl => match us, hl with | [_, _, _], _ => rfl
  have bSp := FSp.binds (ps := ["_law_pot_here", "_law_good", "_law_names_here"]) fun _ _ _ _ _ _ us hl => match us, hl with | [_, _, _], _ => rfl
  have bTd := FTd.binds (ps := ["_law_told", "_law_due"]) fun _ _ _ _ _ _ us hl => match us, hl with | [_, _], _ => rfl
  have mIw := mg_of X G fIwa
  have mNm := mg_of X G fNma
  have mKe := mg_of X G fKea
  have mIr := mg_of X G fIra
  have mNw := mg_of X G fNwa
  have mIg := mg_of X G fIga
  have mWi := mg_of X G fWia
  have mP := mg_of X G fPa
  have mD := mg_of X G fDa
  have mN := mg_of X G fNa
  have mSh := mg_of X G fSha
  have mWd := mg_of X G fWda
  have mRo := mg_of X G fRoa
  have mQr := mg_of X G fQra
  have mKt := mg_of X G fKta
  have mLw := mg_of X G fLwa
  have mRd := mg_of X G fRda
  have mOd := mg_of X G fOda
  have mPs := mg_of X G fPsa
  have mSp := mg_of X G fSpa
  have mTd := mg_of X G fTda
  have mL := mg_of X G fLa
  exact ⟨fnOf "law" "law" (defArgs sLaw) (defBody sLaw) (defScope sLaw) .none kVL dcL pmL anL cdL ctL, fun s v => .of_eq rfl, fun base _ _ =>
    let GNm := ok_name' FNm Bl B2
    let GIw := ok_whole FIw B2 B3
    let GIr := ok_row FIr Bl B2 bs GNm fNmk bNm mNm
    let GWi := ok_isw FWi Bl B2 GNm fNmk bNm mNm GIw fIwk bIw mIw
    let GIg := ok_isrg FIg Bl B2 bs GWi fWik bWi mWi
    let GKe := ok_keeps FKe Bl B2 GIr fIrk bIr mIr (ok_nw FNw B2) fNwk bNw mNw
    let GLw := ok_lw FLw Bl B2 B3
    let GRd := ok_round FRd Bl B2 bs GLw fLwk bLw mLw
    let GKt := ok_kp FKt Bl B2
    let GDg := ok_digit FD
    let GOd := ok_odd FOd Bl GDg fDk bD mD
    let GPs := ok_ps FPs Bl GDg fDk bD mD GOd fOdk bOd mOd
    let GSp := ok_sp FSp Bl B2 GDg fDk bD mD GOd fOdk bOd mOd GPs fPsk bPs mPs
    let GSh := ok_shuf FSh Bl FD bD mD
    ok_law FL Bl B3 (ok_pot FP Bl) fPk bP mP GDg fDk bD mD (ok_names FN Bl FD bD mD) fNk bN mN GSh fShk bSh mSh (ok_pl FQr Bl GDg fDk bD mD) fQrk bQr mQr (ok_ro FRo Bl GDg fDk bD mD) fRok bRo mRo (ok_wd FWd Bl GDg fDk bD mD GSh fShk bSh mSh) fWdk bWd mWd GSp fSpk bSp mSp (ok_td FTd) fTdk bTd mTd GIg fIgk bIg mIg GRd fRdk bRd mRd GKe fKek bKe mKe GKt fKtk bKt mKt⟩
theorem walk {l : OpenLaw} {q : Program} {loose : List Str} {XP : (Str → Option Value) → Heap → Prop} {YP : World → Heap → Prop} {d : DefRec} {K : Params → Frag} (hn : l.most = some 63) (hdf : d.params.defaults = [])
    (hY : ∀ (w : World) (h : Heap), YP w h → (K w.params).In h)
    (F : ∀ (w : World) (mg : Str → Option Value) (fa : Addr) (h : Heap), (K w.params).In h → h.Ns mainGlobals mg → mg d.name = some (.ref fa) →
      ∃ fd : FuncData, (∀ (s : Shared) (u : Value), BindsTo s fd ⟨[u], []⟩ [("_law_script", u)]) ∧ ∀ base : Heap, (K w.params).In base → base.Ns mainGlobals mg → FnOk l.prog w (K w.params) mg base CX0 5 fa fd ["_law_script"] (spLaw (K w.params))) :
    WalkO q loose XP YP l.row.toRowW d [] (fun f vs => PySem.call f vs) :=
  L2.walk_of (n := 63) (k := 5) (x := "_law_script") (CX := fun _ => CX0) (sp := fun w => spLaw (K w.params)) hn (by decide) hdf ⟨rfl, by decide, by decide, rfl⟩ hY F (fun _ _ a ns hl _ hS => by unfold spLaw; exact ⟨a, ns, rfl, hS, hl, fun _ => rfl⟩) fun _ _ _ _ _ z => z
end K14
open PySem PySem.W PyProof.Rows
set_option maxRecDepth 100000 in
set_option maxHeartbeats 0 in
theorem PySem.Challenge.cw_parentlines_k14_whole_orders_and_rings_t_holds : PySem.Challenge.rw_parentlines_k14_whole_orders_and_rings_t.Holds := by
  w_on; o_law; k_head; (case hw => w_witness2)
  k_fill
  refine K14.walk (l := PySem.Challenge.rw_parentlines_k14_whole_orders_and_rings_t) rfl rfl (fun w h Y => PySem.W.kIn_of Y) ?F
  case F =>
    intro w mg fa h KX G hmg
    refine' K14.all_mk KX G hmg ?qaa ?qab ?qac ?qad ?qae ?qaf ?qag ?qah ?qai ?qaj ?qak ?qal ?qam ?qan ?qao ?qap ?qaq ?qar ?qas ?qat ?qau ?qav ?qaw ?qax ?qay ?qaz ?qaA ?qaB ?qaC ?qaD ?qaE ?qaF ?qaG ?qaH ?qaI ?qaJ ?qaK ?qaL ?qaM ?qaN ?qaO ?qaP ?qaQ ?qaR ?qaS ?qaT ?qaU ?qaV ?qaW ?qaX ?qaY ?qaZ ?qba ?qbb ?qbc ?qbd ?qbe ?qbf ?qbg ?qbh ?qbi ?qbj ?qbk ?qbl ?qbm ?qbn ?qbo ?qbp ?qbq ?qbr ?qbs ?qbt ?qbu ?qbv ?qbw ?qbx ?qby ?qbz ?qbA ?qbB ?qbC ?qbD ?qbE ?qbF ?qbG ?qbH ?qbI ?qbJ ?qbK ?qbL ?qbM ?qbN ?qbO ?qbP ?qbQ ?qbR ?qbS ?qbT ?qbU ?qbV ?qbW ?qbX ?qbY ?qbZ ?qca
    (case qaa | qab | qac | qad | qae | qaf | qag | qah | qai | qaj | qak | qal | qam | qan | qao | qap | qaq | qar | qas | qat | qau | qav | qaw | qax | qay | qaz | qaA | qaB | qaC | qaD | qaE | qaF | qaG | qaH | qaI | qaJ | qaK | qaL | qaM | qaN | qaO | qaP | qaQ | qaR | qaS | qaT | qaU | qaV | qaW | qaX | qaY | qaZ | qba | qbb | qbc | qbd | qbe | qbf | qbg | qbh | qbi | qbj | qbk | qbl | qbm | qbn | qbo | qbp | qbq | qbr | qbs | qbt | qbu | qbv | qbw | qbx | qby | qbz | qbA | qbB | qbC | qbD | qbE | qbF | qbG | qbH | qbI | qbJ | qbK | qbL | qbM | qbN | qbO | qbP | qbQ | qbR | qbS | qbT | qbU | qbV | qbW | qbX | qbY | qbZ | qca => k_is)
