import PyProof.Rows.All
import Wide.All
import OpenK.AllK
import Wide.FinOn
import Lean
import PyProof.EqAt
import PyProof.EqKinds
import PyProof.TupleCall
import PyProof.ReprRoads
import PyProof.ReprBulk
import PyProof.EnumMake
import PyProof.EnumFor
import KE.KRevSl
import KE.KDictList
import PyProof.ZipIter
import PyProof.AttrMissHeap
import KE.KDictOf
import KE.KItemsList
import PyProof.Rows.ZipGen
import PyProof.CallFns
import PyProof.StrWalks
import PyProof.FString5
import KE.KSortTup
import PyProof.SetRoads
import PyProof.SetNew
import PyProof.Rows.SetFrom
import PyProof.WalksMore
import PyProof.ForAny
import PyProof.DictWalks
import PyProof.MeetsDict
import KE.KEqDict
import PyProof.NsDelKeeps
import PyProof.DictItemsLoops
import KE.KPairComp
import PyProof.ListMulRoad
import PyProof.AutoSeq1
import PyProof.FactsAll.list
import PyProof.FactsAll.list_2
import PySem.Challenge.RW_parentlines_k43_own_number_or_the_neares
set_option Elab.async false
set_option linter.all false
set_option maxRecDepth 100000
set_option maxHeartbeats 4000000
def af:=@PySem.wpAny_bind
def ar:=@if_neg
def ax:=@PySem.wpAny_pure
def aB:=@if_pos
def aJ:=@List.length_map
def aO:=@Nat.le_refl
def aT:=@PySem.sizeLine_eq
def aV:=@Ne.symm
def bj:=@PySem.Heap.get?_push_of_some
def bq:=@PySem.Heap.lt_size
def br:=@List.mem_cons_self
def bt:=@List.mem_map
def bw:=@Nat.zero_le
def bK:=@List.getElem?_eq_getElem
def bQ:=@List.map_append
def bU:=@List.mem_cons_of_mem
def bX:=@Nat.ne_of_lt
def b4:=@List.getElem?_eq_some_iff
def b9:=@List.mem_cons
def cf:=@List.size_toArray
def cz:=@Bool.false_ne_true
def cA:=@List.map_cons
def cK:=@PySem.Heap.get?_push_size
def c8:=@List.length_take
def dc:=@List.take_length
def dj:=@List.take_succ
def dS:=@List.mem_append
def dX:=@beq_iff_eq
def dY:=@List.map_map
def d7:=@congrArg
def eu:=@PySem.Paired.length
def eF:=@Option.some.inj
def eO:=@List.lookup_cons
def eZ:=@List.mem_append_right
def e7:=@List.length_append
def fQ:=@Nat.lt_of_lt_of_le
def gi:=@List.length_cons
def gj:=@decide_eq_true
def gw:=@PySem.wpAny_holding
def gx:=@PySem.PassesOwn.never
def gQ:=@Nat.le_trans
def gR:=@List.nodup_cons
def gS:=@List.getElem?_map
def iw:=@List.append_nil
def ix:=@List.mem_of_getElem?
def iy:=@List.getD_eq_getElem?_getD
def iO:=@decide_eq_false
def iP:=@of_decide_eq_true
def i8:=@List.mem_filter
def i9:=@if_true
def i':=@List.mem_singleton
def jw:=@Sum.inr.inj
def jx:=@List.length_nil
def jy:=@List.nodup_append
def j4:=@beq_eq_false_iff_ne
def j5:=@List.mem_append_left
def j6:=@PySem.wpAny_mono
def j7:=@PySem.wpAny_truthy_bool
def j8:=@PySem.W.kia_one
def j9:=@Nat.le_succ
def j':=@Array.getD_eq_getD_getElem?
def kZ:=@PySem.mem_of_lookup
def k9:=@Bool.and_eq_true
def lg:=@PySem.wpAny_newObj_type
def lj:=@Option.map_eq_some_iff
def lq:=@PySem.Paired.snoc
def lu:=@List.nodup_nil
def lx:=@List.length_filter_le
def ly:=@List.filter_append
def lz:=@PySem.boot_len
def lA:=@Int.eq_ofNat_of_zero_le
def mR:=@Nat.lt_irrefl
def mS:=@List.mem_range
def mT:=@PySem.wpAny_standAt
def mU:=@List.take_sublist
def mV:=@List.getElem_mem
def oU:=@Nat.ne_of_gt
def oV:=@PySem.Heap.size_push
def oW:=@PySem.wpAny_call
def oX:=@if_false
def oY:=@PySem.wpAny_field
def oZ:=@PySem.wpAny_typeOf
def o3:=@List.any_cons
def o6:=@List.nodup_iff_pairwise_ne
def q0:=@PySem.wpAny_passesOwn
def rb:=@Bool.eq_iff_iff
def rg:=@PySem.wpAny_Call_Name_kw
def rh:=@PySem.wpAny_call_entry
def rj:=@PySem.Heap.get?_update_other
def rm:=@Nat.lt_trans
def rn:=@List.drop_eq_getElem_cons
def rq:=@List.map_congr_left
def rA:=@List.pairwise_map
def rB:=@PySem.F.plainAttrs_list
def u7:=@List.mem_filterMap
def u9:=@Nat.le_of_lt
def va:=@PySem.wpAny_execs_nil
def vb:=@PySem.codeAny_mono
def vc:=@PyProof.Rows.slot_tuple_getitem
def vd:=@PySem.call_meets
def vf:=@Bool.and_eq_true_iff
def vg:=@List.all_eq_true
def vh:=@PySem.codeAny_builtin
def vi:=@PySem.Around.under_plainId
def vj:=@PySem.wpAny_rule
def vm:=@List.any_eq_true
def vn:=@List.find?_cons
def vo:=@List.filter_cons_of_pos
def vp:=@List.mem_of_mem_take
def zo:=@Option.map_some
def zp:=@PySem.Heap.get?_none_of_le
def zq:=@List.length_singleton
def zt:=@PySem.wpAny_loadPart_at
def zu:=@PySem.W.any_some
def zv:=@PySem.F.store_object
def zw:=@PySem.plainId_quiet
def zx:=@Option.isSome_map
def zy:=@PySem.F.slot_dict_itemiterator_next
def zA:=@PySem.wpAny_setField_rec
def zB:=@PySem.F.slot_list_append
def zC:=@PySem.F.type_list_append
def zD:=@List.filter_cons_of_neg
def E4:=@Array.length_toList
def E5:=@PySem.wpAny_pyIter_list
def E6:=@PyProof.Rows.callWith_type1
def E7:=@List.any_eq_false
def E8:=@PySem.wpAny_loadPart
def E9:=@Option.isSome_iff_exists
def Fb:=@Int.toNat_natCast
def Fc:=@PySem.wpAny_callSpecial?_slot
def Fd:=@PySem.seqIndex_of
def Fe:=@beq_self_eq_true
def Ff:=@PySem.wpAny_noRaise
def Fg:=@PySem.W.looks_mroIn
def Fh:=@PySem.wpAny_attempt
def Fi:=@Option.bind_some
def Fj:=@PySem.wpAny_getItem_str_slice
def Fl:=@PySem.post_val_or_str
def Fn:=@Array.toList_inj
def Fo:=@Array.size_append
def Fp:=@List.any_map
def Fq:=@PySem.F.plain_any_loop
def Fs:=@List.getElem_of_mem
def Ft:=@List.drop_zero
def Fu:=@PySem.tupleKind_room_in1
def Fv:=@Array.getElem?_eq_getElem
def Fw:=@List.Perm.refl
def Fx:=@List.getElem?_eq_none
def Fy:=@PySem.Heap.UpToSlots.trans
def Fz:=@PySem.F.slot_dict_items
def FA:=@List.map_id
def FC:=@PySem.wpAny_typeNameOfWhole_itemiter
def FE:=@PySem.wpAny_typeNameOf_itemiter
def FF:=@List.sum_cons
def FG:=@Int.emod_nonneg
def FH:=@Int.emod_lt_of_pos
def FJ:=@List.length_pos_iff
def NX:=@PySem.wpAny_eqBool_str
def NY:=@List.filterMap_cons
def NZ:=@List.getElem?_set_self
def N0:=@List.getElem?_set_ne
def N1:=@PySem.W.plainGet_of
def N2:=@PySem.W.callWith_K
def N3:=@List.of_mem_zip
def N4:=@PyProof.Rows.callWith_builtin1
def N6:=@PySem.noFill_tuple_add
def N7:=@PySem.seq_tuple_add
def N8:=@PySem.F.slot_tuple_add
def N9:=@PySem.F.entry_tuple_add
def Oa:=@PySem.F.args_tuple_add_2
def Ob:=@List.length_drop
def Oc:=@PySem.Heap.get?_update_self
def Od:=@Bool.false_eq_true
def Oe:=@List.lookup_append
def Of:=@PySem.wpAny_comprehension_free
def Og:=@PySem.codeAny_call_builtin
def Oh:=@Array.getElem?_eq_some_iff
def Oi:=@List.length_range
def Oj:=@Bool.false_or
def Ol:=@Nat.sub_zero
def Om:=@Nat.le_antisymm
def Oo:=@PySem.F.slot_tuple_getattribute
def Oq:=@List.take_append_drop
def Ou:=@PySem.wpAny_newList
def Ov:=@PySem.Heap.SameBut.update
def Ow:=@Nat.le_succ_of_le
def Ox:=@Nat.not_lt_zero
def Oy:=@PySem.ReadAtMost.cons
def Oz:=@List.cons.inj
def OA:=@PySem.wpAny_dictEntries
def OB:=@PySem.wpAny_dictEpoch
def OC:=@PySem.wpAny_isOneOf_itemiter
def OD:=@PySem.F.slot_list_mul
def OE:=@List.drop_length
def OF:=@List.filter_cons
def OG:=@List.take_of_length_le
def OH:=@List.map_drop
def OI:=@List.eq_nil_of_length_eq_zero
def OJ:=@Int.natCast_add
def ae4:=@PySem.Calls.Name_function_global
def ae8:=@Int.fdiv_eq_ediv_of_nonneg
def afd:=@PySem.plainObj_wpAny_Assign_Attribute
def afg:=@PySem.W.methodCall_KW
def afh:=@PySem.W.cellsFrom_some
def afi:=@List.length_replicate
def afl:=@Array.getElem?_toList
def afp:=@PySem.F.attrBase_ValueError
def afq:=@PySem.F.excBase_ValueError
def afr:=@List.length_pos_of_mem
def afs:=@List.drop_of_length_le
def aft:=@List.getElem_toArray
def afw:=@Array.mem_of_getElem?
def afx:=@Array.perm_iff_toList_perm
def afB:=@Nat.lt_of_succ_lt_succ
def afC:=@PySem.F.plain_list_iadd
def afF:=@PySem.F.slot_tuple_index
def afG:=@PySem.evalArgs_none
def afJ:=@PySem.F.entry_dict_itemiterator_next
def afK:=@PySem.F.args_dict_itemiterator_next_1
def afL:=@PySem.F.slot_list_rmul
def afN:=@PySem.F.slot_int_rmul
def afO:=@List.length_eq_one_iff
def afT:=@List.cons_lt_cons_iff
def afU:=@List.countP_eq_length_filter
def afV:=@List.filter_eq_self
def afW:=@List.length_dropLast
def afX:=@Option.map_eq_none_iff
variable{us its:List PySem.Value}{x n name qual cn:PySem.Str}{u cd doc pm aF ct oc vl vu acc dv:PySem.Value}{a b it l p C f sl q fI d B fL fD fE tt fN fC M td:PySem.Addr}{o ox:PySem.Obj}{h h' g base h0:PySem.Heap}{items:Array PySem.Value}{P prog:PySem.Program}{w:PySem.World}{e c tg iter value elt:PySem.Expr}{L Ps:PySem.Str->List PySem.Str}{pins:List (PySem.Addr×PySem.Obj)}{s s' s1 s2:PySem.Shared}{t' i j n1 m ep:Nat}{ch fp:List PySem.Addr}{N ns ps loose N' r own done ks:List PySem.Str}{A:PySem.Around}{E Q:PySem.Value->PySem.Shared->Prop}{pos pos' apos ia tp:PySem.Pos}{K:PySem.W.Frag}{st:PySem.Stmt}{es ifs elts:List PySem.Expr}{body:List PySem.Stmt}{lo:Int}{dx an od:Option PySem.Addr}{mA mg:PySem.Str->Option PySem.Value}{expr:Bool}{R:PySem.Result->PySem.Shared->Prop}{kw:List (PySem.Str×PySem.Value)}{env:PySem.Env}{outer:List PySem.Env}{fd dL dD dI dW dE dN dC:PySem.FuncData}{kindOf:PySem.Str->Option PySem.NameKind}{sc scope:PySem.Scope}{g7:Array (Option PySem.Value)}{T:String}{hi:Option Int}{XP:(PySem.Str->Option PySem.Value)->PySem.Heap->Prop}{YP:PySem.World->PySem.Heap->Prop}{cells:List (PySem.Str×PySem.Addr)}{bH:List (Option Nat)}{tk:PySem.Tok}{rest rows:List (List PySem.Str)}{av:PySem.Addr->Prop}{aK:List (PySem.Str×List PySem.Str)}{dn:PySem.Str->Bool}
namespace L2
open PySem PySem.Spec PyProof.Rows
abbrev Key:=Sum Int Str
def pU:Key->Value->Bool
 |.inl k,v=>Value.isInt k v
 |.inr x,v=>Value.isStrOf x v
def Wh (w:World):Key->Int
 |.inl k=>hashInt k
 |.inr x=>hashStr w x
theorem kc:∀ {k:Key}{v:Value},pU k v=true->(∃i t,k=Sum.inl i/\v=Value.int i t)\/(∃x t,k=Sum.inr x/\v=Value.str x t)
 |.inl i,v,h=>by
  obtain⟨t,e⟩:=Value.isInt_shape (k:=i) (v:=v) h;exact .inl ⟨i,t,rfl,e⟩
 |.inr x,v,h=>by
  obtain⟨t,e⟩:=Value.isStrOf_shape (x:=x) (v:=v) h;exact .inr ⟨x,t,rfl,e⟩
theorem Qf (i:Int) (t:Tok):pU (.inl i) (.int i t)=true:=by simp[pU,Value.isInt]
theorem Qg (x:Str) (t:Tok):pU (.inr x) (.str x t)=true:=by simp[pU,Value.isStrOf]
theorem TQ (a b:Int):decide ((Sum.inl a:Key)=Sum.inl b)=(a==b):=by
 by_cases e:a=b
 ·subst e;simp
 ·have h : ¬ (Sum.inl a:Key)=Sum.inl b:=fun q=>e (Sum.inl.inj q)
  rw[iO h];exact(j4.mpr e).symm
theorem TR (a b:Str):decide ((Sum.inr a:Key)=Sum.inr b)=decide (a=b):=by
 by_cases e:a=b
 ·subst e;simp
 ·have h : ¬ (Sum.inr a:Key)=Sum.inr b:=fun q=>e (jw q)
  rw[iO h,iO e]
theorem TU (a:Int) (b:Str):decide ((Sum.inl a:Key)=Sum.inr b)=false:=iO (fun q=>nomatch q)
theorem TV (a:Str) (b:Int):decide ((Sum.inr a:Key)=Sum.inl b)=false:=iO (fun q=>nomatch q)
def bY (prog:Program) (w:World):PySem.KeyKind prog w Key where
 is:=pU
 hash:=Wh w
 inj:=fun v a b ha hb=>by
  rcases kc ha with⟨i,t,rfl,rfl⟩|⟨x,t,rfl,rfl⟩
  ·rcases kc hb with⟨j,u,rfl,e⟩|⟨y,u,rfl,e⟩
   ·injection e with e1 _;rw[e1]
   ·exact nomatch e
  ·rcases kc hb with⟨j,u,rfl,e⟩|⟨y,u,rfl,e⟩
   ·exact nomatch e
   ·injection e with e1 _;rw[e1]
 byValue:=fun k v h=>by
  rcases kc h with⟨i,t,rfl,rfl⟩|⟨x,t,rfl,rfl⟩ <;> rfl
 pyHash:=fun hv h=>by
  rcases kc hv with⟨i,t,rfl,rfl⟩|⟨x,t,rfl,rfl⟩
  ·exact wpAny_pyHash_int h
  ·exact wpAny_pyHash_str h
 eqBool:=fun hu hv h=>by
  rcases kc hu with⟨i,t,rfl,rfl⟩|⟨x,t,rfl,rfl⟩
  ·rcases kc hv with⟨j,u,rfl,rfl⟩|⟨y,u,rfl,rfl⟩
   ·rw[TQ]at h;exact wpAny_eqBool_int h
   ·rw[TU]at h;exact SeqAt.EqAt.int_str i t y u _ _ _ _ h
  ·rcases kc hv with⟨j,u,rfl,rfl⟩|⟨y,u,rfl,rfl⟩
   ·rw[TV]at h;exact SeqAt.EqAt.str_int x t j u _ _ _ _ h
   ·rw[TR]at h;exact NX h
 «strs» :=fun k x t v h=>by
  rcases kc h with⟨i,u,rfl,e⟩|⟨y,u,rfl,e⟩
  ·exact nomatch e
  ·injection e with e1 _
   subst e1;cases v <;> rfl
theorem O7 (prog:Program) (w:World) (i:Int) (t:Tok):(bY prog w).is (.inl i) (.int i t)=true:=Qf i t
theorem O8 (prog:Program) (w:World) (x:Str) (t:Tok):(bY prog w).is (.inr x) (.str x t)=true:=Qg x t
inductive V where
 |aH|bl (b:Bool)|int (i:Int)|str (x:Str)|ij (b:Array UInt8)|ik (b:UInt64)|ref (a:Addr)|ty (n:String)
 deriving DecidableEq
def RelV:V->Value->Prop
 |.aH,u=>u=Value.none
 |.bl b,u=>u=Value.bool b
 |.int i,u=>∃t,u=Value.int i t
 |.str x,u=>∃t,u=Value.str x t
 |.ij b,u=>∃t,u=Value.bytes b t
 |.ik b,u=>∃t,u=Value.float b t
 |.ref a,u=>u=Value.ref a
 |.ty n,u=>u=Value.type n
abbrev Vals:List V->List Value->Prop:=Paired RelV
theorem Vals.length {xs:List V} (r:Vals xs us):xs.length=us.length:=eu r
theorem Vals.get:∀ {xs:List V}{us:List Value}{i:Nat}{x:V},Vals xs us->xs[i]? = some x -> ∃u,us[i]? = some u/\RelV x u
 |_,_,_,_,.nil,e=>by simp at e
 |_,_,0,_,.cons r _,e=>by simp at e;subst e;exact⟨_,rfl,r⟩
 |_,_,i+1,x,.cons _ t,e=>by
  obtain⟨u,h1,h2⟩:=Vals.get (i:=i) (x:=x) t (by simpa using e)
  exact⟨u,by simpa using h1,h2⟩
theorem Vals.set {x:V}{u:Value} (r:RelV x u):∀ {xs:List V}{us:List Value} (i:Nat),Vals xs us->Vals (xs.set i x) (us.set i u)
 |_,_,_,.nil=>.nil
 |_,_,0,.cons _ t=>.cons r t
 |_,_,i+1,.cons q t=>.cons q (Vals.set r i t)
theorem Vals.append:∀ {xs ys:List V}{us ws:List Value},Vals xs us->Vals ys ws->Vals (xs++ys) (us++ws)
 |_,_,_,_,.nil,s=>s
 |_,_,_,_,.cons r t,s=>.cons r (Vals.append t s)
theorem Vals.take:∀ {xs:List V}{us:List Value} (n:Nat),Vals xs us->Vals (xs.take n) (us.take n)
 |_,_,0,_=>.nil
 |_,_,_+1,.nil=>.nil
 |_,_,n+1,.cons r t=>.cons r (Vals.take n t)
theorem Vals.drop:∀ {xs:List V}{us:List Value} (n:Nat),Vals xs us->Vals (xs.drop n) (us.drop n)
 |_,_,0,r=>r
 |_,_,_+1,.nil=>.nil
 |_,_,n+1,.cons _ t=>Vals.drop n t
def eJ:Option V->Option Value->Prop
 |some v,some u=>RelV v u
 |none,none=>True
 |_,_=>False
def KV {κ:Type}:List (κ×V)->List (κ×Value)->Prop:=Paired fun(p:κ×V) (q:κ×Value)=>p.1=q.1/\RelV p.2 q.2
def kV:Key->V
 |.inl i=>.int i
 |.inr x=>.str x
inductive HO where
 |lst (xs:List V)
 |tup (xs:List V)
 |dK (kvs:List (Key×V))|dT (kvs:List (List Key×V))
 |set (S:Int->Bool) (n:Nat)
 |ins (C dx:Addr) (fs:List (Str×V))
 |own (x:Addr)
 |xd (fs:List (Str×V))
 |met (f x:Addr)
 |tG (lo hi:Int)
 |a6 (o:Obj) (u:HO)
 |kI (ps:Array Value)
 |ext (φ:Heap->Prop)
abbrev Hp:=Addr->Option HO
def upd (H:Hp) (a:Addr) (o:HO):Hp:=fun b=>if b=a then some o else H b
theorem ag {H:Hp}{o:HO}:upd H a o a=some o:=by unfold upd;rw[aB rfl]
theorem ae {H:Hp}{o:HO} (h:b≠a):upd H a o b=H b:=by unfold upd;rw[ar h]
theorem hW {H:Hp}{o u:HO}:upd (upd H a o) a u=upd H a u:=by
 funext b;unfold upd;split <;> rfl
theorem aS {H:Hp}{o u:HO} (h:H a=some o) (h':H b=some u) (d:o≠u):a≠b:=by
 intro e;subst e;rw[h]at h';exact d (eF h')
theorem au {H:Hp}{o:HO} (h:H a=some o) (h':H b=none):a≠b:=by
 intro e;subst e;rw[h]at h';cases h'
def kB (h:Heap) (a:Addr) (items:Array Value):Prop:= ∃o,h.get? a=some o/\o.cls = .type "tuple" /\ ∃n,o.data = .seq items n/\o.dict=none
theorem kB.is (x:kB h a items):IsTup h a items:=let ⟨o,e,c,n,d,_⟩:=x;⟨o,e,c,n,d⟩
theorem kB.new (h:Heap) (items:Array Value):kB (h.push { cls:= .type "tuple",data:= .seq items }) h.objs.size items:=⟨_,cK _ rfl,rfl,_,rfl,rfl⟩
section
variable (P:Program) (w:World)
def a9 (H:Hp) (h:Heap) (a:Addr):HO->Prop
 |.lst xs=>xs.length<=sizeLine /\ ∃ (its:List Value) (n:Nat),Vals xs its/\h.get? a=some { cls:= .type "list",data:= .seq its.toArray n }
 |.tup xs=>xs.length<=sizeLine /\ ∃its:List Value,Vals xs its/\kB h a its.toArray
 |.dK kvs=>kvs.length<=sizeLine/\(a==sysModules)=false /\ ∃vs,KV kvs vs/\h.DictOf (bY P w) a vs
 |.dT kvs=>kvs.length<=sizeLine/\(a==sysModules)=false /\ ∃xs:List (List Key×Addr×Value),
   Paired (fun(p:List Key×V) (q:List Key×Addr×Value)=>p.1=q.1/\H q.2.1=some (.tup (p.1.map kV))/\RelV p.2 q.2.2) kvs xs /\
   ∃o es ep,h.get? a=some o/\o.ExactDict/\o.data = .dict es ep/\es.toList=xs.map (entryOfKey (tupleKind (bY P w)))/\(xs.map (·.1)).Nodup
 |.set S n=>h.SetOf (intKind P w) a S n
 |.ins C dx fs=>H dx=some (.own a)/\fs.length<=1000/\dx≠a/\h.get? a=some (PySem.W.instObj C dx) /\
   ∃mA,h.Ns1 dx mA/\(∀f,eJ (fs.lookup f) (mA f))/\PySem.Within mA (fs.map (·.1))
 |.own _=>∃o,h.get? a=some o
 |.xd fs=>∃mA,h.Ns1 a mA /\ ∀f,eJ (fs.lookup f) (mA f)
 |.tG lo hi=>∃t u v,h.get? a=some { cls:= .type "range",data:= .fields #[.int lo t,.int hi u,.int 1 v] }
 |.a6 o u=>h.get? a=some o/\a9 H h a u
 |.kI ps=>h.get? a=some { cls:= .none,data:= .fields ps }
 |.met f x=>h.get? a=some (PySem.W.methodObj (.ref f) (.ref x))
 |.ext φ=>φ h/\(∃o,h.get? a=some o) /\ ∀h1 h2:Heap,φ h1->(∀o,h1.get? a=some o->h2.get? a=some o)->φ h2
def b3 (H:Hp) (h:Heap):Prop:= ∀a o,H a=some o->a9 P w H h a o
end
section
variable{H H':Hp}{o:HO}
theorem a9.lt (x:a9 P w H h a o):a < h.objs.size:=by
 cases o with
 |lst xs=>obtain⟨_,_,_,_,e⟩:=x;exact bq e
 |tup xs=>obtain⟨_,_,_,p⟩:=x;exact p.is.lt
 |dK kvs=>obtain⟨_,_,_,_,o,_,_,e,_⟩:=x;exact bq e
 |dT kvs=>obtain⟨_,_,_,_,o,_,_,e,_⟩:=x;exact bq e
 |set S n=>obtain⟨o,_,_,_,e,_⟩:=x;exact bq e
 |ins C dx fs=>obtain⟨_,_,_,e,_⟩:=x;exact bq e
 |own y=>obtain⟨_,e⟩:=x;exact bq e
 |xd fs=>obtain⟨_,⟨_,_,_,e,_⟩,_⟩:=x;exact bq e
 |tG lo hi=>obtain⟨_,_,_,e⟩:=x;exact bq e
 |a6 ob u=>obtain⟨e,_⟩:=x;exact bq e
 |kI ps=>exact bq (show h.get? a=some _ from x)
 |met f y=>exact bq (show h.get? a=some _ from x)
 |ext φ=>obtain⟨_,⟨_,e⟩,_⟩:=x;exact bq e
theorem Paired.wV {α β:Type}{F G:α->β->Prop}:∀ {sQ:List α}{sR:List β},Paired F sQ sR->(∀a b,F a b->G a b)->Paired G sQ sR
 |_,_,.nil,_=>.nil
 |_,_,.cons r t,f=>.cons (f _ _ r) (Paired.wV t f)
theorem Paired.imp' {α β:Type}{F G:α->β->Prop} (f:∀a b,F a b->G a b) {sQ:List α}{sR:List β} (r:Paired F sQ sR):Paired G sQ sR:=Paired.wV r f
theorem a9.eK (x:a9 P w H h a o) (k:∀b u,(b=a\/H b=some (.own a))->h.get? b=some u->h'.get? b=some u)
  (ho:∀b,H b=some (.own a)->H' b=some (.own a)) (ht:∀b xs,H b=some (.tup xs)->H' b=some (.tup xs)):a9 P w H' h' a o:=by
 induction o with
 |lst xs=>obtain⟨z,its,n,r,e⟩:=x;exact⟨z,its,n,r,k _ _ (.inl rfl) e⟩
 |tup xs=>obtain⟨z,its,r,ob,e,c⟩:=x;exact⟨z,its,r,ob,k _ _ (.inl rfl) e,c⟩
 |dK kvs=>obtain⟨z,y,vs,r,ob,es,ep,e,c⟩:=x;exact⟨z,y,vs,r,ob,es,ep,k _ _ (.inl rfl) e,c⟩
 |dT kvs =>
  obtain⟨z,y,xs,r,ob,es,ep,e,c⟩:=x;exact⟨z,y,xs,Paired.wV r fun p q z=>⟨z.1,ht _ _ z.2.1,z.2.2⟩,ob,es,ep,k _ _ (.inl rfl) e,c⟩
 |set S n=>obtain⟨ob,es,ep,t,e,c⟩:=x;exact⟨ob,es,ep,t,k _ _ (.inl rfl) e,c⟩
 |ins C dx fs =>
  obtain⟨d,z,ne,e,mA,⟨od,es,ep,e2,c⟩,r⟩:=x;exact⟨ho _ d,z,ne,k _ _ (.inl rfl) e,mA,⟨od,es,ep,k _ _ (.inr d) e2,c⟩,r⟩
 |own y=>obtain⟨ob,e⟩:=x;exact⟨ob,k _ _ (.inl rfl) e⟩
 |xd fs=>obtain⟨mA,⟨od,es,ep,e,c⟩,r⟩:=x;exact⟨mA,⟨od,es,ep,k _ _ (.inl rfl) e,c⟩,r⟩
 |tG lo hi=>obtain⟨t,u,v,e⟩:=x;exact⟨t,u,v,k _ _ (.inl rfl) e⟩
 |a6 ob u ih=>obtain⟨e,q⟩:=x;exact⟨k _ _ (.inl rfl) e,ih q⟩
 |kI ps =>
  have e:h.get? a=some { cls:= .none,data:= .fields ps }:=x;show h'.get? a=some { cls:= .none,data:= .fields ps };exact k a _ (.inl rfl) e
 |met f y =>
  have e:h.get? a=some (PySem.W.methodObj (.ref f) (.ref y)):=x;show h'.get? a=some (PySem.W.methodObj (.ref f) (.ref y));exact k a _ (.inl rfl) e
 |ext φ=>obtain⟨p,⟨o,e⟩,st⟩:=x;exact⟨st _ _ p fun o q=>k _ _ (.inl rfl) q,⟨o,k _ _ (.inl rfl) e⟩,st⟩
theorem b3.lt (x:b3 P w H h) (e:H a=some o):a < h.objs.size:=(x a o e).lt
theorem b3.fresh (x:b3 P w H h) (e:h.objs.size<=a):H a=none:=by
 cases q:H a with
 |none=>rfl
 |some u=>exact absurd (fQ (x.lt q) e) (mR _)
theorem b3.kept (x:b3 P w H h) (k:∀b u,h.get? b=some u->h'.get? b=some u):b3 P w H h':=fun a o e =>
 (x a o e).eK (fun b u _ q=>k b u q) (fun _ q=>q) fun _ _ q=>q
theorem b3.laid (x:b3 P w H h) (k:∀b u,h.get? b=some u->h'.get? b=some u) (hp:h.objs.size<=a) (new:a9 P w (upd H a o) h' a o):b3 P w (upd H a o) h':=fun b u e=>by
 have hn:=x.fresh hp
 by_cases hb:b=a
 ·subst hb;rw[ag]at e;cases e;exact new
 ·rw[ae hb]at e
  exact(x b u e).eK (fun c v _ q=>k c v q) (fun c q=>by rw[ae (au q hn)];exact q) fun c xs q=>by rw[ae (au q hn)];exact q
end
def Rd (H:Hp) (a:Addr) (u:HO):Prop:=H a=some u \/ ∃o,H a=some (.a6 o u)
theorem Rd.of {H:Hp}{u:HO} (h:H a=some u):Rd H a u:= .inl h
theorem Rd.ok {H:Hp}{u:HO} (r:Rd H a u) (x:b3 P w H h):a9 P w H h a u:=by
 rcases r with r|⟨o,r⟩
 ·exact x a u r
 ·obtain⟨_,q⟩:=x a _ r
  exact q
def tH:Option HO->Prop
 |some (.lst _)=>True
 |some (.dK _)=>True
 |some (.dT _)=>True
 |some (.set _ _)=>True
 |some (.ins _ _ _)=>True
 |some (.ext _)=>True
 |_=>False
section
variable{H:Hp}{x e:Addr}{o':HO}
theorem b3.write (ok:b3 P w H h) (mu:tH (H x)) (he:e=x\/H e=some (.own x)) (k:∀b u,b≠e->h.get? b=some u->h'.get? b=some u) (qp:∃u,h'.get? e=some u)
  (new:a9 P w (upd H x o') h' x o'):b3 P w (upd H x o') h':=fun b u q=>by
 have Jy:∀c y,H c=some (.own y)->c≠x:=fun c y r z=>by subst z;rw[r]at mu;exact mu
 have Wi:∀c xs,H c=some (.tup xs)->c≠x:=fun c xs r z=>by subst z;rw[r]at mu;exact mu
 by_cases hb:b=x
 ·subst hb;rw[ag]at q;cases q;exact new
 ·rw[ae hb]at q
  by_cases n9:b=e
  ·have q':H b=some (.own x):=by
    rcases he with z|z
    ·exact absurd (n9.trans z) hb
    ·rw[n9];exact z
   rw[q]at q';cases q';obtain⟨v,hv⟩:=qp;exact⟨v,by rw[n9];exact hv⟩
  ·refine(ok b u q).eK (fun c v hc r=>k c v ?_ r) (fun c r=>by rw[ae (Jy c b r)];exact r) fun c xs r=>by rw[ae (Wi c xs r)];exact r
   rcases hc with rfl|hc
   ·exact n9
   ·rintro rfl
    rcases he with z|z
    ·exact Jy c b hc z
    ·rw[hc]at z;cases z;exact hb rfl
end
structure Un (fs ex:List Addr) (H H':Hp) (h h':Heap):Prop where
 keep:∀b o,h.get? b=some o->H b=none->b ∉ fs->b ∉ ex->h'.get? b=some o
 slot:∀b o,h.get? b=some o->H b=none->b∈fs->b ∉ ex -> ∃sl,h'.get? b=some { o with slots:=sl }
 free:∀b o,h.get? b=some o->H b=none->b ∉ ex->H' b=none
 there:∀b o,h.get? b=some o->b ∉ ex -> ∃o',h'.get? b=some o'
 gC:∀b xs,H b=some (.tup xs)->H' b=some (.tup xs)
 gW:∀b o u,H b=some (.a6 o u)->H' b=some (.a6 o u)
 ib:∀b ps,H b=some (.kI ps) -> ∃more,H' b=some (.kI (ps++more))
section
variable{fs qq ex ex':List Addr}{H H1 H2:Hp}{h1 h2:Heap}{x e:Addr}{o:HO}
theorem Un.any (u:Un fs ex H H1 h h1) {ob:Obj} (q:h.get? b=some ob) (n:H b=none) (hx:b ∉ ex):∃sl,h1.get? b=some { ob with slots:=sl }:=by
 by_cases hb:b∈fs
 ·exact u.slot b ob q n hb hx
 ·exact⟨ob.slots,u.keep b ob q n hb hx⟩
theorem Un.kept (k:∀b u,h.get? b=some u->h'.get? b=some u):Un fs ex H H h h':=
 ⟨fun b ob q _ _ _=>k b ob q,fun b ob q _ _ _=>⟨ob.slots,k b ob q⟩,fun _ _ _ n _=>n,fun b ob q _=>⟨ob,k b ob q⟩,fun _ _ q=>q,fun _ _ _ q=>q,fun _ ps q=>⟨#[],by rw[q];simp⟩⟩
theorem Un.refl:Un fs ex H H h h:=Un.kept fun _ _ q=>q
theorem Un.laid (k:∀b u,h.get? b=some u->h'.get? b=some u) (hp:h.objs.size<=a) (hn:H a=none):Un fs ex H (upd H a o) h h' where
 keep:=fun b u q _ _ _=>k b u q
 slot:=fun b u q _ _ _=>⟨u.slots,k b u q⟩
 free:=fun b u q n _=>by rw[ae (bX (fQ (bq q) hp))];exact n
 there:=fun b u q _=>⟨u,k b u q⟩
 gC:=fun b xs q=>by rw[ae (au q hn)];exact q
 gW:=fun b u xs q=>by rw[ae (au q hn)];exact q
 ib:=fun b ps q=>⟨#[],by rw[ae (au q hn),q];simp⟩
theorem Un.write (mu:tH (H x)) (he:e=x\/H e=some (.own x)) (k:∀b u,b≠e->h.get? b=some u->h'.get? b=some u) (qp:∃u,h'.get? e=some u):Un fs ex H (upd H x o) h h':=by
 have hx:∀b,H b=none->b≠x:=fun b n z=>by subst z;rw[n]at mu;exact mu
 have hb:∀b,H b=none->b≠e:=fun b n z=>by
  subst z;rcases he with r|r
  ·exact hx b n r
  ·rw[n]at r;cases r
 have hm:∀b u,H b=some u -> ¬ tH (some u)->b≠x:=fun b u q nm z=>by subst z;rw[q]at mu;exact nm mu
 refine⟨fun b u q n _ _=>k b u (hb b n) q,fun b u q n _ _=>⟨u.slots,k b u (hb b n) q⟩,fun b u q n _=>by rw[ae (hx b n)];exact n,fun b u q _=>?_,
  fun b xs q=>by rw[ae (hm b _ q fun z=>z)];exact q,fun b u xs q=>by rw[ae (hm b _ q fun z=>z)];exact q,fun b ps q=>⟨#[],by rw[ae (hm b _ q fun z=>z),q];simp⟩⟩
 by_cases n9:b=e
 ·subst n9;exact qp
 ·exact⟨u,k b u n9 q⟩
end
def iX (h:Heap) (H:Hp):List Addr:=(List.range h.objs.size).filter fun a=>(H a).isSome
def kC (h:Heap) (H:Hp):Heap:=PySem.W.hideAll h (iX h H)
theorem Qh (h:Heap) (H:Hp):(kC h H).objs.size=h.objs.size:=PySem.W.hideAll_size _ _
theorem Q3 {H:Hp} (e:h.get? b=some o) (n:H b=none):(kC h H).get? b=some o:=
 PySem.W.hideAll_get _ e fun hm=>by
  have q:(H b).isSome=true:=(i8.mp hm).2;rw[n]at q;simp at q
theorem R0 {H:Hp} (e:(kC h H).get? b=some o):h.get? b=some o/\H b=none:=by
 have e':h.get? b=some o:=PySem.W.of_hideAll (iX h H) e;refine⟨e',?_⟩;cases q:H b with
 |none=>rfl
 |some x =>
  have hm:b∈iX h H:=i8.mpr ⟨mS.mpr (bq e'),by simp[q]⟩
  have z:(kC h H).get? b=none:=PySem.W.hideAll_none (iX h H) hm;rw[z]at e;cases e
def Av (g h:Heap) (L:Addr):List (Addr×Obj):=(List.range h.objs.size).filterMap fun a=>if a=L\/(g.get? a).isSome=true then none else (h.get? a).map fun o=>(a,o)
theorem FV {L:Addr} (h1:a≠L) (h2:g.get? a=none) (h3:h.get? a=some o):(a,o)∈Av g h L:=
 u7.mpr ⟨a,mS.mpr (bq h3),by simp[h1,h2,h3]⟩
theorem zF {L:Addr}{p:Addr×Obj} (hp:p∈Av g h L):p.1≠L/\g.get? p.1=none/\h.get? p.1=some p.2:=by
 obtain⟨b,_,e⟩:=u7.mp hp;split at e
 ·cases e
 ·rename_i hn
  cases q:h.get? b with
  |none=>rw[q]at e;simp at e
  |some u =>
   rw[q]at e;simp only[zo,Option.some.injEq]at e;subst e;refine⟨fun z=>hn (.inl z),?_,q⟩;show g.get? b=none;cases r:g.get? b with
   |none=>rfl
   |some v=>exact(hn (.inr (by simp[r]))).elim
theorem Q4 {L:Addr}:News g L h (Av g h L):=fun p hp=>let ⟨a,b,c⟩:=zF hp;⟨c,a,b⟩
structure Mod (K:PySem.W.Frag) (mg:Str->Option Value) (base:Heap):Prop where
 og:K.In base
 glob:base.Ns mainGlobals mg
 blt:∃mb,base.Ns builtinsNs mb /\ ∀x:Str,x ≠ "__name__" -> mb x=bootBuiltins x
 nolimit:base.NoLimit
structure Cx where
 prog:Program
 w:World
 K:PySem.W.Frag
 mg:Str->Option Value
 base:Heap
 A:Around
 N:List Str
 cT:Shared
 iR:Hp
 env:Env
 outer:List Env
 stack:List Env
 ex:List Addr
 fn:Str->Bool
 calm:Bool
 pn:List (Addr×Obj)
 xe:Value->Shared->Prop
def d9 (l:List Env):List Addr:=l.filterMap (·.frame)
abbrev Cx.fs (X:Cx):List Addr:=d9 X.outer
def CV (sc:Scope) (x:Str):Prop:=sc.names.lookup x=some .local\/sc.names.lookup x=some .cell\/sc.names.lookup x=some .free
def Loc (sc:Scope) (x:Str):Prop:=sc.names.lookup x=some .local\/sc.names.lookup x=some .cell
def Look (env:Env) (h:Heap) (m:Str->Option Value) (x:Str) (u:Value):Prop:=
 (env.kindOf x=some .local/\m x=some u)\/((env.kindOf x=some .cell\/env.kindOf x=some .free) /\ ∃c,env.cells.lookup x=some c/\h.IsCell c (some u))
structure Cx.Ok (X:Cx):Prop where
 mod:Mod X.K X.mg X.base
 kind:X.env.scope.kind = .function
 glob:X.env.globals=mainGlobals
 blt:X.env.builtins=builtinsNs
 above:X.cT.heap.objs.size<=X.env.locals
 inj:∀x y c,X.env.cells.lookup x=some c->X.env.cells.lookup y=some c->x=y
 has:∀x,(X.env.kindOf x=some .cell\/X.env.kindOf x=some .free) -> ∃c,X.env.cells.lookup x=some c
 lY:∀x c,X.fn x=true->X.env.cells.lookup x=some c->X.cT.heap.objs.size<=c
 hd:X.calm=true->X.A.handled=none
 frames:X.A.frames=some X.stack
 oh:X.stack=X.outer\/(X.stack=X.env::X.outer/\X.env.frame=some X.env.locals)
 kJ:∀b∈X.ex,b≠X.env.locals /\ ∀x c,X.env.cells.lookup x=some c->c≠b
 bs:∀b o,X.base.get? b=some o->X.cT.heap.get? b=some o/\X.iR b=none
 jj:X.base.objs.size<=X.cT.heap.objs.size
 lN:∀b o,X.base.get? b=some o->b ∉ X.ex
 kE:∀b∈X.ex,b ∉ X.fs
 gD:X.cT.heap.FunFrames X.base X.outer
 jQ:∀b∈X.fs,X.iR b=none
structure Inv (X:Cx) (pins:List (Addr×Obj)) (σ:List (Option V)) (H:Hp) (s:Shared):Prop where
 ok:X.Ok
 os:s.os=X.cT.os
 bare:AllBare s.gens
 base:Un X.fs X.ex X.iR H X.cT.heap s.heap
 loc:∃m,s.heap.Ns X.env.locals m /\ ∀ (i:Nat) (x:Str) (v:V),X.N[i]? = some x->σ[i]? = some (some v)->CV X.env.scope x -> ∃u,RelV v u/\Look X.env s.heap m x u
 cell:∀x c,X.env.cells.lookup x=some c -> ∃v,s.heap.IsCell c v
 free:H X.env.locals=none
 fY:∀x c,X.env.cells.lookup x=some c->H c=none
 pin:∀p∈X.pn++pins,s.heap.get? p.1=some p.2/\H p.1=none/\p.1≠X.env.locals/\p.1 ∉ X.fs /\ ∀v,p.2.data ≠ .cell v
 aj:b3 X.prog X.w H s.heap
 len:σ.length=X.N.length
section
variable{X:Cx}{σ:List (Option V)}{H H':Hp}
theorem Cx.Ok.wW (ok:X.Ok) (e:X.base.get? b=some o):b ∉ X.fs:=fun hb=>by
 have:=(ok.gD.mem hb).1;rw[e]at this;cases this
theorem Inv.bs (I:Inv X pins σ H s):∀b o,X.base.get? b=some o->s.heap.get? b=some o/\H b=none:=fun b o e =>
 ⟨I.base.keep b o (I.ok.bs b o e).1 (I.ok.bs b o e).2 (I.ok.wW e) (I.ok.lN b o e),I.base.free b o (I.ok.bs b o e).1 (I.ok.bs b o e).2 (I.ok.lN b o e)⟩
theorem Inv.bk (I:Inv X pins σ H s):∀b o,X.base.get? b=some o->s.heap.get? b=some o:=fun b o e=>(I.bs b o e).1
theorem Inv.mod (I:Inv X pins σ H s):Mod X.K X.mg X.base:=I.ok.mod
theorem Inv.bB (I:Inv X pins σ H s):X.K.In s.heap:=I.ok.mod.og.keeps I.bk
theorem Inv.lt (I:Inv X pins σ H s):X.env.locals < s.heap.objs.size:=let ⟨_,hn,_⟩:=I.loc;hn.lt
theorem Inv.sz (I:Inv X pins σ H s):X.cT.heap.objs.size<=s.heap.objs.size:=gQ I.ok.above (u9 I.lt)
theorem Inv.Wj (I:Inv X pins σ H s) (h:s.heap.objs.size<=a):a ∉ X.fs:=fun hb=>by
 obtain⟨_,o,ho,_⟩:=I.ok.gD.mem hb;exact absurd (fQ (bq ho) (gQ I.sz h)) (mR _)
theorem Inv.jk (I:Inv X pins σ H s):∀x c,X.env.cells.lookup x=some c->c≠X.env.locals:=fun x c e z=>by
 obtain⟨v,o,ho,hd⟩:=I.cell x c e;obtain⟨m,⟨o',es,ep,fq,tI,_⟩,_⟩:=I.loc;rw[z,fq]at ho;cases ho;rw[tI]at hd;cases hd
theorem Inv.gD (I:Inv X pins σ H s):s.heap.FunFrames X.base X.outer:=by
 have all:∀ (l:List Env),(∀b∈d9 l,b∈X.fs)->X.cT.heap.FunFrames X.base l->s.heap.FunFrames X.base l:=by
  intro l
  induction l with
  |nil=>intro _ _;trivial
  |cons env r ih =>
   intro hs hl;obtain⟨hk,⟨L,o,hf,hn,ho,hd⟩,hr⟩:=hl;have hL:L∈X.fs:=hs L (by unfold d9;rw[NY,hf];exact br)
   obtain⟨sl,e⟩:=I.base.slot L o ho (I.ok.jQ L hL) hL fun z=>I.ok.kE L z hL;exact⟨hk,⟨L,_,hf,hn,e,hd⟩,ih (fun b hb=>hs b (by unfold d9;rw[NY,hf];exact bU _ hb)) hr⟩
 exact all X.outer (fun _ hb=>hb) I.ok.gD
theorem Inv.stack (I:Inv X pins σ H s):s.heap.FunFrames X.base X.stack:=by
 rcases I.ok.oh with e|⟨e,hf⟩
 ·rw[e];exact I.gD
 ·rw[e]
  obtain⟨m,hn,_⟩:=I.loc;refine .cons (by rw[I.ok.kind];decide) hf hn ?_ I.gD
  exact zp (gQ I.ok.jj I.ok.above)
theorem Inv.we (I:Inv X pins σ H s):∀b∈d9 X.stack,b∈X.env.locals::X.fs:=fun b hb=>by
 rcases I.ok.oh with e|⟨e,hf⟩
 ·rw[e]at hb;exact bU _ hb
 ·rw[e]at hb
  unfold d9 at hb;rw[NY,hf]at hb;exact hb
theorem Inv.Aw (I:Inv X pins σ H s):∀b∈d9 X.stack,H b=none:=fun b hb=>by
 rcases b9.mp (I.we b hb) with e|hb
 ·rw[e];exact I.free
 ·obtain⟨_,o,ho,_⟩:=I.ok.gD.mem hb
  exact I.base.free b o ho (I.ok.jQ b hb) fun z=>I.ok.kE b z hb
theorem Inv.step {g':Array GenState}{d':Drawn} (I:Inv X pins σ H s)
  (jR:∀b∈ch,(b∈X.ex\/X.cT.heap.objs.size<=b)/\b≠X.env.locals/\(∀x c,X.env.cells.lookup x=some c->c≠b) /\ ∀p∈X.pn++pins,p.1≠b)
  (keep:∀b o,b≠X.env.locals->b ∉ X.fs->b ∉ ch->s.heap.get? b=some o->H b=none->h'.get? b=some o)
  (slot:∀b o,b≠X.env.locals->b∈X.fs->b ∉ ch->s.heap.get? b=some o->H b=none -> ∃sl,h'.get? b=some { o with slots:=sl }) (free:∀b o,b ∉ ch->s.heap.get? b=some o->H b=none->H' b=none)
  (there:∀b o,b ∉ ch->s.heap.get? b=some o -> ∃o',h'.get? b=some o')
  (gC:∀b xs,H b=some (.tup xs)->H' b=some (.tup xs)) (gW:∀b o u,H b=some (.a6 o u)->H' b=some (.a6 o u)) (ib:∀b ps,H b=some (.kI ps) -> ∃more,H' b=some (.kI (ps++more)))
  (ns:∀m,s.heap.Ns X.env.locals m->h'.Ns X.env.locals m) (aj:b3 X.prog X.w H' h') (hg:AllBare g') :
  Inv X pins σ H' { s with heap:=h',gens:=g',drawn:=d',toks:=t' }:=by
 have tJ:∀b o,X.cT.heap.get? b=some o->b≠X.env.locals:=fun b o e=>bX (fQ (bq e) I.ok.above);have xV:∀b o,X.cT.heap.get? b=some o->b ∉ X.ex->b ∉ ch:=fun b o e hx hb=>by
  rcases (jR b hb).1 with z|z
  ·exact hx z
  ·exact absurd (fQ (bq e) z) (mR _)
 have cellK:∀x c,X.env.cells.lookup x=some c -> ∀v,s.heap.IsCell c v->h'.IsCell c v:=fun x c e v ⟨o,ho,hd⟩=>by
  have gG:c ∉ ch:=fun z=>(jR c z).2.2.1 x c e rfl
  by_cases hc:c∈X.fs
  ·obtain⟨sl,q⟩:=slot c o (I.jk x c e) hc gG ho (I.fY x c e)
   exact⟨_,q,hd⟩
  ·exact⟨o,keep c o (I.jk x c e) hc gG ho (I.fY x c e),hd⟩
 refine⟨I.ok,I.os,hg,⟨fun b o e n hb hx=>?_,fun b o e n hb hx=>?_,fun b o e n hx=>?_,fun b o e hx=>?_,fun b xs e=>gC b xs (I.base.gC b xs e),fun b o xs e=>gW b o xs (I.base.gW b o xs e),fun b ps e=>?_⟩,?_,fun x c e=>?_,?_,fun x c e=>?_,fun p hp=>?_,aj,I.len⟩
 ·exact keep b o (tJ b o e) hb (xV b o e hx) (I.base.keep b o e n hb hx) (I.base.free b o e n hx)
 ·obtain⟨sl,e1⟩:=I.base.slot b o e n hb hx
  obtain⟨CY,e2⟩:=slot b _ (tJ b o e) hb (xV b o e hx) e1 (I.base.free b o e n hx);exact⟨CY,e2⟩
 ·obtain⟨o',e1⟩:=I.base.there b o e hx
  exact free b o' (xV b o e hx) e1 (I.base.free b o e n hx)
 ·obtain⟨o',e1⟩:=I.base.there b o e hx
  exact there b o' (xV b o e hx) e1
 ·obtain⟨m1,e1⟩:=I.base.ib b ps e
  obtain⟨m2,e2⟩:=ib b _ e1;exact⟨m1++m2,by rw[e2,Array.append_assoc]⟩
 ·obtain⟨m,hn,hl⟩:=I.loc
  refine⟨m,ns m hn,fun i x v e1 e2 e3=>?_⟩;obtain⟨u,r,l⟩:=hl i x v e1 e2 e3;refine⟨u,r,?_⟩;rcases l with l|⟨k,c,e,z⟩
  ·exact .inl l
  ·exact .inr ⟨k,c,e,cellK x c e _ z⟩
 ·obtain⟨v,z⟩:=I.cell x c e
  exact⟨v,cellK x c e v z⟩
 ·obtain⟨m,⟨o,_,_,ho,_⟩,_⟩:=I.loc
  exact free _ o (fun z=>(jR _ z).2.1 rfl) ho I.free
 ·obtain⟨v,o,ho,hd⟩:=I.cell x c e
  exact free c o (fun z=>(jR c z).2.2.1 x c e rfl) ho (I.fY x c e)
 ·obtain⟨e,n,ne,nf,d⟩:=I.pin p hp
  have gG:p.1 ∉ ch:=fun z=>(jR p.1 z).2.2.2 p hp rfl;exact⟨keep p.1 p.2 ne nf gG e n,free p.1 p.2 gG e n,ne,nf,d⟩
theorem Inv.un (I:Inv X pins σ H s) (u:Un X.fs [] H H' s.heap h') (aj:b3 X.prog X.w H' h'):Inv X pins σ H' { s with heap:=h',toks:=t' }:=by
 obtain⟨m,⟨o,es,ep,ho,r⟩,_⟩:=id I.loc;obtain⟨sl,hL⟩:=u.any ho I.free (by simp)
 exact I.step (g':=s.gens) (d':=s.drawn) (ch:= []) (fun _ z=>nomatch z) (fun b o _ hb _ e n=>u.keep b o e n hb (by simp)) (fun b o _ hb _ e n=>u.slot b o e n hb (by simp)) (fun b o _ e n=>u.free b o e n (by simp)) (fun b o _ e=>u.there b o e (by simp)) u.gC u.gW u.ib (fun m' hm=>by
  obtain⟨o',oi,qr,fq,r'⟩:=hm;rw[ho]at fq;cases fq;exact⟨_,oi,qr,hL,r'⟩) aj I.bare
theorem Inv.call {g':Array GenState}{d':Drawn} (I:Inv X pins σ H s) (u:Un (d9 X.stack) ch H H' s.heap h') (aj:b3 X.prog X.w H' h') (hg:AllBare g')
  (jR:∀b∈ch,(b∈X.ex\/X.cT.heap.objs.size<=b)/\b≠X.env.locals/\(∀x c,X.env.cells.lookup x=some c->c≠b) /\ ∀p∈X.pn++pins,p.1≠b) :
  Inv X pins σ H' { s with heap:=h',gens:=g',drawn:=d',toks:=t' }:=by
 obtain⟨m,⟨o,es,ep,ho,r⟩,_⟩:=id I.loc;obtain⟨sl,hL⟩:=u.any ho I.free fun z=>(jR _ z).2.1 rfl;exact I.step (ch:=ch) jR (fun b o hL hb hc e n=>u.keep b o e n (fun z=>(b9.mp (I.we b z)).elim hL hb) hc) (fun b o _ _ hc e n=>u.any e n hc) (fun b o hc e n=>u.free b o e n hc) (fun b o hc e=>u.there b o e hc) u.gC u.gW u.ib (fun m' hm=>by
  obtain⟨o',oi,qr,fq,r'⟩:=hm;rw[ho]at fq;cases fq;exact⟨_,oi,qr,hL,r'⟩) aj hg
theorem Inv.turned (I:Inv X pins σ H s) (k:∀b o,b≠it->s.heap.get? b=some o->h'.get? b=some o) (hn:H it=none) (hL:it≠X.env.locals)
  (h1:it∈X.ex\/X.cT.heap.objs.size<=it) (h2:∀x c,X.env.cells.lookup x=some c->c≠it) (h3:∀p∈X.pn++pins,p.1≠it):Inv X pins σ H { s with heap:=h',toks:=t' }:=by
 have Lh:∀b u,H b=some u->b≠it:=fun b u e z=>by rw[z,hn]at e;cases e
 refine I.step (g':=s.gens) (d':=s.drawn) (ch:= [it]) (fun b hb=>?_) (fun b o _ _ hc e _=>k b o (fun z=>hc (by simp[z])) e) (fun b o _ _ hc e _=>⟨o.slots,k b o (fun z=>hc (by simp[z])) e⟩) (fun _ _ _ _ n=>n)
  (fun b o hc e=>⟨o,k b o (fun z=>hc (by simp[z])) e⟩) (fun _ _ e=>e) (fun _ _ _ e=>e) (fun b ps e=>⟨#[],by rw[e];simp⟩) (fun m hm=>?_) (fun b u e=>?_) I.bare
 ·have e:b=it:=by simpa using hb
  subst e;exact⟨h1,hL,h2,h3⟩
 ·obtain⟨o,es,ep,ho,r⟩:=hm
  exact⟨o,es,ep,k _ o (aV hL) ho,r⟩
 ·refine(I.aj b u e).eK (fun c v hc q=>k c v ?_ q) (fun _ q=>q) fun _ _ q=>q
  rcases hc with z|z
  ·rw[z];exact Lh b u e
  ·exact Lh c _ z
theorem Inv.tok (I:Inv X pins σ H s) (t:Nat):Inv X pins σ H { s with toks:=t }:=I.un (h':=s.heap) (t':=t) Un.refl I.aj
theorem Inv.kept (I:Inv X pins σ H s) (k:∀b u,s.heap.get? b=some u->h'.get? b=some u):Inv X pins σ H { s with heap:=h',toks:=t' }:=I.un (Un.kept k) (I.aj.kept k)
theorem Inv.laid {o:HO} (I:Inv X pins σ H s) (k:∀b u,s.heap.get? b=some u->h'.get? b=some u) (hp:s.heap.objs.size<=a) (new:a9 X.prog X.w (upd H a o) h' a o) :
  Inv X pins σ (upd H a o) { s with heap:=h',toks:=t' }:=I.un (Un.laid k hp (I.aj.fresh hp)) (I.aj.laid k hp new)
theorem Inv.write {x e:Addr}{o:HO} (I:Inv X pins σ H s) (mu:tH (H x)) (he:e=x\/H e=some (.own x)) (k:∀b u,b≠e->s.heap.get? b=some u->h'.get? b=some u) (qp:∃u,h'.get? e=some u)
  (new:a9 X.prog X.w (upd H x o) h' x o):Inv X pins σ (upd H x o) { s with heap:=h',toks:=t' }:=I.un (Un.write mu he k qp) (I.aj.write mu he k qp new)
theorem Inv.Ib {sr:List (Addr×Obj)} (I:Inv X pins σ H s) (h:∀p∈sr,s.heap.get? p.1=some p.2/\H p.1=none/\p.1≠X.env.locals/\p.1 ∉ X.fs /\ ∀v,p.2.data ≠ .cell v):Inv X sr σ H s:=
 ⟨I.ok,I.os,I.bare,I.base,I.loc,I.cell,I.free,I.fY,fun p hp=>(dS.mp hp).elim (fun z=>I.pin p (j5 _ z)) (h p),I.aj,I.len⟩
theorem Ad (hN:N.Nodup) (a:N[i]? = some x) (b:N[j]? = some x):i=j:=by
 obtain⟨h1,e1⟩:=b4.mp a;obtain⟨h2,e2⟩:=b4.mp b;exact(List.getElem_inj hN).mp (e1.trans e2.symm)
theorem Gs {M:Model}{v:V}{Q:Unit->Shared->Prop} (I:Inv X pins σ H s) (hN:X.N.Nodup) (hi:X.N[i]? = some x) (hx:Loc X.env.scope x) (r:RelV v u)
  (h:∀s',Inv X pins (σ.set i (some v)) H s'->(∃a,Heap.SameBut a s.heap s'.heap/\(a=X.env.locals\/X.env.cells.lookup x=some a))->Q () s') (hf:X.fn x=true\/X.env.scope.names.lookup x=some .local:=by first|exact .inl rfl|exact .inr rfl|assumption):wpAny M A (storeName X.env x u) Q E s:=by
 obtain⟨m,hn,hl⟩:=id I.loc;have Bw:(X.env.scope.kind == .class || (X.env.scope.kind == .module && X.env.locals != X.env.globals))=false:=by rw[I.ok.kind];rfl
 have Jz:i < σ.length:=by rw[I.len];exact(b4.mp hi).1
 have jk:=I.jk;have tracked:∀ {a:Addr}{h':Heap},(∃o,s.heap.get? a=some o/\H a=none)->Heap.SameBut a s.heap h'->b3 X.prog X.w H h':=fun {a h'} ha hs b ob e=>by
  obtain⟨_,_,su⟩:=ha;refine(I.aj b ob e).eK (fun c w' hc q=>(hs.2 c ?_).trans q) (fun _ q=>q) fun _ _ q=>q;rintro rfl;rcases hc with rfl|hc
  ·rw[su]at e;cases e
  ·rw[su]at hc;cases hc
 rcases hx with hk|hk
 ·refine wpAny_storeName_local hk hn (fun h' tK hs=>?_) Bw
  obtain⟨oL,_,_,Li,_⟩:=id hn;refine h _ ⟨I.ok,I.os,I.bare,⟨fun b o e n hb hx=>?_,fun b o e n hb hx=>?_,I.base.free,fun b o e hx=>?_,I.base.gC,I.base.gW,I.base.ib⟩,⟨_,tK,fun j y v' e1 e2 e3=>?_⟩,fun y c e=>?_,I.free,I.fY,fun p hp=>?_,tracked ⟨oL,Li,I.free⟩ hs,by simpa using I.len⟩ ⟨_,hs,.inl rfl⟩
  ·exact(hs.2 b (bX (fQ (bq e) I.ok.above))).trans (I.base.keep b o e n hb hx)
  ·obtain⟨sl,e1⟩:=I.base.slot b o e n hb hx
   exact⟨sl,(hs.2 b (bX (fQ (bq e) I.ok.above))).trans e1⟩
  ·obtain⟨o',e1⟩:=I.base.there b o e hx
   exact⟨o',(hs.2 b (bX (fQ (bq e) I.ok.above))).trans e1⟩
  ·by_cases hj:j=i
   ·subst hj
    rw[hi]at e1;cases e1;rw[NZ Jz]at e2;cases e2
    exact⟨u,r,.inl ⟨hk,by simp⟩⟩
   ·rw[N0 (aV hj)]at e2
    obtain⟨u',r',q⟩:=hl j y v' e1 e2 e3;refine⟨u',r',?_⟩;rcases q with⟨k,e⟩|⟨k,c,e,z⟩
    ·refine .inl ⟨k,?_⟩
     have:y≠x:=fun e=>hj (Ad hN e1 (e ▸ hi));simp[this,e]
    ·exact .inr ⟨k,c,e,z.sameBut hs (jk y c e)⟩
  ·obtain⟨w',z⟩:=I.cell y c e
   exact⟨w',z.sameBut hs (jk y c e)⟩
  ·obtain⟨e,n,ne,nf,d⟩:=I.pin p hp
   exact⟨(hs.2 p.1 ne).trans e,n,ne,nf,d⟩
 ·have CZ:X.fn x=true:=by
   rcases hf with z|z
   ·exact z
   ·rw[z]at hk;cases hk
  obtain⟨c,hc⟩:=I.ok.has x (.inl hk);obtain⟨w',z⟩:=I.cell x c hc;refine wpAny_storeName_cell I.ok.kind hk hc z (fun h' kK hs=>?_);obtain⟨oc,Lj,Wk⟩:=id z;refine h { s with heap:=h' } ⟨I.ok,I.os,I.bare,⟨fun b o e n hb hx=>?_,fun b o e n hb hx=>?_,I.base.free,fun b o e hx=>?_,I.base.gC,I.base.gW,I.base.ib⟩,⟨m,hn.sameBut hs (aV (jk x c hc)),fun j y v' e1 e2 e3=>?_⟩,fun y c' e=>?_,I.free,I.fY,fun p hp=>?_,tracked ⟨oc,Lj,I.fY x c hc⟩ hs,by simpa using I.len⟩ ⟨c,hs,.inr hc⟩
  ·exact(hs.2 b (bX (fQ (bq e) (I.ok.lY x c CZ hc)))).trans (I.base.keep b o e n hb hx)
  ·obtain⟨sl,e1⟩:=I.base.slot b o e n hb hx
   exact⟨sl,(hs.2 b (bX (fQ (bq e) (I.ok.lY x c CZ hc)))).trans e1⟩
  ·obtain⟨o',e1⟩:=I.base.there b o e hx
   exact⟨o',(hs.2 b (bX (fQ (bq e) (I.ok.lY x c CZ hc)))).trans e1⟩
  ·by_cases hj:j=i
   ·subst hj
    rw[hi]at e1;cases e1;rw[NZ Jz]at e2;cases e2
    exact⟨u,r,.inr ⟨.inl hk,c,hc,kK⟩⟩
   ·rw[N0 (aV hj)]at e2
    obtain⟨u',r',q⟩:=hl j y v' e1 e2 e3;refine⟨u',r',?_⟩;rcases q with q|⟨k,c',e,z'⟩
    ·exact .inl q
    ·refine .inr ⟨k,c',e,z'.sameBut hs ?_⟩
     rintro rfl;exact hj (Ad hN e1 (I.ok.inj _ _ _ e hc ▸ hi))
  ·by_cases Lk:c'=c
   ·subst Lk;exact⟨_,kK⟩
   ·obtain⟨w2,z2⟩:=I.cell y c' e
    exact⟨w2,z2.sameBut hs Lk⟩
  ·obtain⟨e,n,ne,nf,d⟩:=I.pin p hp
   refine⟨(hs.2 p.1 ?_).trans e,n,ne,nf,d⟩;intro q;rw[q,Lj]at e;have q':oc=p.2:=eF e;exact d w' (by rw[<-q'];exact Wk)
theorem Ae {M:Model}{v:V}{Q:Unit->Shared->Prop} (I:Inv X pins σ H s) (hN:X.N.Nodup) (hi:X.N[i]? = some x) (hx:Loc X.env.scope x) (r:RelV v u)
  (h:∀s',Inv X pins (σ.set i (some v)) H s'->Q () s') (hf:X.fn x=true\/X.env.scope.names.lookup x=some .local:=by first|exact .inl rfl|exact .inr rfl|assumption):wpAny M A (storeName X.env x u) Q E s:=
 Gs I hN hi hx r (fun s' I' _=>h s' I') hf
theorem Inv.wA (I:Inv X pins σ H s) (ho:s'.os=s.os) (u:Un (d9 X.stack) ch H H' s.heap s'.heap) (aj:b3 X.prog X.w H' s'.heap) (hg:AllBare s'.gens)
  (jR:∀b∈ch,(b∈X.ex\/X.cT.heap.objs.size<=b)/\b≠X.env.locals/\(∀x c,X.env.cells.lookup x=some c->c≠b) /\ ∀p∈X.pn++pins,p.1≠b):Inv X pins σ H' s':=by
 obtain⟨h',g',d',t',o'⟩:=s';have e:o'=s.os:=ho;subst e;exact I.call (g':=g') (t':=t') (d':=d') u aj hg jR
end
abbrev XK:=Value->Option Addr->Hp->Prop
abbrev St:=List (Option V)
abbrev VK:=V->Hp->Prop
abbrev TE:=St->Hp->VK->Prop
abbrev TT:=St->Hp->(Bool->Hp->Prop)->Prop
abbrev TA:=St->Hp->(List V->Hp->Prop)->Prop
structure Ends where
 nx:St->Hp->Prop
 rt:VK
 bk:St->Hp->Prop:=fun _ _=>False
 ct:St->Hp->Prop:=fun _ _=>False
abbrev TS:=Ends->St->Hp->Prop
end L2
variable{xs ys vs ws wb wt:List L2.V}{H H' H1 H2:L2.Hp}{X:L2.Cx}{σ gH:L2.St}{v y:L2.V}{ta te tl tv:L2.TE}{tb ts:L2.TS}{D:L2.Ends}{ti:L2.TT}{kvs:List (L2.Key×L2.V)}{O:L2.HO}
namespace L2
open PySem PySem.Spec PyProof.Rows
def EP (X:Cx) (pins:List (Addr×Obj)) (σ:St) (Q:VK) (u:Value) (s':Shared):Prop:= ∃v H',Inv X pins σ H' s'/\RelV v u/\Q v H'
def TP (X:Cx) (pins:List (Addr×Obj)) (σ:St) (Q:Bool->Hp->Prop) (b:Bool) (s':Shared):Prop:= ∃H',Inv X pins σ H' s'/\Q b H'
def AP (X:Cx) (pins:List (Addr×Obj)) (σ:St) (Q:List V->Hp->Prop) (us:List Value) (s':Shared):Prop:= ∃vs H',Inv X pins σ H' s'/\Vals vs us/\Q vs H'
def SP (X:Cx) (pins:List (Addr×Obj)) (D:Ends) (f:Flow) (s':Shared):Prop:=
 match f with
 |.next=>∃aI H',Inv X pins aI H' s'/\D.nx aI H'
 |.brk=>∃aI H',Inv X pins aI H' s'/\D.bk aI H'
 |.cont=>∃aI H',Inv X pins aI H' s'/\D.ct aI H'
 |.ret u=>∃v aI H',Inv X pins aI H' s'/\RelV v u/\D.rt v H'
def PE (X:Cx) (e:Expr) (t:TE):Prop:=
 ∀ (pins:List (Addr×Obj)) (s:Shared) (σ:St) (H:Hp) (Q:VK),Inv X pins σ H s->t σ H Q->wpAny (model X.prog X.w) X.A (eval e X.env) (EP X pins σ Q) X.xe s
def PT (X:Cx) (e:Expr) (t:TT):Prop:=
 ∀ (pins:List (Addr×Obj)) (s:Shared) (σ:St) (H:Hp) (Q:Bool->Hp->Prop),Inv X pins σ H s->t σ H Q->wpAny (model X.prog X.w) X.A (isTrue e X.env (eval e X.env)) (TP X pins σ Q) X.xe s
def PW (X:Cx) (e:Expr) (t:TT):Prop:=
 ∀ (whole:Sem Value) (pins:List (Addr×Obj)) (s:Shared) (σ:St) (H:Hp) (Q:Bool->Hp->Prop),Inv X pins σ H s->t σ H Q->wpAny (model X.prog X.w) X.A (isTrue e X.env whole) (TP X pins σ Q) X.xe s
theorem PW.pt {t:TT} (h:PW X e t):PT X e t:=h _
def PA (X:Cx) (es:List Expr) (t:TA):Prop:=
 ∀ (pos:Pos) (pins:List (Addr×Obj)) (s:Shared) (σ:St) (H:Hp) (Q:List V->Hp->Prop),Inv X pins σ H s->t σ H Q->wpAny (model X.prog X.w) X.A (spliced (backTo pos (starEach es X.env))) (AP X pins σ Q) X.xe s
def PS (X:Cx) (st:Stmt) (t:TS):Prop:=
 ∀ (pins:List (Addr×Obj)) (s:Shared) (σ:St) (H:Hp) (D:Ends),Inv X pins σ H s->t D σ H->wpAny (model X.prog X.w) X.A (exec st X.env) (SP X pins D) X.xe s
def dH (X:Cx) (st:List Stmt) (t:TS):Prop:=
 ∀ (pins:List (Addr×Obj)) (s:Shared) (σ:St) (H:Hp) (D:Ends),Inv X pins σ H s->t D σ H->wpAny (model X.prog X.w) X.A (execs st X.env) (SP X pins D) X.xe s
theorem ao {α:Type}{t:Sem α}{Q Q':α->Shared->Prop}{M:Model} (h:wpAny M A t Q E s) (hQ:∀a s,Q a s->Q' a s):wpAny M A t Q' E s:=j6 h hQ fun _ _ x=>x
section
def lO (i:Nat):TE:=fun σ H Q=>∃v,σ[i]? = some (some v)/\Q v H
def tC (v:V):TE:=fun _ H Q=>Q v H
theorem TX (hN:X.N[i]? = some x) (hv:CV X.env.scope x) (hd:(x==("__debug__" : Str))=false:=by decide) (ee:(x==("__classdict__" : Str))=false:=by decide):PE X (.Name x pos) (lO i):=by
 intro pins s σ H Q I h;obtain⟨v,e,h⟩:=h;obtain⟨m,hn,hl⟩:=I.loc;obtain⟨u,r,l⟩:=hl i x v hN e hv;have fin:EP X pins σ Q u s:=⟨v,H,I,r,h⟩;rcases l with⟨hk,hm⟩|⟨hk,c,hc,I0⟩
 ·exact wpAny_Name (wpAny_loadName_local I.ok.kind hk hn hm fin) hd
 ·rcases hk with hk|hk
  ·exact wpAny_Name (wpAny_loadName_cell I.ok.kind hk hc I0 fin) hd
  ·exact wpAny_Name (wpAny_loadName_free I.ok.kind hk hc I0 fin ee) hd
theorem ay {i j pos}:PE X (.Constant (.int i) j pos) (tC (.int i)):=fun _ _ _ H _ I h=>wpAny_Constant_int ⟨.int i,H,I.tok _,⟨_,rfl⟩,h⟩
theorem wB {b j pos}:PE X (.Constant (.bool b) j pos) (tC (.bl b)):=fun _ _ _ H _ I h=>Constant_bool ⟨.bl b,H,I,rfl,h⟩
theorem jd {j pos}:PE X (.Constant .none j pos) (tC .aH):=fun _ _ _ H _ I h=>Constant_none ⟨.aH,H,I,rfl,h⟩
theorem df {x j pos}:PE X (.Constant (.str x) j pos) (tC (.str x)):=fun _ _ _ H _ I h=>Calls.Constant_str ⟨.str x,H,I.tok _,⟨_,rfl⟩,h⟩
def Gl (X:Cx) (x:Str):Prop:=X.env.kindOf x=some .globalImplicit
theorem pI (I:Inv X pins σ H s) (hg:Gl X x) (hm:X.mg x=some u) (h:Q u s)
  (hd:(x==("__debug__" : Str))=false:=by decide):wpAny (model X.prog X.w) X.A (eval (.Name x pos) X.env) Q E s:=
 ae4 I.ok.kind hg (Calls.loadGlobal_global (by rw[I.ok.glob];exact I.mod.glob.keeps I.bk) hm h) hd
theorem nj (I:Inv X pins σ H s) (hg:Gl X x) (hm:X.mg x=none) (hv:bootBuiltins x=some u) (h:Q u s)
  (hn:x ≠ "__name__" :=by decide) (hd:(x==("__debug__" : Str))=false:=by decide):wpAny (model X.prog X.w) X.A (eval (.Name x pos) X.env) Q E s:=by
 obtain⟨mb,h1,h2⟩:=I.mod.blt;exact ae4 I.ok.kind hg (Calls.loadGlobal_builtin (by rw[I.ok.glob];exact I.mod.glob.keeps I.bk) hm (by rw[I.ok.blt];exact h1.keeps I.bk) ((h2 x hn).trans hv) h) hd
theorem vQ (hg:Gl X x) (hm:X.mg x=none) (hv:bootBuiltins x=some u) (r:RelV v u) (hn:x ≠ "__name__" :=by decide) (hd:(x==("__debug__" : Str))=false:=by decide):PE X (.Name x pos) (tC v):=
 fun _ _ _ H _ I h=>nj I hg hm hv ⟨v,H,I,r,h⟩ hn hd
variable{a b:Expr}{tb:TE}
def PC (X:Cx) (op:CmpOp) (a b:Expr) (t:TE):Prop:=
 ∀ (pins:List (Addr×Obj)) (s:Shared) (σ:St) (H:Hp) (Q:VK),Inv X pins σ H s->t σ H Q ->
  wpAny (model X.prog X.w) X.A (eval a X.env) (fun v bp=>wpAny (model X.prog X.w) X.A (eval b X.env) (fun u lP=>wpAny (model X.prog X.w) X.A (compareOp op v u) (EP X pins σ Q) X.xe lP) X.xe bp) X.xe s
def tB (t:TE):TT:=fun σ H Q=>t σ H fun x H1=>∃c,x = .bl c/\Q c H1
theorem TY {op:CmpOp}{t:TE} (h:PC X op a b t) (h1:behindInMarks op b=false:=by first|exact Ra _ (by decide) (by decide)|rfl):PE X (.Compare a [op] [b] pos) t:=fun pins s σ H Q I hw=>wpAny_Compare1 (h pins s σ H Q I hw) h1
theorem nt {op:CmpOp}{t:TE} (h:PC X op a b t) (h1:behindInMarks op b=false:=by first|exact Ra _ (by decide) (by decide)|rfl):PT X (.Compare a [op] [b] pos) (tB t):=by
 intro pins s σ H Q I hw;refine wpAny_isTrue_Compare1 (ao (h pins s σ H _ I hw) fun v s1 h1=>ao h1 fun u s2 h2=>ao h2 fun c s3 ⟨x,H1,I1,r1,q1⟩=>?_) h1;obtain⟨d,rfl,q⟩:=q1;cases r1
 exact j7 ⟨H1,I1,q⟩
theorem jC {t:TE} (h:PE X e t) (he:∀whole,isTrue e X.env whole=(do let v <- whole;standAt e.pos;holding [v] (truthy v)):=by intro _;rfl):PT X e (tB t):=by
 intro pins s σ H Q I hw;refine isTrue_plain (ao (h pins s σ H _ I hw) fun v s1 ⟨x,H1,I1,r1,q1⟩=>?_) (he _);obtain⟨d,rfl,q⟩:=q1;cases r1
 exact j7 ⟨H1,I1,q⟩
variable{tA xW:TT}{rest:List Expr}
def JA (t u:TT):TT:=fun σ H Q=>t σ H fun c H1=>if c=true then u σ H1 Q else Q false H1
def Ll (t u:TT):TT:=fun σ H Q=>t σ H fun c H1=>if c=true then Q true H1 else u σ H1 Q
def Wl (t:TT):TT:=fun σ H Q=>t σ H fun c H1=>Q (!c) H1
theorem pw_and1 (ha:PT X a tA):PW X (.BoolOp .And [a] pos) tA:=by
 intro wh pins s σ H Q I h;refine isTrue_and (ao (ha pins s σ H Q I h) fun c s1 e=>?_);cases c with
 |true=>exact isTrue_and_nil e
 |false=>exact e
theorem pw_or1 (ha:PT X a tA):PW X (.BoolOp .Or [a] pos) tA:=by
 intro wh pins s σ H Q I h;refine isTrue_or (ao (ha pins s σ H Q I h) fun c s1 e=>?_);cases c with
 |false=>exact isTrue_or_nil e
 |true=>exact e
theorem pw_and (ha:PT X a tA) (hb:PW X (.BoolOp .And (b::rest) pos) xW):PW X (.BoolOp .And (a::b::rest) pos) (JA tA xW):=by
 intro wh pins s σ H Q I h;refine isTrue_and (ao (ha pins s σ H _ I h) fun c s1 ⟨H1,I1,q1⟩=>?_);cases c with
 |true=>exact hb wh pins s1 σ H1 Q I1 q1
 |false=>exact⟨H1,I1,q1⟩
theorem pw_or (ha:PT X a tA) (hb:PW X (.BoolOp .Or (b::rest) pos) xW):PW X (.BoolOp .Or (a::b::rest) pos) (Ll tA xW):=by
 intro wh pins s σ H Q I h;refine isTrue_or (ao (ha pins s σ H _ I h) fun c s1 ⟨H1,I1,q1⟩=>?_);cases c with
 |true=>exact⟨H1,I1,q1⟩
 |false=>exact hb wh pins s1 σ H1 Q I1 q1
theorem kq (ha:PT X a tA):PT X (.UnaryOp .Not a pos) (Wl tA):=by
 intro pins s σ H Q I h;exact isTrue_not (ha pins s σ H (fun c H1=>Q (!c) H1) I h)
def U1 (ta tb:TE):TE:=fun σ H Q=>ta σ H fun x H1=>∃c,x = .bl c/\if c=true then tb σ H1 Q else Q (.bl false) H1
theorem IG {op}{t:TE} (h:PE X a t):PE X (.BoolOp op [a] pos) t:=fun pins s σ H Q I hw=>BoolOp_one (h pins s σ H Q I hw)
theorem IH (ha:PE X a ta) (hb:PE X (.BoolOp .And (b::rest) pos) tb):PE X (.BoolOp .And (a::b::rest) pos) (U1 ta tb):=by
 intro pins s σ H Q I h;refine BoolOp_and (ao (ha pins s σ H _ I h) fun v s1 ⟨x,H1,I1,r1,q1⟩=>?_);obtain⟨c,rfl,q1⟩:=q1;cases r1
 refine j7 ?_;cases c with
 |true=>exact hb pins s1 σ H1 Q I1 q1
 |false=>exact⟨.bl false,H1,I1,rfl,q1⟩
def YS (t:TT) (ta tb:TE):TE:=fun σ H Q=>t σ H fun c H1=>if c=true then ta σ H1 Q else tb σ H1 Q
theorem Rb (hc:PT X c tA) (ha:PE X a ta) (hb:PE X b tb):PE X (.IfExp c a b pos) (YS tA ta tb):=by
 intro pins s σ H Q I h;refine wpAny_IfExp (ao (hc pins s σ H _ I h) fun d s1 ⟨H1,I1,q1⟩=>?_);cases d with
 |true=>exact ha pins s1 σ H1 Q I1 q1
 |false=>exact hb pins s1 σ H1 Q I1 q1
end
def ai (K:PySem.W.Frag) (H:Hp) (a:Addr) (xs:List V):Prop:=
 Rd H a (.lst xs) \/
  ∃ (o:Obj) (its:Array Value) (n:Nat),K.lookup a=some o/\o.cls = .type "list" /\ o.dict=none/\o.data = .seq its n/\its.size<=sizeLine/\Vals xs its.toList
def aG (K:PySem.W.Frag) (H:Hp) (a:Addr) (xs:List V):Prop:=
 Rd H a (.tup xs) \/
  ∃ (o:Obj) (its:Array Value) (n:Nat),K.lookup a=some o/\o.cls = .type "tuple" /\ o.data = .seq its n/\its.size<=sizeLine/\Vals xs its.toList
def Wm:Value->Option V
 |.none=>some .aH
 |.bool b=>some (.bl b)
 |.int i _=>some (.int i)
 |.str x _=>some (.str x)
 |.bytes b _=>some (.ij b)
 |.float b _=>some (.ik b)
 |.ref a=>some (.ref a)
 |.type n=>some (.ty n)
 |_=>none
theorem RelV.abs {x:V} (r:RelV x u):Wm u=some x:=by
 cases x with
 |aH=>cases r;rfl
 |bl _=>cases r;rfl
 |int _=>obtain⟨t,rfl⟩:=r;rfl
 |str _=>obtain⟨t,rfl⟩:=r;rfl
 |ij _=>obtain⟨t,rfl⟩:=r;rfl
 |ik _=>obtain⟨t,rfl⟩:=r;rfl
 |ref _=>cases r;rfl
 |ty _=>cases r;rfl
theorem RelV.inj {x:V} (r:RelV x u) (q:RelV y u):x=y:=eF (r.abs.symm.trans q.abs)
theorem Vals.inj:∀ {xs ys:List V}{us:List Value},Vals xs us->Vals ys us->xs=ys
 |_,_,_,.nil,.nil=>rfl
 |_,_,_,.cons r t,.cons r' t'=>by rw[r.inj r',Vals.inj t t']
theorem ai.of (h:H a=some (.lst xs)):ai K H a xs:= .inl (.inl h)
theorem aG.of (h:H a=some (.tup xs)):aG K H a xs:= .inl (.inl h)
theorem Inv.list (I:Inv X pins σ H s) (h:ai X.K H a xs):∃its:List Value,Vals xs its/\PlainL s.heap a its.toArray/\xs.length<=sizeLine:=by
 rcases h with h|⟨o,its,n,hk,hc,hd,hs,hz,r⟩
 ·obtain⟨z,its,n,r,e⟩:=h.ok I.aj
  exact⟨its,r,⟨_,n,e,rfl,rfl,rfl⟩,z⟩
 ·refine⟨its.toList,r,⟨o,n,I.bB a o hk,hc,hd,by simpa using hs⟩,?_⟩
  have e:=r.length;simp only[E4]at e;omega
theorem Inv.tuple (I:Inv X pins σ H s) (h:aG X.K H a xs):∃its:List Value,Vals xs its/\IsTup s.heap a its.toArray/\xs.length<=sizeLine:=by
 rcases h with h|⟨o,its,n,hk,hc,hs,hz,r⟩
 ·obtain⟨z,its,r,p⟩:=h.ok I.aj
  exact⟨its,r,p.is,z⟩
 ·refine⟨its.toList,r,⟨o,I.bB a o hk,hc,n,by simpa using hs⟩,?_⟩
  have e:=r.length;simp only[E4]at e;omega
theorem Inv.Hw (I:Inv X pins σ H s) (h:ai X.K H a xs) (h':ai X.K H a ys):xs=ys:=by
 obtain⟨its,r,⟨o,n,e,_,_,d⟩,_⟩:=I.list h;obtain⟨its',r',⟨o',n',e',_,_,d'⟩,_⟩:=I.list h';rw[e]at e';cases e';rw[d]at d';injection d' with d1 _;have:its=its':=by simpa using d7 Array.toList d1
 subst this;exact r.inj r'
theorem Inv.Qi (I:Inv X pins σ H s) (h:aG X.K H a xs) (h':aG X.K H a ys):xs=ys:=by
 obtain⟨its,r,⟨o,e,_,n,d⟩,_⟩:=I.tuple h;obtain⟨its',r',⟨o',e',_,n',d'⟩,_⟩:=I.tuple h';rw[e]at e';cases e';rw[d]at d';injection d' with d1 _;have:its=its':=by simpa using d7 Array.toList d1
 subst this;exact r.inj r'
abbrev Cx.jK (X:Cx) (E:Value->Shared->Prop):Cx:={ X with xe:=E }
abbrev Cx.xX (X:Cx):Cx:=X.jK fun _ _=>False
theorem Cx.Ok.jK (ok:X.Ok) (E:Value->Shared->Prop):(X.jK E).Ok:=
 ⟨ok.mod,ok.kind,ok.glob,ok.blt,ok.above,ok.inj,ok.has,ok.lY,ok.hd,ok.frames,ok.oh,ok.kJ,ok.bs,ok.jj,ok.lN,ok.kE,ok.gD,ok.jQ⟩
theorem Cx.Ok.lH (ok:(X.jK E).Ok):X.Ok:=
 ⟨ok.mod,ok.kind,ok.glob,ok.blt,ok.above,ok.inj,ok.has,ok.lY,ok.hd,ok.frames,ok.oh,ok.kJ,ok.bs,ok.jj,ok.lN,ok.kE,ok.gD,ok.jQ⟩
theorem Inv.jK (I:Inv X pins σ H s) (E:Value->Shared->Prop):Inv (X.jK E) pins σ H s:=⟨I.ok.jK E,I.os,I.bare,I.base,I.loc,I.cell,I.free,I.fY,I.pin,I.aj,I.len⟩
theorem Inv.lH (I:Inv (X.jK E) pins σ H s):Inv X pins σ H s:=⟨I.ok.lH,I.os,I.bare,I.base,I.loc,I.cell,I.free,I.fY,I.pin,I.aj,I.len⟩
theorem SP.lH {f:Flow} (h:SP (X.jK E) pins D f s'):SP X pins D f s':=by
 cases f with
 |next=>obtain⟨aI,H',I,q⟩:=h;exact⟨aI,H',I.lH,q⟩
 |brk=>obtain⟨aI,H',I,q⟩:=h;exact⟨aI,H',I.lH,q⟩
 |cont=>obtain⟨aI,H',I,q⟩:=h;exact⟨aI,H',I.lH,q⟩
 |ret u=>obtain⟨v,aI,H',I,r,q⟩:=h;exact⟨v,aI,H',I.lH,r,q⟩
theorem dH.xX {st:List Stmt}{t:TS} (h:dH X.xX st t):dH X st t:=fun pins s σ H D I hw =>
 j6 (h pins s σ H D (I.jK _) hw) (fun _ _ q=>q.lH) fun _ _ z=>False.elim z
section
variable{rest:List Stmt}{t u:TS}
def Ja:TS:=fun D σ H=>D.nx σ H
def Bx (t u:TS):TS:=fun D σ H=>t { D with nx:=u D } σ H
theorem cV:dH X [] Ja:=fun _ _ σ H _ I h=>va ⟨σ,H,I,h⟩
theorem aE (h1:PS X st t) (h2:dH X rest u):dH X (st::rest) (Bx t u):=by
 intro pins s σ H D I h;refine wpAny_execs_cons (ao (h1 pins s σ H { D with nx:=u D } I h) fun f s1 q=>?_);cases f with
 |next =>
  obtain⟨aI,H',I',q⟩:=q;exact h2 pins s1 aI H' D I' q
 |ret v=>exact q
 |brk=>exact q
 |cont=>exact q
theorem aP (h1:PS X st t):dH X [st] t:=by
 intro pins s σ H D I h;refine wpAny_execs_cons (ao (h1 pins s σ H D I h) fun f s1 q=>?_);cases f with
 |next=>exact va q
 |ret v=>exact q
 |brk=>exact q
 |cont=>exact q
theorem Inv.quiet (I:Inv X pins σ H s):interactive X.env=false:=by simp[interactive,I.ok.kind]
def U2 (te:TE):TS:=fun D σ H=>te σ H fun _ H1=>D.nx σ H1
theorem jc (he:PE X e te) (hs:swapsWith e none pos.line X.env=pure false:=by rfl):PS X (.Expr e pos) (U2 te):=by
 intro pins s σ H D I h;exact wpAny_Expr_any (ao (he pins s σ H _ I h) fun v s1 ⟨x,H1,I1,r1,q1⟩=>⟨σ,H1,I1,q1⟩) I.quiet hs
def Wn (te:TE):TS:=fun D σ H=>te σ H D.rt
theorem bz (he:PE X e te):PS X (.Return (some e) pos) (Wn te):=by
 intro pins s σ H D I h;exact wpAny_Return_some (ao (he pins s σ H _ I h) fun v s1 ⟨x,H1,I1,r1,q1⟩=>⟨x,σ,H1,I1,r1,q1⟩)
def wX (c:TT) (t u:TS):TS:=fun D σ H=>c σ H fun b H1=>if b=true then t D σ H1 else u D σ H1
theorem cL {a b:List Stmt}{tc:TT} (hc:PT X c tc) (ha:dH X a t) (hb:dH X b u):PS X (.If c a b pos) (wX tc t u):=by
 intro pins s σ H D I h;refine wpAny_If (ao (hc pins s σ H _ I h) fun d s1 ⟨H1,I1,q1⟩=>?_);cases d with
 |true=>exact ha pins s1 σ H1 D I1 q1
 |false=>exact hb pins s1 σ H1 D I1 q1
def II:TS:=fun _ _ _=>False
theorem Rc:PS X st II:=fun _ _ _ _ _ _ h=>h.elim
theorem mY {YT:List Stmt}:dH X YT II:=fun _ _ _ _ _ _ h=>h.elim
end
abbrev TG:=V->St->Hp->(St->Hp->Prop)->Prop
abbrev lZ:=List V->St->Hp->(St->Hp->Prop)->Prop
def PG (X:Cx) (target:Expr) (t:TG):Prop:=
 ∀ (pins:List (Addr×Obj)) (s:Shared) (σ:St) (H:Hp) (v:V) (u:Value) (Q:St->Hp->Prop),Inv X pins σ H s->RelV v u->t v σ H Q ->
  wpAny (model X.prog X.w) X.A (assign target X.env u) (fun _ s'=>∃aI H',Inv X pins aI H' s'/\Q aI H') X.xe s
def tL (X:Cx) (ts:List Expr) (t:lZ):Prop:=
 ∀ (pins:List (Addr×Obj)) (s:Shared) (σ:St) (H:Hp) (vs:List V) (us:List Value) (Q:St->Hp->Prop),Inv X pins σ H s->Vals vs us->t vs σ H Q ->
  wpAny (model X.prog X.w) X.A (assignInOrder ((assignEach ts X.env).map (·.2)) us) (fun _ s'=>∃aI H',Inv X pins aI H' s'/\Q aI H') X.xe s
abbrev By:=V->V->V->Hp->(Hp->Prop)->Prop
def JB (X:Cx) (t:By):Prop:=
 ∀ (pins:List (Addr×Obj)) (s:Shared) (σ:St) (H:Hp) (o i v:V) (ov iv u:Value) (Q:Hp->Prop),Inv X pins σ H s->RelV o ov->RelV i iv->RelV v u->t o i v H Q ->
  wpAny (model X.prog X.w) X.A (setItem ov iv u) (fun _ s'=>∃H',Inv X pins σ H' s'/\Q H') X.xe s
def nF (i:Nat):TG:=fun v σ H Q=>Q (σ.set i (some v)) H
theorem bc (hN:X.N.Nodup) (hi:X.N[i]? = some x) (hx:Loc X.env.scope x) (hf:X.fn x=true\/X.env.scope.names.lookup x=some .local:=by first|exact .inl rfl|exact .inr rfl|assumption):PG X (.Name x pos) (nF i):=by
 intro pins s σ H v u Q I r h;exact wpAny_assign_Name (Ae I hN hi hx r (fun s' I'=>⟨_,H,I',h⟩) hf)
def Wo:lZ:=fun vs σ H Q=>vs = []/\Q σ H
def U3 (t:TG) (u:lZ):lZ:=fun vs σ H Q=>∃v r,vs=v::r/\t v σ H fun aI H'=>u r aI H' Q
theorem jB:tL X [] Wo:=by
 intro pins s σ H vs us Q I r h;obtain⟨e,h⟩:=h;subst e;cases r
 exact assignInOrder_nil ⟨σ,H,I,h⟩
theorem eG {t:TG}{u:lZ} (h1:PG X e t) (h2:tL X es u)
  (hs:(assignEach (e::es) X.env).map (·.2)=assign e X.env::(assignEach es X.env).map (·.2):=by rfl):tL X (e::es) (U3 t u):=by
 intro pins s σ H vs us Q I r h;obtain⟨v,vr,e1,h⟩:=h;subst e1;cases r with
 |cons r rr =>
  rw[hs];refine assignInOrder_cons (ao (h1 pins s σ H _ _ _ I r h) fun _ s1 ⟨qu,H1,I1,q1⟩=>?_);exact h2 pins s1 qu H1 _ _ Q I1 rr q1
def JC (K:PySem.W.Frag) (n:Nat) (t:lZ):TG:=fun v σ H Q=>∃a xs,v = .ref a/\aG K H a xs/\xs.length=n/\t xs σ H Q
theorem lI {k:Nat}{t:lZ}{n:Nat} (hc:X.calm=true) (h:tL X es t)
  (hn:(assignEach es X.env).length=n:=by rfl) (jl:(assignEach es X.env).findIdx? (·.1)=none:=by rfl):PG X (.Tuple es k pos) (JC X.K n t):=by
 intro pins s σ H v u Q I r hw;obtain⟨a,xs,e1,hq,hl,hw⟩:=hw;subst e1;cases r
 obtain⟨its,rv,ht,hz⟩:=I.tuple hq;refine assign_Tuple_tuple (I.ok.hd hc) ht (by simp[hn,<-hl,rv.length]) jl fun h' hx=>?_
 have I1:Inv X pins σ H { s with heap:=h' }:=I.kept (t':=s.toks) fun b o e=>hx b o (bX (bq e)) e;exact h pins _ σ H xs _ Q I1 (by simpa using rv) hw
def Wq (to ti:TE) (t:By):TG:=fun v σ H Q=>to σ H fun o H1=>ti σ H1 fun i H2=>t o i v H2 fun H3=>Q σ H3
theorem IJ {o i:Expr}{to ti:TE}{t:By} (ho:PE X o to) (hi:PE X i ti) (hs:JB X t)
  (ha:∀v,assign (.Subscript o i pos) X.env v=(do
   let ov <- holding [v] (eval o X.env)
   let iv <- holding [v,ov] (eval i X.env)
   standAt pos
   holding [v,ov,iv] (setItem ov iv v)
   release [v,ov,iv] []):=by intro _;rfl):PG X (.Subscript o i pos) (Wq to ti t):=by
 intro pins s σ H v u Q I r h;rw[ha];refine af (gw (ao (ho pins s σ H _ I h) fun ov s1 ⟨x,H1,I1,r1,q1⟩=>?_));refine af (gw (ao (hi pins s1 σ H1 _ I1 q1) fun iv s2 ⟨y,H2,I2,r2,q2⟩=>?_));refine af (mT (af (gw (ao (hs pins s2 σ H2 x y v ov iv u _ I2 r1 r2 r q2) fun _ s3 ⟨H3,I3,q3⟩=>?_))));exact wpAny_release ⟨σ,H3,I3,q3⟩
def Bz (te:TE) (g:TG):TS:=fun D σ H=>te σ H fun x H1=>g x σ H1 D.nx
theorem nu {g:TG} (he:PE X e te) (hg:PG X tg g) (hs:swapsWithSole [tg] e pos.line X.env=pure false:=by rfl) (hw:swappedStores [tg] e X.env=pure none:=by rfl)
  (h1:(assignEach [tg] X.env).map (·.2) = [assign tg X.env]:=by rfl):PS X (.Assign [tg] e pos) (Bz te g):=by
 intro pins s σ H D I h;refine wpAny_Assign_stores (ao (he pins s σ H _ I h) fun v s1 ⟨x,H1,I1,r1,q1⟩=>?_) hs hw;rw[h1];exact ao (hg pins s1 σ H1 x v _ I1 r1 q1) fun _ s2 q=>q
theorem a4 (hN:X.N.Nodup) (hi:X.N[i]? = some x) (hx:Loc X.env.scope x) (he:PE X e te) (hs:swapsWith e (some (.Name x pos')) pos.line X.env=pure false:=by rfl) (hf:X.fn x=true\/X.env.scope.names.lookup x=some .local:=by first|exact .inl rfl|exact .inr rfl|assumption) :
  PS X (.Assign [.Name x pos'] e pos) (Bz te (nF i)):=by
 intro pins s σ H D I h;refine wpAny_Assign_Name (ao (he pins s σ H _ I h) fun v s1 ⟨y,H1,I1,r1,q1⟩=>?_) hs;exact Ae I1 hN hi hx r1 (fun s2 I2=>⟨_,H1,I2,q1⟩) hf
def TZ (c:TT) (tb:TS):TS:=fun D σ H=>∃W:Nat->St->Hp->Prop,(∃m,W m σ H) /\ ∀m σ H,W m σ H ->
 c σ H fun b H1=>if b=true then ∃N:St->Hp->Prop,(∀aI H',N aI H' -> ∃m',m' < m/\W m' aI H')/\tb { D with nx:=N,ct:=N,bk:=D.nx } σ H1 else D.nx σ H1
theorem vH {tc:TT} (hp:PassesOwn (model X.prog X.w) X.A X.env X.xe) (hc:PT X c tc) (hb:dH X body tb):PS X (.While c body [] pos) (TZ tc tb):=by
 intro pins s σ H D I h;obtain⟨W,⟨m0,w0⟩,turn⟩:=h;refine wpAny_While (codeAny_whileLoop (fun n s'=>∃aI H',Inv X pins aI H' s'/\W n aI H') ?_ m0 ⟨σ,H,I,w0⟩);rintro n s1 ⟨qu,H1,I1,w1⟩;refine q0 hp (ao (hc pins s1 qu H1 _ I1 (turn n qu H1 w1)) fun b s2 ⟨H2,I2,q2⟩=>?_);cases b with
 |true =>
  obtain⟨N,hN,q2⟩:=q2;rw[aB rfl];refine q0 hp (ao (hb pins s2 qu H2 _ I2 q2) fun f s3 q3=>?_);cases f with
  |next =>
   obtain⟨jn,H3,I3,n3⟩:=q3;obtain⟨m',hm,w3⟩:=hN jn H3 n3;exact⟨m',hm,jn,H3,I3,w3⟩
  |cont =>
   obtain⟨jn,H3,I3,n3⟩:=q3;obtain⟨m',hm,w3⟩:=hN jn H3 n3;exact⟨m',hm,jn,H3,I3,w3⟩
  |brk=>exact q3
  |ret v=>exact q3
 |false =>
  rw[ar cz];exact va ⟨qu,H2,I2,q2⟩
structure It where
 go:Nat->Hp->Prop
 kM:Nat->Hp->V->Hp->Prop
 stop:Nat->Hp->Prop
def gE (X:Cx) (pins:List (Addr×Obj)) (H:Hp) (b:Addr):Prop:=
 H b=none/\b≠X.env.locals/\b ∉ X.fs/\(b∈X.ex\/X.cT.heap.objs.size<=b)/\(∀x c,X.env.cells.lookup x=some c->c≠b) /\ ∀p∈X.pn++pins,p.1≠b
theorem Inv.iS (I:Inv X pins σ H s) (hb:s.heap.objs.size<=b) (hn:H' b=none):gE X pins H' b:=by
 refine⟨hn,oU (fQ I.lt hb),I.Wj hb,.inr (gQ I.sz hb),fun x c e z=>?_,fun p hp z=>?_⟩
 ·obtain⟨v,q⟩:=I.cell x c e
  exact absurd (fQ q.lt (by rw[z];exact hb)) (mR _)
 ·exact absurd (fQ (bq (I.pin p hp).1) (by rw[z];exact hb)) (mR _)
structure Turn (P:Program) (w:World) (K:PySem.W.Frag) (tg:Expr) (J:It) (fp:List Addr) (it:Addr) (tn:Nat->Heap->Prop):Prop where
 mem:it∈fp
 obj:∀i h,tn i h -> ∀b∈fp,∃o,h.get? b=some o /\ ∀v,o.data ≠ .cell v
 keep:∀i h h',tn i h->(∀b∈fp,∀o,h.get? b=some o->h'.get? b=some o)->tn i h'
 item:∀ (X:Cx),X.prog=P->X.w=w->X.K=K->X.calm=true -> ∀ (i:Nat) (pins:List (Addr×Obj)) (s:Shared) (σ:St) (H:Hp) (E:Value->Shared->Prop),Inv X pins σ H s->(∀b∈fp,gE X pins H b)->tn i s.heap->J.go i H ->
  wpAny (model P w) X.A (pyNext (.ref it)) (fun r s1=>∃u,r=some u /\
   wpAny (model P w) X.A (letOwnedTupleGo tg (.ref it) u) (fun _ s2=>∃x H',Inv X pins σ H' s2/\RelV x u/\J.kM i H x H'/\tn (i+1) s2.heap /\ ∀b∈fp,H' b=none) E s1) E s
 done:∀ (X:Cx),X.prog=P->X.w=w->X.K=K->X.calm=true -> ∀ (i:Nat) (pins:List (Addr×Obj)) (s:Shared) (σ:St) (H:Hp) (E:Value->Shared->Prop),Inv X pins σ H s->(∀b∈fp,gE X pins H b)->tn i s.heap->J.stop i H ->
  wpAny (model P w) X.A (pyNext (.ref it)) (fun r s1=>r=none/\Inv X pins σ H s1) E s
 self:∀ (A:Around) (i:Nat) (s:Shared) (Q:Value->Shared->Prop) (E:Value->Shared->Prop),tn i s.heap->Q (.ref it) s->wpAny (model P w) A (pyIter (.ref it)) Q E s
abbrev TI:=St->Hp->(It->Hp->Prop)->Prop
def C0 (X:Cx) (pins:List (Addr×Obj)) (σ:St) (tg:Expr) (R:It->Hp->Prop) (tM:Value) (s2:Shared):Prop:=
 ∃ (it:Addr) (fp:List Addr) (tn:Nat->Heap->Prop) (J:It) (H':Hp),tM = .ref it/\Inv X pins σ H' s2/\Turn X.prog X.w X.K tg J fp it tn/\tn 0 s2.heap/\(∀b∈fp,gE X pins H' b)/\R J H'
def PI (X:Cx) (tg iter:Expr) (wi:TI):Prop:=
 ∀ (pins:List (Addr×Obj)) (s:Shared) (σ:St) (H:Hp) (R:It->Hp->Prop),Inv X pins σ H s->wi σ H R ->
  wpAny (model X.prog X.w) X.A (eval iter X.env) (fun v s1=>wpAny (model X.prog X.w) X.A (pyIter v) (C0 X pins σ tg R) X.xe s1) X.xe s
theorem sv {M:Model}{n:String}{vs:Array Value}{Q:Unit->Shared->Prop} (ho:s.heap.get? it=some o) (hc:o.cls = .type n) (hd:o.data = .fields vs)
  (hn : ["enumerate","zip","dict_itemiterator","dict_reverseitemiterator","odict_iterator","itertools.zip_longest","itertools.pairwise"].contains n=false) (hQ:Q () s):wpAny M A (letOwnedTupleGo tg (.ref it) u) Q E s:=by
 unfold letOwnedTupleGo;cases tg <;> first
  |exact ax hQ
  |(cases u <;> first
    |exact ax hQ
    |(refine af (wpAny_load ho ?_);rw[hc,hd];show wpAny M A (if (["enumerate","zip","dict_itemiterator","dict_reverseitemiterator","odict_iterator","itertools.zip_longest","itertools.pairwise"].contains n && vs[0]? == some (rawInt _))=true then _ else _) Q E s;rw[ar (by intro h;rw[hn,Bool.false_and]at h;cases h)];exact ax hQ))
def oj (K:PySem.W.Frag) (a:Addr):It:=
 ⟨fun i H=>∃xs x,ai K H a xs/\xs[i]? = some x,fun i H x H'=>H'=H /\ ∀xs,ai K H a xs->xs[i]? = some x,fun i H=>∃xs,ai K H a xs/\xs.length<=i⟩
def kO (K:PySem.W.Frag) (a:Addr):It:=
 ⟨fun i H=>∃xs x,aG K H a xs/\xs[i]? = some x,fun i H x H'=>H'=H /\ ∀xs,aG K H a xs->xs[i]? = some x,fun i H=>∃xs,aG K H a xs/\xs.length<=i⟩
def l0 (lo:Int) (n:Nat):It:=⟨fun i _=>i < n,fun i H x H'=>H'=H/\x = .int (lo+i),fun i _=>n<=i⟩
theorem Qj (a it:Addr):Turn P w K tg (oj K a) [it] it (fun i h=>h.IsListIter it a i) where
 mem:=by simp
 obj:=fun i h st b hb=>by
  have e:b=it:=by simpa using hb
  subst e;obtain⟨o,e,c,d⟩:=st;exact⟨o,e,fun v z=>by rw[d]at z;cases z⟩
 keep:=fun i h h' st k=>st.at fun o e=>k it (by simp) o e
 item:=by
  intro X hP hw hK hc i pins s σ H E I hf st hg;subst hP hw hK;obtain⟨xs,x,hq,hx⟩:=hg;obtain⟨its,rv,p,hz⟩:=I.list hq;obtain⟨u,hu,ru⟩:=rv.get hx;obtain⟨f0,f1,f2,f3,f4,f5⟩:=hf it (by simp)
  refine wpAny_pyNext_list_item st p.isList (x:=u) (by simpa using hu) fun h' il sb=>?_
  have I1:Inv X pins σ H { s with heap:=h' }:=I.turned (t':=s.toks) (fun b o hb e=>(sb.2 b hb).trans e) f0 f1 f3 f4 f5;obtain⟨o,e,c,d⟩:=id il;exact⟨u,rfl,sv (s:={ s with heap:=h' }) e c d (by decide) ⟨x,H,I1,ru,⟨rfl,fun ys hy=>by rw[I.Hw hy hq];exact hx⟩,il,fun b hb=>(hf b hb).1⟩⟩
 done:=by
  intro X hP hw hK hc i pins s σ H E I hf st hg;subst hP hw hK;obtain⟨xs,hq,hx⟩:=hg;obtain⟨its,rv,p,hz⟩:=I.list hq;obtain⟨f0,f1,f2,f3,f4,f5⟩:=hf it (by simp)
  have hl:=rv.length;exact wpAny_pyNext_list_end (I.ok.hd hc) st p.isList (by simp;omega) fun h' eb=>⟨rfl,I.turned (t':=s.toks) (fun b o hb e=>eb b o hb e) f0 f1 f3 f4 f5⟩
 self:=fun _ _ _ _ _ st h=>wpAny_pyIter_listiter st h
theorem Py (a it:Addr):Turn P w K tg (kO K a) [it] it (fun i h=>h.IsTupleIter it a i) where
 mem:=by simp
 obj:=fun i h st b hb=>by
  have e:b=it:=by simpa using hb
  subst e;obtain⟨o,e,c,d⟩:=st;exact⟨o,e,fun v z=>by rw[d]at z;cases z⟩
 keep:=fun i h h' st k=>st.at fun o e=>k it (by simp) o e
 item:=by
  intro X hP hw hK hc i pins s σ H E I hf st hg;subst hP hw hK;obtain⟨xs,x,hq,hx⟩:=hg;obtain⟨its,rv,p,hz⟩:=I.tuple hq;obtain⟨u,hu,ru⟩:=rv.get hx;obtain⟨f0,f1,f2,f3,f4,f5⟩:=hf it (by simp)
  refine wpAny_pyNext_tuple_item st (show s.heap.IsTuple a its.toArray from p) (x:=u) (by simpa using hu) fun h' il sb=>?_
  have I1:Inv X pins σ H { s with heap:=h' }:=I.turned (t':=s.toks) (fun b o hb e=>(sb.2 b hb).trans e) f0 f1 f3 f4 f5;obtain⟨o,e,c,d⟩:=id il;exact⟨u,rfl,sv (s:={ s with heap:=h' }) e c d (by decide) ⟨x,H,I1,ru,⟨rfl,fun ys hy=>by rw[I.Qi hy hq];exact hx⟩,il,fun b hb=>(hf b hb).1⟩⟩
 done:=by
  intro X hP hw hK hc i pins s σ H E I hf st hg;subst hP hw hK;obtain⟨xs,hq,hx⟩:=hg;obtain⟨its,rv,p,hz⟩:=I.tuple hq;obtain⟨f0,f1,f2,f3,f4,f5⟩:=hf it (by simp)
  have hl:=rv.length;exact wpAny_pyNext_tuple_end (I.ok.hd hc) st (show s.heap.IsTuple a its.toArray from p) (by simp;omega) fun h' eb=>⟨rfl,I.turned (t':=s.toks) (fun b o hb e=>eb b o hb e) f0 f1 f3 f4 f5⟩
 self:=fun _ _ _ _ _ st h=>wpAny_pyIter_tupleiter st h
theorem Pz (it:Addr) (lo:Int) (n:Nat):Turn P w K tg (l0 lo n) [it] it (fun i h=>IsRangeIter h it (lo+(i:Nat) * 1) ((n:Int) - (i:Nat)) 1) where
 mem:=by simp
 obj:=fun i h st b hb=>by
  have e:b=it:=by simpa using hb
  subst e;exact⟨_,st,fun v z=>by
   have z':Data.fields _=Data.cell v:=z;cases z'⟩
 keep:=fun i h h' st k=>k it (by simp) _ st
 item:=by
  intro X hP hw hK hc i pins s σ H E I hf st hg;subst hP hw hK;obtain⟨f0,f1,f2,f3,f4,f5⟩:=hf it (by simp)
  have W:=Walks.range (prog:=X.prog) (w:=X.w) (I.ok.hd hc) it lo 1 n;refine W.item i s _ _ hg st fun v h' tk hv il kk=>?_;obtain⟨t,rfl⟩:=hv;have I1:Inv X pins σ H { s with heap:=h',toks:=tk }:=I.turned (fun b o hb e=>kk b o (by simpa using hb) e) f0 f1 f3 f4 f5
  refine⟨_,rfl,sv (s:={ s with heap:=h',toks:=tk }) (n:= "range_iterator") il rfl rfl (by decide) ⟨.int (lo+i),H,I1,⟨t,?_⟩,⟨rfl,rfl⟩,il,fun b hb=>(hf b hb).1⟩⟩
  rw[Int.mul_one]
 done:=by
  intro X hP hw hK hc i pins s σ H E I hf st hg;subst hP hw hK;obtain⟨f0,f1,f2,f3,f4,f5⟩:=hf it (by simp)
  exact wpAny_pyNext_range_end (I.ok.hd hc) st (by have:n<=i:=hg;omega) fun h' eb=>⟨rfl,I.turned (t':=s.toks) (fun b o hb e=>eb b o hb e) f0 f1 f3 f4 f5⟩
 self:=fun _ _ _ _ _ st h=>wpAny_pyIter_rangeiter st h
def Jb (K:PySem.W.Frag) (tl:TE):TI:=fun σ H R=>tl σ H fun x H1=>∃a,x = .ref a/\(∃xs,ai K H1 a xs)/\R (oj K a) H1
def JD (K:PySem.W.Frag) (tl:TE):TI:=fun σ H R=>tl σ H fun x H1=>∃a,x = .ref a/\(∃xs,aG K H1 a xs)/\R (kO K a) H1
theorem eP {l:Expr} (hl:PE X l tl):PI X tg l (Jb X.K tl):=by
 intro pins s σ H R I h;refine ao (hl pins s σ H _ I h) fun v s1 ⟨x,H1,I1,r1,q1⟩=>?_;obtain⟨a,e,⟨xs,hq⟩,q⟩:=q1;subst e;cases r1
 obtain⟨its,rv,p,hz⟩:=I1.list hq;refine E5 p.isList ?_;refine⟨s1.heap.objs.size,[s1.heap.objs.size],_,_,H1,rfl,I1.kept (t':=s1.toks) fun b o e=>bj _ e,Qj a _,⟨_,cK _ rfl,rfl,rfl⟩,fun b hb=>?_,q⟩;have e:b=s1.heap.objs.size:=by simpa using hb
 subst e;exact I1.iS (aO _) (I1.aj.fresh (aO _))
theorem pL {l:Expr} (hl:PE X l tl):PI X tg l (JD X.K tl):=by
 intro pins s σ H R I h;refine ao (hl pins s σ H _ I h) fun v s1 ⟨x,H1,I1,r1,q1⟩=>?_;obtain⟨a,e,⟨xs,hq⟩,q⟩:=q1;subst e;cases r1
 obtain⟨its,rv,p,hz⟩:=I1.tuple hq;refine wpAny_pyIter_tuple (show s1.heap.IsTuple a its.toArray from p) ?_;refine⟨s1.heap.objs.size,[s1.heap.objs.size],_,_,H1,rfl,I1.kept (t':=s1.toks) fun b o e=>bj _ e,Py a _,⟨_,cK _ rfl,rfl,rfl⟩,fun b hb=>?_,q⟩;have e:b=s1.heap.objs.size:=by simpa using hb
 subst e;exact I1.iS (aO _) (I1.aj.fresh (aO _))
theorem Hx {R:It->Hp->Prop}{hi:Int}{t u v:Tok}{tk:Nat} (I:Inv X pins σ H s) (h1 : -(2 ^ 62)<=lo) (h2:lo < 2 ^ 62) (h3 : -(2 ^ 62)<=hi) (h4:hi < 2 ^ 62)
  (q:R (l0 lo (hi - lo).toNat) H):wpAny (model X.prog X.w) X.A (pyIter (.ref s.heap.objs.size)) (C0 X pins σ tg R) E { s with heap:=s.heap.push { cls:= .type "range",data:= .fields #[.int lo t,.int hi u,.int 1 v] },toks:=tk }:=by
 refine wpAny_pyIter_range (IsRange.new ..) (small_one h1 h2 h3 h4) ?_;have I1:Inv X pins σ H { s with heap:=s.heap.push { cls:= .type "range",data:= .fields #[.int lo t,.int hi u,.int 1 v] },toks:=tk }:=I.kept fun b o e=>bj _ e;refine⟨(s.heap.push { cls:= .type "range",data:= .fields #[.int lo t,.int hi u,.int 1 v] }).objs.size,[(s.heap.push { cls:= .type "range",data:= .fields #[.int lo t,.int hi u,.int 1 v] }).objs.size],_,_,H,rfl,
  I1.kept (t':=tk) fun b o e=>bj _ e,Pz _ lo (hi - lo).toNat,?_,fun b hb=>?_,q⟩
 ·have e1:lo+((0:Nat):Int) * 1=lo:=by simp
  have e2:(((hi - lo).toNat:Nat):Int) - ((0:Nat):Int)=Builtin.Range.rangeSize lo hi 1:=by rw[rangeSize_one];split <;> omega
  show IsRangeIter _ _ (lo+((0:Nat):Int) * 1) ((((hi - lo).toNat:Nat):Int) - ((0:Nat):Int)) 1;rw[e1,e2];exact cK _ rfl
 ·have e:b=(s.heap.push { cls:= .type "range",data:= .fields #[.int lo t,.int hi u,.int 1 v] }).objs.size:=by simpa using hb
  subst e;exact I1.iS (aO _) (I1.aj.fresh (aO _))
def U4 (ta:TA):TI:=fun σ H R=>ta σ H fun vs H1=>∃j:Int,vs = [.int j] /\ -(2 ^ 62)<=j/\j < 2 ^ 62/\R (l0 0 j.toNat) H1
def U5 (ta:TA):TI:=fun σ H R=>ta σ H fun vs H1=>∃i j:Int,vs = [.int i,.int j]/\(-(2 ^ 62)<=i/\i < 2 ^ 62 /\ -(2 ^ 62)<=j/\j < 2 ^ 62)/\R (l0 i (j - i).toNat) H1
theorem rK {a:Expr}{ta:TA}{p:Pos} (hg:Gl X "range") (hm:X.mg "range" = none) (ha:PA X [a] ta) (hs:starEach [a] X.env = [(false,eval a X.env)]:=by rfl):PI X tg (.Call (.Name "range" p) [a] [] pos) (U4 ta):=by
 intro pins s σ H R I h;refine Call_ (nj I hg hm boot_range (E6 (ao (ha pos pins s σ H _ I h) fun us s1 ⟨vs,H1,I1,r1,q1⟩=>?_) hs rfl));obtain⟨j,e,q1,q2,q⟩:=q1;subst e;cases r1 with
 |cons r rr =>
  cases rr
  obtain⟨t,rfl⟩:=r;exact call_range_1 (Hx I1 (by omega) (by omega) q1 q2 (by simpa using q))
theorem Qk {a b:Expr}{ta:TA}{p:Pos} (hg:Gl X "range") (hm:X.mg "range" = none) (ha:PA X [a,b] ta) (hs:starEach [a,b] X.env = [(false,eval a X.env),(false,eval b X.env)]:=by rfl) (qv:starEach [b] X.env = [(false,eval b X.env)]:=by rfl) :
  PI X tg (.Call (.Name "range" p) [a,b] [] pos) (U5 ta):=by
 intro pins s σ H R I h;refine Call_ (nj I hg hm boot_range (E6 (ao (ha pos pins s σ H _ I h) fun us s1 ⟨vs,H1,I1,r1,q1⟩=>?_) (by rw[hs,qv]) (by rw[qv];rfl)))
 obtain⟨i,j,e,⟨q1,q2,q3,q4⟩,q⟩:=q1;subst e;cases r1 with
 |cons r rr =>
  cases rr with
  |cons r' rr =>
   cases rr
   obtain⟨t,rfl⟩:=r;obtain⟨t',rfl⟩:=r';exact call_range_2 (Hx I1 q1 q2 q3 q4 q)
def Wr (wi:TI) (g:TG) (tb:TS):TS:=fun D σ H=>wi σ H fun J H1=>∃W:Nat->Nat->St->Hp->Prop,(∃m,W 0 m σ H1) /\ ∀i m σ H,W i m σ H ->
 (J.stop i H/\D.nx σ H)\/(J.go i H /\ ∃N:St->Hp->Prop,(∀aI H',N aI H' -> ∃m',m' < m/\W (i+1) m' aI H') /\ ∀x H',J.kM i H x H'->g x σ H' fun eM H2=>tb { D with nx:=N,ct:=N,bk:=D.nx } eM H2)
def pM (fp:List Addr) (h:Heap):List (Addr×Obj):=fp.filterMap fun b=>(h.get? b).map fun o=>(b,o)
theorem pw (hb:b∈fp) (e:h.get? b=some o):(b,o)∈pM fp h:=u7.mpr ⟨b,hb,by rw[e];rfl⟩
theorem Ql {p:Addr×Obj} (hp:p∈pM fp h):p.1∈fp/\h.get? p.1=some p.2:=by
 obtain⟨b,hb,e⟩:=u7.mp hp;cases q:h.get? b with
 |none=>rw[q]at e;cases e
 |some o =>
  rw[q]at e;have e':(b,o)=p:=eF e;subst e';exact⟨hb,q⟩
theorem Inv.pinned (I:Inv X pins σ H s) (hf:∀b∈fp,gE X pins H b) (ho:∀b∈fp,∃o,s.heap.get? b=some o /\ ∀v,o.data ≠ .cell v):Inv X (pins++pM fp s.heap) σ H s:=
 I.Ib fun p hp=>(dS.mp hp).elim (fun z=>I.pin p (eZ _ z)) fun z=>by
  obtain⟨hb,e⟩:=Ql z;obtain⟨f0,f1,f2,_⟩:=hf p.1 hb;obtain⟨o,e',d⟩:=ho p.1 hb;rw[e]at e';cases e';exact⟨e,f0,f1,f2,d⟩
theorem Inv.rO {pl:List (Addr×Obj)} (I:Inv X (pins++pl) σ H s):Inv X pins σ H s:=I.Ib fun p hp=>I.pin p (eZ _ (j5 _ hp))
theorem gV {wi:TI}{g:TG} (hp:PassesOwn (model X.prog X.w) X.A X.env X.xe) (hc:X.calm=true) (hi:PI X tg iter wi) (hg:PG X tg g) (hb:dH X body tb)
  (hs:∀x,foldedSetIterable iter X.env x=pure x:=by intro _;rfl):PS X (.For tg iter body [] pos) (Wr wi g tb):=by
 intro pins s σ H D I h;refine wpAny_For (ao (hi pins s σ H _ I h) fun v s1 h1=>ao h1 fun tM s2 h2=>?_) hs;obtain⟨it,fp,tn,J,H2,e,I2,T,jS,f2,W,⟨m0,w0⟩,turn⟩:=h2;subst e;have jh:∀ {H':Hp},(∀b∈fp,H' b=none) -> ∀b∈fp,gE X pins H' b:=fun hn b hb=>⟨hn b hb,(f2 b hb).2⟩;refine codeAny_forLoop_any (fun n s'=>∃i aI H',Inv X pins aI H' s'/\tn i s'.heap/\(∀b∈fp,H' b=none)/\W i n aI H') ?_ m0 ⟨0,σ,H2,I2,jS,fun b hb=>(f2 b hb).1,w0⟩;rintro n s3 ⟨i,jn,H3,I3,l8,Lm,w3⟩;rcases turn i n jn H3 w3 with⟨stop,qn⟩|⟨go,N,hN,step⟩
 ·refine q0 hp (ao (T.done X rfl rfl rfl hc i pins s3 jn H3 X.xe I3 (jh Lm) l8 stop) fun r s4 ⟨hr,I4⟩=>?_)
  subst hr;exact va ⟨jn,H3,I4,qn⟩
 ·refine q0 hp (ao (T.item X rfl rfl rfl hc i pins s3 jn H3 X.xe I3 (jh Lm) l8 go) fun r s4 ⟨u,hr,h4⟩=>?_)
  subst hr;refine q0 hp (ao h4 fun _ s5 ⟨x,H5,I5,r5,y5,kQ,om⟩=>?_);have YU:=I5.pinned (jh om) (T.obj _ _ kQ);refine q0 hp (ao (hg _ s5 jn H5 x u _ YU r5 (step x H5 y5)) fun _ s6 ⟨YV,H6,I6,q6⟩=>?_);refine q0 hp (ao (hb _ s6 YV H6 _ I6 q6) fun f s7 q7=>?_);have again:∀ {g8:St}{H7:Hp},Inv X (pins++pM fp s5.heap) g8 H7 s7->N g8 H7 -> ∃m,m < n /\ ∃i aI H',Inv X pins aI H' s7/\tn i s7.heap/\(∀b∈fp,H' b=none)/\W i m aI H':=fun {g8 H7} I7 n7=>by
   obtain⟨m',hm,w7⟩:=hN g8 H7 n7;refine⟨m',hm,i+1,g8,H7,I7.rO,T.keep _ _ _ kQ fun b hb o e=>(I7.pin (b,o) (eZ _ (eZ _ (pw hb e)))).1,fun b hb=>?_,w7⟩;obtain⟨o,e,d⟩:=T.obj _ _ kQ b hb;exact(I7.pin (b,o) (eZ _ (eZ _ (pw hb e)))).2.1
  cases f with
  |next=>obtain⟨g8,H7,I7,n7⟩:=q7;exact again I7 n7
  |cont=>obtain⟨g8,H7,I7,n7⟩:=q7;exact again I7 n7
  |brk=>obtain⟨g8,H7,I7,q7⟩:=q7;exact⟨g8,H7,I7.rO,q7⟩
  |ret v=>obtain⟨x7,g8,H7,I7,r7,q7⟩:=q7;exact⟨x7,g8,H7,I7.rO,r7,q7⟩
theorem lD {g:TG} (Pv:Nat->St->Hp->Prop) (h0:Pv 0 σ H) (hl:∀i σ H,i<=xs.length->Pv i σ H->ai K H a xs)
  (hs:∀i x σ H,xs[i]? = some x->Pv i σ H->g x σ H fun eM H2=>tb { D with nx:=Pv (i+1),ct:=Pv (i+1),bk:=D.nx } eM H2) (hd:∀σ H,Pv xs.length σ H->D.nx σ H) :
  ∃W:Nat->Nat->St->Hp->Prop,(∃m,W 0 m σ H) /\ ∀i m σ H,W i m σ H ->
   ((oj K a).stop i H/\D.nx σ H)\/((oj K a).go i H /\ ∃N:St->Hp->Prop,(∀aI H',N aI H' -> ∃m',m' < m/\W (i+1) m' aI H') /\ ∀x H',(oj K a).kM i H x H'->g x σ H' fun eM H2=>tb { D with nx:=N,ct:=N,bk:=D.nx } eM H2):=by
 refine⟨fun i m σ H=>m=xs.length - i/\i<=xs.length/\Pv i σ H,⟨xs.length,by simp,bw _,h0⟩,?_⟩
 rintro i m σ H ⟨rfl,hi,p⟩;have q:=hl i σ H hi p
 by_cases aZ:i < xs.length
 ·refine .inr ⟨⟨xs,xs[i],q,by simp[aZ]⟩,Pv (i+1),fun aI H' p'=>⟨xs.length - (i+1),by omega,rfl,aZ,p'⟩,fun x H' y=>?_⟩
  obtain⟨e,y⟩:=y;subst e;exact hs i x σ _ (y xs q) p
 ·have e:i=xs.length:=by omega
  subst e;exact .inl ⟨⟨xs,q,aO _⟩,hd σ H p⟩
theorem R1 {g:TG} (Pv:Nat->St->Hp->Prop) (h0:Pv 0 σ H) (hl:∀i σ H,i<=xs.length->Pv i σ H->aG K H a xs)
  (hs:∀i x σ H,xs[i]? = some x->Pv i σ H->g x σ H fun eM H2=>tb { D with nx:=Pv (i+1),ct:=Pv (i+1),bk:=D.nx } eM H2) (hd:∀σ H,Pv xs.length σ H->D.nx σ H) :
  ∃W:Nat->Nat->St->Hp->Prop,(∃m,W 0 m σ H) /\ ∀i m σ H,W i m σ H ->
   ((kO K a).stop i H/\D.nx σ H)\/((kO K a).go i H /\ ∃N:St->Hp->Prop,(∀aI H',N aI H' -> ∃m',m' < m/\W (i+1) m' aI H') /\ ∀x H',(kO K a).kM i H x H'->g x σ H' fun eM H2=>tb { D with nx:=N,ct:=N,bk:=D.nx } eM H2):=by
 refine⟨fun i m σ H=>m=xs.length - i/\i<=xs.length/\Pv i σ H,⟨xs.length,by simp,bw _,h0⟩,?_⟩
 rintro i m σ H ⟨rfl,hi,p⟩;have q:=hl i σ H hi p
 by_cases aZ:i < xs.length
 ·refine .inr ⟨⟨xs,xs[i],q,by simp[aZ]⟩,Pv (i+1),fun aI H' p'=>⟨xs.length - (i+1),by omega,rfl,aZ,p'⟩,fun x H' y=>?_⟩
  obtain⟨e,y⟩:=y;subst e;exact hs i x σ _ (y xs q) p
 ·have e:i=xs.length:=by omega
  subst e;exact .inl ⟨⟨xs,q,aO _⟩,hd σ H p⟩
theorem vz {n:Nat}{g:TG} (Pv:Nat->St->Hp->Prop) (h0:Pv 0 σ H)
  (hs:∀i σ H,i < n->Pv i σ H->g (.int (lo+i)) σ H fun eM H2=>tb { D with nx:=Pv (i+1),ct:=Pv (i+1),bk:=D.nx } eM H2) (hd:∀σ H,Pv n σ H->D.nx σ H) :
  ∃W:Nat->Nat->St->Hp->Prop,(∃m,W 0 m σ H) /\ ∀i m σ H,W i m σ H ->
   ((l0 lo n).stop i H/\D.nx σ H)\/((l0 lo n).go i H /\ ∃N:St->Hp->Prop,(∀aI H',N aI H' -> ∃m',m' < m/\W (i+1) m' aI H') /\ ∀x H',(l0 lo n).kM i H x H'->g x σ H' fun eM H2=>tb { D with nx:=N,ct:=N,bk:=D.nx } eM H2):=by
 refine⟨fun i m σ H=>m=n - i/\i<=n/\Pv i σ H,⟨n,by simp,bw _,h0⟩,?_⟩
 rintro i m σ H ⟨rfl,hi,p⟩
 by_cases aZ:i < n
 ·refine .inr ⟨aZ,Pv (i+1),fun aI H' p'=>⟨n - (i+1),by omega,rfl,aZ,p'⟩,fun x H' y=>?_⟩
  obtain⟨e,y⟩:=y;subst e y;exact hs i σ _ aZ p
 ·have e:i=n:=by omega
  subst e;exact .inl ⟨aO _,hd σ H p⟩
abbrev R2:=V->V->Hp->VK->Prop
def b6 (X:Cx) (f:Value->Value->Sem Value) (r:R2):Prop:=
 ∀ (pins:List (Addr×Obj)) (s:Shared) (σ:St) (H:Hp) (x y:V) (v u:Value) (Q:VK),Inv X pins σ H s->RelV x v->RelV y u->r x y H Q ->
  wpAny (model X.prog X.w) X.A (f v u) (EP X pins σ Q) X.xe s
def C1 (X:Cx) (f:Value->Sem Value) (r:V->Hp->VK->Prop):Prop:=
 ∀ (pins:List (Addr×Obj)) (s:Shared) (σ:St) (H:Hp) (x:V) (v:Value) (Q:VK),Inv X pins σ H s->RelV x v->r x H Q ->
  wpAny (model X.prog X.w) X.A (f v) (EP X pins σ Q) X.xe s
def dZ (X:Cx) (f:Value) (r:List V->Hp->VK->Prop):Prop:=
 ∀ (pins:List (Addr×Obj)) (s:Shared) (σ:St) (H:Hp) (xs:List V) (us:List Value) (Q:VK),Inv X pins σ H s->Vals xs us->r xs H Q ->
  wpAny (model X.prog X.w) X.A (call f us) (EP X pins σ Q) X.xe s
def Ws (X:Cx) (r:V->Hp->(Bool->Hp->Prop)->Prop):Prop:=
 ∀ (pins:List (Addr×Obj)) (s:Shared) (σ:St) (H:Hp) (x:V) (v:Value) (Q:Bool->Hp->Prop),Inv X pins σ H s->RelV x v->r x H Q ->
  wpAny (model X.prog X.w) X.A (truthy v) (TP X pins σ Q) X.xe s
def xY (r:R2) (ta tb:TE):TE:=fun σ H Q=>ta σ H fun x H1=>tb σ H1 fun y H2=>r x y H2 Q
def YW (r:V->Hp->VK->Prop) (ta:TE):TE:=fun σ H Q=>ta σ H fun x H1=>r x H1 Q
def rI (C:Int->Int->Prop) (g:Int->Int->V):R2:=fun x y H Q=>∃i j,x = .int i/\y = .int j/\C i j/\Q (g i j) H
def oq (g:Int->Int->V):R2:=fun x y H Q=>∃i j,x = .int i/\y = .int j/\Q (g i j) H
def rU (g:Int->V):V->Hp->VK->Prop:=fun x H Q=>∃i,x = .int i/\Q (g i) H
section
variable{a b:Expr}{tb tc:TE}
theorem BA (ha:PE X a ta) (hb:PE X b tb) {R:V->V->Hp->Prop} (I:Inv X pins σ H s)
  (h:ta σ H fun x H1=>tb σ H1 fun y H2=>R x y H2) {f:Value->Value->Sem Value}
  (hf:∀v u s2 x y H2,Inv X pins σ H2 s2->RelV x v->RelV y u->R x y H2->wpAny (model X.prog X.w) X.A (f v u) Q X.xe s2) :
  wpAny (model X.prog X.w) X.A (eval a X.env) (fun v bp=>wpAny (model X.prog X.w) X.A (eval b X.env) (fun u lP=>wpAny (model X.prog X.w) X.A (f v u) Q X.xe lP) X.xe bp) X.xe s:=by
 refine ao (ha pins s σ H _ I h) fun v s1 ⟨x,H1,I1,r1,q1⟩=>?_;refine ao (hb pins s1 σ H1 _ I1 q1) fun u s2 ⟨y,H2,I2,r2,q2⟩=>?_;exact hf v u s2 x y H2 I2 r1 r2 q2
theorem bJ {op:Operator}{r:R2} (ho:b6 X (binaryOp op) r) (ha:PE X a ta) (hb:PE X b tb):PE X (.BinOp a op b pos) (xY r ta tb):=by
 intro pins s σ H Q I h;exact wpAny_BinOp (BA ha hb I h fun v u s2 x y H2 I2 rx ry q=>ho pins s2 σ H2 x y v u Q I2 rx ry q)
theorem U6 {op:UnaryOp}{r:V->Hp->VK->Prop} (ho:C1 X (unaryOp op) r) (ha:PE X a ta):PE X (.UnaryOp op a pos) (YW r ta):=by
 intro pins s σ H Q I h;exact UnaryOp_ (ao (ha pins s σ H _ I h) fun v s1 ⟨x,H1,I1,r1,q1⟩=>ho pins s1 σ H1 x v Q I1 r1 q1)
theorem tN {f:Value->Value->Sem Value}{C:Int->Int->Prop}{g:Int->Int->Int}
  (rule:∀ (i j:Int) (t u:Tok) (s:Shared) (Q:Value->Shared->Prop) (E:Value->Shared->Prop),C i j->Q (.int (g i j) s.toks) { s with toks:=s.toks+1 }->wpAny (model X.prog X.w) X.A (f (.int i t) (.int j u)) Q E s) :
  b6 X f (rI C fun i j=>.int (g i j)):=by
 intro pins s σ H x y v u Q I rx ry h;obtain⟨i,j,rfl,rfl,hc,q⟩:=h;obtain⟨t,rfl⟩:=rx;obtain⟨t',rfl⟩:=ry;exact rule i j t t' s _ _ hc ⟨.int (g i j),H,I.tok _,⟨_,rfl⟩,q⟩
theorem JE {f:Value->Value->Sem Value}{g:Int->Int->Int}
  (rule:∀ (i j:Int) (t u:Tok) (s:Shared) (Q:Value->Shared->Prop) (E:Value->Shared->Prop),Q (.int (g i j) s.toks) { s with toks:=s.toks+1 }->wpAny (model X.prog X.w) X.A (f (.int i t) (.int j u)) Q E s) :
  b6 X f (oq fun i j=>.int (g i j)):=by
 intro pins s σ H x y v u Q I rx ry h;obtain⟨i,j,rfl,rfl,q⟩:=h;obtain⟨t,rfl⟩:=rx;obtain⟨t',rfl⟩:=ry;exact rule i j t t' s _ _ ⟨.int (g i j),H,I.tok _,⟨_,rfl⟩,q⟩
theorem BB {f:Value->Value->Sem Value}{g:Int->Int->Bool}
  (rule:∀ (i j:Int) (t u:Tok) (s:Shared) (Q:Value->Shared->Prop) (E:Value->Shared->Prop),Q (.bool (g i j)) s->wpAny (model X.prog X.w) X.A (f (.int i t) (.int j u)) Q E s) :
  b6 X f (oq fun i j=>.bl (g i j)):=by
 intro pins s σ H x y v u Q I rx ry h;obtain⟨i,j,rfl,rfl,q⟩:=h;obtain⟨t,rfl⟩:=rx;obtain⟨t',rfl⟩:=ry;exact rule i j t t' s _ _ ⟨.bl (g i j),H,I,rfl,q⟩
def Wt (i j:Int):Prop:=0 < j/\j < 1073741824
def Wu (i j:Int):Prop:=0<=j/\j<=1000000/\i.natAbs < 2 ^ 64
def BC (i j:Int):Prop:=(-(2 ^ 64) < i/\i < 2 ^ 64)\/(-(2 ^ 64) < j/\j < 2 ^ 64)
theorem BC.ok {i j:Int} (h:BC i j):IntMulOk i j:=by
 rcases h with⟨h1,h2⟩|⟨h1,h2⟩
 ·exact .of_left (intBits_le_64 h1 h2)
 ·exact .of_right (intBits_le_64 h1 h2)
theorem iQ:b6 X (binaryOp .Add) (oq fun i j=>.int (i+j)):=JE fun _ _ _ _ _ _ _ q=>add_int q
theorem sf:b6 X (binaryOp .Sub) (oq fun i j=>.int (i - j)):=JE fun _ _ _ _ _ _ _ q=>sub_int q
theorem wg:b6 X (binaryOp .Mult) (rI BC fun i j=>.int (i * j)):=tN fun _ _ _ _ _ _ _ hc q=>mul_int q hc.ok
theorem R4:b6 X (binaryOp .FloorDiv) (rI Wt fun i j=>.int (i / j)):=tN fun i j _ _ _ _ _ hc q=>by
 have h1:(0:Int) < j:=hc.1;have h2:j < 1073741824:=hc.2;exact floordiv_int (by omega) (by rw[ae8 i (by omega)];exact q) (.inl (PyProof.noPylong_small (by omega)))
theorem sg:b6 X (binaryOp .Mod) (rI (fun _ j=>0 < j) fun i j=>.int (i % j)):=tN fun i j _ _ _ _ _ hc q=>by
 have h1:(0:Int) < j:=hc;exact mod_int' (by omega) (by rw[Int.fmod_eq_emod_of_nonneg i (by omega)];exact q)
theorem AV:b6 X (binaryOp .Pow) (rI Wu fun i j=>.int (i ^ j.toNat)):=tN fun _ _ _ _ _ _ _ hc q=>pow_int_small hc.1 hc.2.1 hc.2.2 q
theorem YX {f:Value->Sem Value}{g:Int->Int}
  (rule:∀ (i:Int) (t:Tok) (s:Shared) (Q:Value->Shared->Prop) (E:Value->Shared->Prop),Q (.int (g i) s.toks) { s with toks:=s.toks+1 }->wpAny (model X.prog X.w) X.A (f (.int i t)) Q E s) :
  C1 X f (rU fun i=>.int (g i)):=by
 intro pins s σ H x v Q I rx h;obtain⟨i,rfl,q⟩:=h;obtain⟨t,rfl⟩:=rx;exact rule i t s _ _ ⟨.int (g i),H,I.tok _,⟨_,rfl⟩,q⟩
theorem T1:C1 X (unaryOp .USub) (rU fun i=>.int (-i)):=YX fun _ _ _ _ _ q=>neg_int q
end
def JF:V->V->Bool
 |.aH,.aH=>true|.aH,.int _=>true|.int _,.aH=>true|.aH,.bl _=>true|.bl _,.aH=>true|.aH,.str _=>true|.str _,.aH=>true
 |.int _,.int _=>true|.bl _,.bl _=>true|.str _,.str _=>true|.ij _,.ij _=>true
 |.int _,.str _=>true|.str _,.int _=>true|.bl _,.str _=>true|.str _,.bl _=>true
 |_,_=>false
def YY:R2:=fun x y H Q=>JF x y=true/\Q (.bl (decide (x=y))) H
def YZ:R2:=fun x y H Q=>JF x y=true/\Q (.bl (!decide (x=y))) H
theorem Ic {i j:Int}:decide (V.int i=V.int j)=(i==j):=by
 rw[rb];simp
theorem IK {i j:Bool}:decide (V.bl i=V.bl j)=(i==j):=by
 rw[rb];simp
theorem Ie {i j:Str}:decide (V.str i=V.str j)=(i==j):=by
 rw[rb];simp
theorem Ig {i j:Array UInt8}:decide (V.ij i=V.ij j)=(i.toList==j.toList):=by
 rw[rb];cases i
 cases j
 simp
section
variable{a b:Expr}{tb tc:TE}
theorem cu {Q:VK}{k k':Bool} (I:Inv X pins σ H s) (q:Q (.bl k) H) (e:k=k'):EP X pins σ Q (.bool k') s:=by
 subst e;exact⟨.bl k,H,I,rfl,q⟩
theorem jG:b6 X (compareOp .Eq) YY:=by
 intro pins s σ H x y v u Q I rx ry h;obtain⟨hs,q⟩:=h;cases x with
 |aH =>
  cases rx
  cases y with
  |aH=>cases ry;exact PySem.EqNone.eq_none_none (cu I q (by simp))
  |bl j=>cases ry;exact PySem.EqNone.eq_none_bool (cu I q (by simp))
  |int j=>obtain⟨t',rfl⟩:=ry;exact PySem.EqNone.eq_none_int (cu I q (by simp))
  |str j=>obtain⟨t',rfl⟩:=ry;exact PySem.EqNone.eq_none_str (cu I q (by simp))
  |_=>exact absurd (show false=true from hs) cz
 |bl i =>
  cases rx
  cases y with
  |aH=>cases ry;exact PySem.EqNone.eq_bool_none (cu I q (by simp))
  |bl j=>cases ry;exact eq_bool (cu I q IK)
  |str j=>obtain⟨t',rfl⟩:=ry;exact PySem.EqMixed.eq_bool_str (cu I q (by simp))
  |_=>exact absurd (show false=true from hs) cz
 |int i =>
  obtain⟨t,rfl⟩:=rx;cases y with
  |aH=>cases ry;exact PySem.EqNone.eq_int_none (cu I q (by simp))
  |int j=>obtain⟨t',rfl⟩:=ry;exact eq_int (cu I q Ic)
  |str j=>obtain⟨t',rfl⟩:=ry;exact PySem.EqMixed.eq_int_str (cu I q (by simp))
  |_=>exact absurd (show false=true from hs) cz
 |str i =>
  obtain⟨t,rfl⟩:=rx;cases y with
  |aH=>cases ry;exact PySem.EqNone.eq_str_none (cu I q (by simp))
  |bl j=>cases ry;exact PySem.EqMixed.eq_str_bool (cu I q (by simp))
  |int j=>obtain⟨t',rfl⟩:=ry;exact PySem.EqMixed.eq_str_int (cu I q (by simp))
  |str j=>obtain⟨t',rfl⟩:=ry;exact eq_str (cu I q Ie)
  |_=>exact absurd (show false=true from hs) cz
 |ij i =>
  obtain⟨t,rfl⟩:=rx;cases y with
  |ij j=>obtain⟨t',rfl⟩:=ry;exact PySem.W.eq_bytes (cu I q Ig)
  |_=>exact absurd (show false=true from hs) cz
 |_=>cases y <;> exact absurd (show false=true from hs) cz
theorem sx:b6 X (compareOp .NotEq) YZ:=by
 intro pins s σ H x y v u Q I rx ry h;obtain⟨hs,q⟩:=h;cases x with
 |aH =>
  cases rx
  cases y with
  |aH=>cases ry;exact PySem.EqNone.ne_none_none (cu I q (by simp))
  |bl j=>cases ry;exact PySem.EqNone.ne_none_bool (cu I q (by simp))
  |int j=>obtain⟨t',rfl⟩:=ry;exact PySem.EqNone.ne_none_int (cu I q (by simp))
  |str j=>obtain⟨t',rfl⟩:=ry;exact PySem.EqNone.ne_none_str (cu I q (by simp))
  |_=>exact absurd (show false=true from hs) cz
 |bl i =>
  cases rx
  cases y with
  |aH=>cases ry;exact PySem.EqNone.ne_bool_none (cu I q (by simp))
  |bl j=>cases ry;exact ne_bool (cu I q (d7 not IK))
  |str j=>obtain⟨t',rfl⟩:=ry;exact PySem.EqMixed.ne_bool_str (cu I q (by simp))
  |_=>exact absurd (show false=true from hs) cz
 |int i =>
  obtain⟨t,rfl⟩:=rx;cases y with
  |aH=>cases ry;exact PySem.EqNone.ne_int_none (cu I q (by simp))
  |int j=>obtain⟨t',rfl⟩:=ry;exact ne_int (cu I q (d7 not Ic))
  |str j=>obtain⟨t',rfl⟩:=ry;exact PySem.EqMixed.ne_int_str (cu I q (by simp))
  |_=>exact absurd (show false=true from hs) cz
 |str i =>
  obtain⟨t,rfl⟩:=rx;cases y with
  |aH=>cases ry;exact PySem.EqNone.ne_str_none (cu I q (by simp))
  |bl j=>cases ry;exact PySem.EqMixed.ne_str_bool (cu I q (by simp))
  |int j=>obtain⟨t',rfl⟩:=ry;exact PySem.EqMixed.ne_str_int (cu I q (by simp))
  |str j=>obtain⟨t',rfl⟩:=ry;exact ne_str (cu I q (d7 not Ie))
  |_=>exact absurd (show false=true from hs) cz
 |ij i =>
  obtain⟨t,rfl⟩:=rx;cases y with
  |ij j=>obtain⟨t',rfl⟩:=ry;exact PySem.W.ne_bytes (cu I q (d7 not Ig))
  |_=>exact absurd (show false=true from hs) cz
 |_=>cases y <;> exact absurd (show false=true from hs) cz
theorem U7:b6 X (compareOp .Lt) (oq fun i j=>.bl (decide (i < j))):=BB fun _ _ _ _ _ _ _ q=>lt_int q
theorem Jc:b6 X (compareOp .LtE) (oq fun i j=>.bl (decide (i<=j))):=BB fun _ _ _ _ _ _ _ q=>le_int q
theorem Jd:b6 X (compareOp .Gt) (oq fun i j=>.bl (decide (j < i))):=BB fun _ _ _ _ _ _ _ q=>gt_int q
theorem pN:b6 X (compareOp .Is) (fun x y H Q=>y = .aH/\Q (.bl (decide (x = .aH))) H):=by
 intro pins s σ H x y v u Q I rx ry h;obtain⟨rfl,q⟩:=h;cases ry
 refine is_none_gen (cu I q ?_);cases x <;> first
  |(cases rx;rfl)
  |(obtain⟨t,rfl⟩:=rx;rfl)
theorem cR (b:Expr) {op:CmpOp} (h:op ≠ .In:=by decide) (h2:op ≠ .NotIn:=by decide):behindInMarks op b=false:=by
 have e1:(op==CmpOp.In)=false:=by cases op <;> first|rfl|exact absurd rfl h
 have e2:(op==CmpOp.NotIn)=false:=by cases op <;> first|rfl|exact absurd rfl h2
 cases b <;> simp[behindInMarks,e1,e2]
theorem pJ {op:CmpOp}{r:R2} (ho:b6 X (compareOp op) r) (ha:PE X a ta) (hb:PE X b tb) (hm:behindInMarks op b=false):PE X (.Compare a [op] [b] pos) (xY r ta tb):=by
 intro pins s σ H Q I h;exact wpAny_Compare1 (BA ha hb I h fun v u s2 x y H2 I2 rx ry q=>ho pins s2 σ H2 x y v u Q I2 rx ry q) hm
def Je (t:TE):TT:=fun σ H Q=>t σ H fun x H'=>∃k,x = .bl k/\Q k H'
theorem cD {op:CmpOp}{r:R2} (ho:b6 X (compareOp op) r) (ha:PE X a ta) (hb:PE X b tb) (hm:behindInMarks op b=false):PT X (.Compare a [op] [b] pos) (Je (xY r ta tb)):=by
 intro pins s σ H Q I h;refine wpAny_isTrue_Compare1 (ao (ha pins s σ H _ I h) fun v s1 ⟨x,H1,I1,r1,q1⟩=>ao (hb pins s1 σ H1 _ I1 q1) fun u s2 ⟨y,H2,I2,r2,q2⟩ =>
  ao (ho pins s2 σ H2 x y v u _ I2 r1 r2 q2) fun c s3 ⟨z,H3,I3,r3,k,e,q3⟩=>?_) hm
 subst e;cases r3
 exact j7 ⟨H3,I3,q3⟩
def IL (r r':R2) (ta tb tc:TE):TE:=fun σ H Q=>ta σ H fun x H1=>tb σ H1 fun y H2=>r x y H2 fun z H3=>∃k,z = .bl k /\
 (if k=true then tc σ H3 fun w' H4=>r' y w' H4 Q else Q (.bl false) H3)
theorem Rf {op ot:CmpOp}{r r':R2} (ho:b6 X (compareOp op) r) (fq:b6 X (compareOp ot) r') (ha:PE X a ta) (hb:PE X b tb) (hc:PE X c tc)
  (hm:lastMarks [op,ot] [b,c]=false:=by with_unfolding_all rfl):PE X (.Compare a [op,ot] [b,c] pos) (IL r r' ta tb tc):=by
 intro pins s σ H Q I h;refine Compare_chain (ao (ha pins s σ H _ I h) fun v s1 ⟨x,H1,I1,r1,q1⟩=>chain_link (ao (hb pins s1 σ H1 _ I1 q1) fun u s2 ⟨y,H2,I2,r2,q2⟩ =>
  ao (ho pins s2 σ H2 x y v u _ I2 r1 r2 q2) fun d s3 ⟨z,H3,I3,r3,k,e,q3⟩=>?_)) hm
 subst e;cases r3
 refine j7 ?_;cases k with
 |false=>exact ite_ff ⟨.bl false,H3,I3,rfl,q3⟩
 |true=>exact ite_tt (chain_last (ao (hc pins s3 σ H3 _ I3 q3) fun w' s4 ⟨z',H4,I4,r4,q4⟩=>fq pins s4 σ H4 y z' u w' Q I4 r2 r4 q4))
theorem Rg {op ot:CmpOp}{r r':R2} (ho:b6 X (compareOp op) r) (fq:b6 X (compareOp ot) r') (ha:PE X a ta) (hb:PE X b tb) (hc:PE X c tc)
  (hm:lastMarks [op,ot] [b,c]=false:=by with_unfolding_all rfl):PT X (.Compare a [op,ot] [b,c] pos) (Je (IL r r' ta tb tc)):=by
 intro pins s σ H Q I h;refine isTrue_chain (ao (ha pins s σ H _ I h) fun v s1 ⟨x,H1,I1,r1,q1⟩=>test_link (ao (hb pins s1 σ H1 _ I1 q1) fun u s2 ⟨y,H2,I2,r2,q2⟩ =>
  ao (ho pins s2 σ H2 x y v u _ I2 r1 r2 q2) fun d s3 ⟨z,H3,I3,r3,k,e,q3⟩=>?_)) hm
 subst e;cases r3
 refine j7 ?_;cases k with
 |false =>
  obtain⟨k',e',q'⟩:=q3;cases e'
  exact ite_ff ⟨H3,I3,q'⟩
 |true =>
  refine ite_tt (test_last (ao (hc pins s3 σ H3 _ I3 q3) fun w' s4 ⟨z',H4,I4,r4,q4⟩=>ao (fq pins s4 σ H4 y z' u w' _ I4 r2 r4 q4) fun d' s5 ⟨z2,H5,I5,r5,k2,e2,q5⟩=>?_));subst e2;cases r5
  exact j7 ⟨H5,I5,q5⟩
def JG (K:PySem.W.Frag) (x:V) (H:Hp) (k:Bool):Prop:=
 match x with
 |.aH=>k=false
 |.bl b=>k=b
 |.int i=>k=(i != 0)
 |.str y=>y.length<=sizeLine/\k=((y.length:Int) != 0)
 |.ij y=>y.size<=sizeLine/\k=((y.size:Int) != 0)
 |.ref p=>(∃xs,ai K H p xs/\k = !xs.isEmpty)\/(∃xs,aG K H p xs/\k = !xs.isEmpty) \/ ∃kvs,H p=some (.dK kvs)/\k = !kvs.isEmpty
 |_=>False
theorem PB {κ:Type}{kvs:List (κ×V)}{vs:List (κ×Value)} (r:KV kvs vs):(!vs.isEmpty) = !kvs.isEmpty:=by
 cases r <;> rfl
theorem zP (r:Vals xs its):(!its.toArray.isEmpty) = !xs.isEmpty:=by
 cases r <;> simp
theorem nv:(sizeLine:Nat) < 2 ^ 63:=by rw[aT];decide
theorem T':Ws X (fun x H Q=>∃k,JG X.K x H k/\Q k H):=by
 intro pins s σ H x v Q I rx h;obtain⟨k,e,q⟩:=h;have hl:=nv;have hs:sizeLine=16777216:=aT;cases x with
 |aH =>
  cases rx
  have e':k=false:=e;subst e';exact truthy_none ⟨H,I,q⟩
 |bl b =>
  cases rx
  have e':k=b:=e;subst e';exact j7 ⟨H,I,q⟩
 |int i =>
  obtain⟨t,rfl⟩:=rx;have e':k=(i != 0):=e;subst e';exact PySem.P.truthy_int ⟨H,I,q⟩
 |str y =>
  obtain⟨t,rfl⟩:=rx;obtain⟨hy,e'⟩:y.length<=sizeLine/\k=((y.length:Int) != 0):=e;subst e';exact PySem.P.truthy_str (by omega) ⟨H,I.tok _,q⟩
 |ij y =>
  obtain⟨t,rfl⟩:=rx;obtain⟨hy,e'⟩:y.size<=sizeLine/\k=((y.size:Int) != 0):=e;subst e';exact PySem.W.truthy_bytes (by omega) ⟨H,I.tok _,q⟩
 |ref p =>
  cases rx
  have e':(∃xs,ai X.K H p xs/\k = !xs.isEmpty)\/(∃xs,aG X.K H p xs/\k = !xs.isEmpty) \/ ∃kvs,H p=some (.dK kvs)/\k = !kvs.isEmpty:=e;rcases e' with⟨xs,hx,e'⟩|⟨xs,hx,e'⟩|⟨kvs,hx,e'⟩
  ·subst e'
   obtain⟨its,r,pl,hz⟩:=I.list hx;have hlen:=r.length;exact wpAny_truthy_list pl.isList (by simp only[cf];omega) ⟨H,I.tok _,by rw[zP r];exact q⟩
  ·subst e'
   obtain⟨its,r,pl,hz⟩:=I.tuple hx;have hlen:=r.length;exact truthy_tuple pl (by simp only[cf];omega) ⟨H,I.tok _,by rw[zP r];exact q⟩
  ·subst e'
   obtain⟨hz,hS,vs,r,m⟩:kvs.length<=sizeLine/\(p==sysModules)=false /\ ∃vs,KV kvs vs/\s.heap.DictOf (bY X.prog X.w) p vs:=I.aj p _ hx;have hlen:kvs.length=vs.length:=eu r;exact wpAny_truthy_dict hS m (by omega) ⟨H,I.tok _,by rw[PB r];exact q⟩
 |_=>exact(show False from e).elim
theorem pE (ha:PE X a ta) (he:∀whole,isTrue a X.env whole=(do let v <- whole;standAt a.pos;holding [v] (truthy v))) :
  PT X a (fun σ H Q=>ta σ H fun x H'=>∃k,JG X.K x H' k/\Q k H'):=by
 intro pins s σ H Q I h;exact isTrue_plain (ao (ha pins s σ H _ I h) fun v s1 ⟨x,H1,I1,r1,q1⟩=>T' pins s1 σ H1 x v Q I1 r1 q1) (he _)
theorem F4:b6 X (binaryOp .Add) (fun x y H Q=>∃i j,x = .str i/\y = .str j/\i.length+j.length<=sizeLine/\Q (.str (i++j)) H):=by
 intro pins s σ H x y v u Q I rx ry h;obtain⟨i,j,rfl,rfl,hz,q⟩:=h;obtain⟨t,rfl⟩:=rx;obtain⟨t',rfl⟩:=ry;exact add_str (fun t' tk=>⟨.str (i++j),H,I.tok _,⟨_,rfl⟩,q⟩) hz
theorem vals1 {x:V} (r:Vals [x] us):∃u,us = [u]/\RelV x u:=by
 cases r with
 |cons r1 r2=>cases r2;exact⟨_,rfl,r1⟩
theorem vals2 {x:V} (r:Vals [x,y] us):∃u w',us = [u,w']/\RelV x u/\RelV y w':=by
 cases r with
 |cons r1 r2 =>
  cases r2 with
  |cons r3 r4=>cases r4;exact⟨_,_,rfl,r1,r3⟩
theorem Hy:dZ X (.builtin "abs") (fun xs H Q=>∃i,xs = [.int i]/\Q (.int (if i < 0 then -i else i)) H):=by
 intro pins s σ H xs us Q I r h;obtain⟨i,rfl,q⟩:=h;obtain⟨u,rfl,t,rfl⟩:=vals1 r;exact call_abs_int fun u tk=>⟨.int (if i < 0 then -i else i),H,I.tok _,⟨_,rfl⟩,q⟩
theorem Gu (hc:X.calm=true):dZ X (.builtin "max") (fun xs H Q=>∃i j,xs = [.int i,.int j]/\Q (.int (if j > i then j else i)) H):=by
 intro pins s σ H xs us Q I r h;obtain⟨i,j,rfl,q⟩:=h;obtain⟨u,w',rfl,⟨t,rfl⟩,⟨t',rfl⟩⟩:=vals2 r;refine max_two_ints (I.ok.hd hc) fun h' tk k=>⟨_,H,I.kept k,?_,q⟩
 by_cases hj:j > i
 ·rw[aB hj,aB hj];exact⟨_,rfl⟩
 ·rw[ar hj,ar hj];exact⟨_,rfl⟩
theorem Gv (hc:X.calm=true):dZ X (.builtin "min") (fun xs H Q=>∃i j,xs = [.int i,.int j]/\Q (.int (if j < i then j else i)) H):=by
 intro pins s σ H xs us Q I r h;obtain⟨i,j,rfl,q⟩:=h;obtain⟨u,w',rfl,⟨t,rfl⟩,⟨t',rfl⟩⟩:=vals2 r;refine min_two_ints (I.ok.hd hc) fun h' tk k=>⟨_,H,I.kept k,?_,q⟩
 by_cases hj:j < i
 ·rw[aB hj,aB hj];exact⟨_,rfl⟩
 ·rw[ar hj,ar hj];exact⟨_,rfl⟩
end
structure nL (h:Heap) (x dx C:Addr) (mA:Str->Option Value):Prop where
 obj:h.get? x=some (PySem.W.instObj C dx)
 ns:h.Ns1 dx mA
 ne:dx≠x
theorem vA {dx:Addr} (n:h.Ns1 dx mA):∃od,h.get? dx=some od /\ ∀name,PySem.W.lookIn name od=some (mA name):=by
 obtain⟨o,es,ep,ho,hd,hk,_,hm⟩:=n;refine⟨o,ho,fun name=>?_⟩;have e:=hm name;unfold nsFind findBy at e;rw[<-Array.find?_toList]at e;unfold PySem.W.lookIn;rw[hd]
 dsimp only
 split
 ·rename_i y q
  rw[q]at e;exact d7 some e
 ·rename_i q
  rw[q]at e;have a:es.toList.any (·.refKey)=false:=by
   rw[E7];intro y hy;obtain⟨z,t,BD⟩:=hk y (Array.mem_toList_iff.mp hy);simp[DictEntry.refKey,BD]
  have a' : ¬ es.toList.any (·.refKey)=true:=by rw[a];exact cz
  rw[ar a'];exact d7 some e
theorem nL.look {x dx:Addr} (I:nL h x dx C mA):∃od,PySem.W.InstAt h x (PySem.W.instObj C dx) C (some od) /\ ∀name,PySem.W.lookIn name od=some (mA name):=
 let ⟨od,ho,hl⟩:=vA I.ns
 ⟨od,⟨I.obj,rfl,rfl,ho⟩,hl⟩
section
variable{x dx:Addr}{v:Value}
theorem get_map (X:K.In s.heap) (I:nL s.heap x dx C mA) (hg:PySem.W.plainGet K C name=true) (hh:PySem.W.hasDictIn K C=true)
  (ha:PySem.W.findIn K (.ref C) name=some none) (hv:mA name=some v) (Y0:PySem.W.handedIn v=true) (h:Q v { s with toks:=s.toks+1 }) :
  wpAny (model prog w) A (getAttr (.ref x) name expr) Q E s:=by
 obtain⟨od,J,hl⟩:=I.look;exact PySem.W.get_value X J (N1 hg).1 (PySem.W.findObj_own hh ha rfl (by rw[hl,hv])) Y0 h
theorem Rh {pl:Sem Bool}{Q:Value×List Value->Shared->Prop} (X:K.In s.heap) (I:nL s.heap x dx C mA) (hg:PySem.W.plainGet K C name=true)
  (hf:PySem.W.findIn K (.ref C) name=some (some (.ref f))) (ht:PySem.W.isFn K (.ref f)=true) (hv:mA name=none) (h:Q (.ref f,[.ref x]) s) :
  wpAny (model prog w) A (getMethod (.ref x) name pl) Q E s:=by
 obtain⟨od,J,hl⟩:=I.look;exact PySem.W.method_fn X J (N1 hg).1 (N1 hg).2 hf (dX.mp ht) (by show(PySem.W.lookIn name od).map (·.isSome)=some false;rw[hl,hv];rfl) h
theorem R5 {Q:Unit->Shared->Prop} (X:K.In s.heap) (I:nL s.heap x dx C mA)
  (hs:PySem.W.findIn K (.ref C) "__setattr__" = some (some (.builtin "object.__setattr__"))) (hp:PySem.W.plainOver K C=true) (ht:PySem.W.takerIn K C name=some none) (hh:PySem.W.hasDictIn K C=true)
  (hw:PySem.Within mA ns) (hsz:ns.length<=sizeLine)
  (h:∀h',nL h' x dx C (fun y=>if y=name then some v else mA y)->Heap.SameBut dx s.heap h'->Q () { s with heap:=h',toks:=s.toks+2 }) :
  wpAny (model prog w) A (setAttr (.ref x) name v) Q E s:=by
 obtain⟨od,J,hl⟩:=I.look;refine PySem.W.set_plain X J hs (PySem.W.osa_open (s:={ s with toks:=s.toks+1 }) (r:=none) X J hp ht fun b=>?_);obtain⟨cd,hc,tI⟩:=PySem.W.any_some hh;have hx:s.heap.get? x=some ⟨.ref C,some dx,.plain,#[]⟩:=I.obj;refine af (ax (af (af (E8 hx (af (PySem.W.Looks.here (s:={ s with toks:=s.toks+1 }) (PySem.W.looks_clsIn X hc) ?_))))));rw[tI];refine ax (a:=some dx) (af (ax (af ?_)));refine wpAny_nsSet1 (s:={ s with toks:=s.toks+1 }) I.ns fun h' xZ qv=>?_;obtain⟨oD,Y1,Y2,C3,ou,C4⟩:=xZ.count (PySem.Within.cons name v hw);refine af (wpAny_lookBehind C3 (by rw[ou];exact pastItsLine_dict (gQ C4 (by rw[gi];omega))) ?_)
 exact ax (h _ ⟨(qv.2 _ (aV I.ne)).trans I.obj,xZ,I.ne⟩ qv)
theorem Ri {vs:List Value} (X:K.In s.heap) (hm:PySem.W.makesIn K C=true)
  (hi:PySem.W.findIn K (.ref C) "__init__" = some (some (.ref f))) (hf:PySem.W.typeIn K (.ref f)=some (.type "function"))
  (h:codeAny (model prog w) (A.under (.builtin "type.__call__" ⟨.ref C::vs,kw⟩)) (.call (.ref f) ⟨.ref (s.heap.objs.size+1)::vs,kw⟩) (PySem.W.InitBack (s.heap.objs.size+1) R)
   { s with heap:=(s.heap.push PySem.W.emptyDict).push (PySem.W.instObj C s.heap.objs.size) }) :
  codeAny (model prog w) A (.call (.ref C) ⟨vs,kw⟩) R s:=by
 obtain⟨hh,g,d,t,os⟩:=s;exact PySem.W.make_core (PySem.W.makes_of X hm) (PySem.W.looks_findIn X hi) (fun self=>PySem.W.bind_fn X self hf) (.inl rfl) h
end
def cx (f:Str) (v:V):List (Str×V)->List (Str×V)
 |[]=>[(f,v)]
 |(g,x)::r=>if g=f then (g,v)::r else (g,x)::cx f v r
theorem FX (f g:Str) (v:V):∀fs:List (Str×V),(cx f v fs).lookup g=if g=f then some v else fs.lookup g
 |[]=>by
  show List.lookup g [(f,v)]=_
  by_cases h:g=f
  ·have hb:(g==f)=true:=dX.mpr h
   simp only[List.lookup,hb,aB h]
  ·have hb:(g==f)=false:=j4.mpr h
   simp only[List.lookup,hb,ar h]
 |(k,x)::r=>by
  have ih:=FX f g v r;rw[show cx f v ((k,x)::r)=(if k=f then (k,v)::r else (k,x)::cx f v r) from rfl]
  by_cases hk:k=f
  ·rw[aB hk]
   by_cases h:g=k
   ·have hb:(g==k)=true:=dX.mpr h
    simp only[List.lookup,hb,aB (h.trans hk)]
   ·have hb:(g==k)=false:=j4.mpr h
    simp only[List.lookup,hb,ar (fun e:g=f=>h (e.trans hk.symm))]
  ·rw[ar hk]
   by_cases h:g=k
   ·have hb:(g==k)=true:=dX.mpr h
    simp only[List.lookup,hb,ar (fun e:g=f=>hk (h.symm.trans e))]
   ·have hb:(g==k)=false:=j4.mpr h
    simp only[List.lookup,hb];exact ih
theorem z4 (f:Str) (v:V):∀fs:List (Str×V),f∈(cx f v fs).map (·.1) /\ ∀g,g∈fs.map (·.1)->g∈(cx f v fs).map (·.1)
 |[]=>⟨by simp[cx],fun g h=>by simp at h⟩
 |(k,x)::r=>by
  obtain⟨i1,i2⟩:=z4 f v r;rw[show cx f v ((k,x)::r)=(if k=f then (k,v)::r else (k,x)::cx f v r) from rfl]
  by_cases hk:k=f
  ·rw[aB hk]
   subst hk;exact⟨by simp,fun g h=>by simpa using h⟩
  ·rw[ar hk]
   refine⟨?_,fun g h=>?_⟩
   ·rw[cA]
    exact bU _ i1
   ·rw[cA]at h ⊢
    rcases b9.mp h with e|e
    ·exact b9.mpr (.inl e)
    ·exact bU _ (i2 g e)
theorem FY (f:Str) (v:V):∀fs:List (Str×V),(cx f v fs).length<=fs.length+1
 |[]=>by simp[cx]
 |(k,x)::r=>by
  have ih:=FY f v r;rw[show cx f v ((k,x)::r)=(if k=f then (k,v)::r else (k,x)::cx f v r) from rfl]
  by_cases hk:k=f
  ·rw[aB hk,gi,gi];omega
  ·rw[ar hk,gi,gi];omega
theorem eJ.some_of {o:Option Value} (r:eJ (some v) o):∃u,o=some u/\RelV v u:=by
 cases o with
 |none=>exact(show False from r).elim
 |some u=>exact⟨u,rfl,r⟩
theorem eJ.none_of {o:Option Value} (r:eJ none o):o=none:=by
 cases o with
 |none=>rfl
 |some u=>exact(show False from r).elim
theorem Gw (r:RelV v u):PySem.W.handedIn u=true:=by
 cases v with
 |aH=>cases (show u=Value.none from r);rfl
 |bl b=>cases (show u=Value.bool b from r);rfl
 |int i=>obtain⟨t,e⟩:=(show ∃t,u=Value.int i t from r);cases e;rfl
 |str x=>obtain⟨t,e⟩:=(show ∃t,u=Value.str x t from r);cases e;rfl
 |ij b=>obtain⟨t,e⟩:=(show ∃t,u=Value.bytes b t from r);cases e;rfl
 |ik b=>obtain⟨t,e⟩:=(show ∃t,u=Value.float b t from r);cases e;rfl
 |ref a=>cases (show u=Value.ref a from r);rfl
 |ty n=>cases (show u=Value.type n from r);rfl
section
variable{dx:Addr}{fs qq:List (Str×V)}
theorem vR (aj:b3 P w H h) (e:H a=some (.ins C dx fs)):∃mA,nL h a dx C mA/\(∀f,eJ (fs.lookup f) (mA f))/\PySem.Within mA (fs.map (·.1))/\fs.length<=1000/\H dx=some (.own a):=by
 obtain⟨d,z,ne,ob,mA,n,r,q⟩:=(show a9 P w H h a (.ins C dx fs) from aj a _ e);exact⟨mA,⟨ob,n,ne⟩,r,q,z,d⟩
end
structure iF (K:PySem.W.Frag) (C:Addr):Prop where
 pg:PySem.W.plainGet K C Str.empty=true
 hd:PySem.W.hasDictIn K C=true
 po:PySem.W.plainOver K C=true
 sa:PySem.W.findIn K (.ref C) "__setattr__" = some (some (.builtin "object.__setattr__"))
theorem iF.get (c:iF K C) (f:Str):PySem.W.plainGet K C f=true:=c.pg
def gn (K:PySem.W.Frag) (C:Addr) (f:Str):Prop:=PySem.W.findIn K (.ref C) f=some none
theorem gn.U8 {f:Str} (n:gn K C f):PySem.W.takerIn K C f=some none:=by
 unfold PySem.W.takerIn;rw[show PySem.W.findIn K (.ref C) f=some none from n]
 rfl
structure Meth (K:PySem.W.Frag) (C:Addr) (m:Str) (f:Addr):Prop where
 at_:PySem.W.findIn K (.ref C) m=some (some (.ref f))
 fn:PySem.W.isFn K (.ref f)=true
 kp:PySem.W.keepIn K (.ref f)=true
section
variable{dx:Addr}{fs:List (Str×V)}{f:Str}
theorem F6 {b:Bool} (I:Inv X pins σ H s) (e:H a=some (.ins C dx fs)) (c:iF X.K C) (n:gn X.K C f) (l:fs.lookup f=some v)
  (h:∀u s',Inv X pins σ H s'->RelV v u->Q u s'):wpAny (model X.prog X.w) A (getAttr (.ref a) f b) Q E s:=by
 obtain⟨mA,O,r,_,_,_⟩:=vR I.aj e;obtain⟨u,hu,ru⟩:=eJ.some_of (v:=v) (o:=mA f) (by rw[<-l];exact r f)
 exact get_map I.bB O (c.get f) c.hd n hu (Gw ru) (h u _ (I.tok _) ru)
theorem F7 {m:Str}{g:Addr}{pl:Sem Bool}{Q:Value×List Value->Shared->Prop} (I:Inv X pins σ H s) (e:H a=some (.ins C dx fs)) (c:iF X.K C) (k:Meth X.K C m g) (l:fs.lookup m=none)
  (h:Q (.ref g,[.ref a]) s):wpAny (model X.prog X.w) A (getMethod (.ref a) m pl) Q E s:=by
 obtain⟨mA,O,r,_,_,_⟩:=vR I.aj e;have hn:mA m=none:=eJ.none_of (by rw[<-l];exact r m)
 exact Rh I.bB O (c.get m) k.at_ k.fn hn h
theorem F8 {Q:Unit->Shared->Prop} (I:Inv X pins σ H s) (e:H a=some (.ins C dx fs)) (c:iF X.K C) (n:gn X.K C f) (hl:fs.length < 1000) (ry:RelV y u)
  (h:∀s',Inv X pins σ (upd H a (.ins C dx (cx f y fs))) s'->Q () s'):wpAny (model X.prog X.w) A (setAttr (.ref a) f u) Q E s:=by
 obtain⟨mA,O,r,wi,_,ho⟩:=vR I.aj e;have hz:(fs.map (·.1)).length<=sizeLine:=by rw[aJ,aT];omega
 refine R5 I.bB O c.sa c.po n.U8 c.hd wi hz fun h' O' sb=>h _ ?_;have hd:∃o,h'.get? dx=some o:=let ⟨o,_,_,e',_⟩:=O'.ns;⟨o,e'⟩;refine I.write (x:=a) (e:=dx) (by rw[e];exact True.intro) (.inr ho) (fun b q hb z=>(sb.2 b hb).trans z) hd ?_
 refine⟨by rw[ae O.ne];exact ho,?_,O.ne,O'.obj,_,O'.ns,fun g=>?_,fun g hg=>?_⟩
 ·have:=FY f y fs;omega
 ·show eJ ((cx f y fs).lookup g) (if g=f then some u else mA g)
  rw[FX]
  by_cases q:g=f
  ·rw[aB q,aB q];exact ry
  ·rw[ar q,ar q];exact r g
 ·by_cases q:g=f
  ·rw[q];exact(z4 f y fs).1
  ·refine(z4 f y fs).2 g (wi g fun z=>hg ?_)
   show(if g=f then some u else mA g)=none;rw[ar q];exact z
theorem Inv.made (I:Inv X pins σ H s):Inv X pins σ (upd (upd H s.heap.objs.size (.own (s.heap.objs.size+1))) (s.heap.objs.size+1) (.ins C s.heap.objs.size []))
  { s with heap:=(s.heap.push PySem.W.emptyDict).push (PySem.W.instObj C s.heap.objs.size) }:=by
 have e1:(s.heap.push PySem.W.emptyDict).get? s.heap.objs.size=some PySem.W.emptyDict:=cK s.heap rfl;have e2:((s.heap.push PySem.W.emptyDict).push (PySem.W.instObj C s.heap.objs.size)).get? (s.heap.objs.size+1)=some (PySem.W.instObj C s.heap.objs.size):=by
  have:=cK (s.heap.push PySem.W.emptyDict) (o:=PySem.W.instObj C s.heap.objs.size) rfl
  rwa [oV]at this
 have e3:(s.heap.push PySem.W.emptyDict).Ns s.heap.objs.size (fun _=>none):=⟨PySem.W.emptyDict,#[],_,e1,rfl,(fun e he=>absurd he (by simp)),fun _=>rfl⟩
 have I1:=I.laid (a:=s.heap.objs.size) (o:= .own (s.heap.objs.size+1)) (h':=s.heap.push PySem.W.emptyDict) (t':=s.toks) (fun b u q=>bj _ q) (aO _) ⟨_,e1⟩;refine I1.laid (a:=s.heap.objs.size+1) (o:= .ins C s.heap.objs.size []) (t':=s.toks) (fun b u q=>bj _ q) (Nat.le_of_eq (oV _ _)) ?_;have ne:s.heap.objs.size≠s.heap.objs.size+1:=bX (Nat.lt_succ_self _);refine⟨by rw[ae ne,ag],bw _,ne,e2,fun _=>none,(Heap.Ns1.of_empty e3).at fun o q=>bj _ q,fun _=>True.intro,fun y hy=>absurd rfl hy⟩
theorem Ih {f:Str} (hb:attributeBase e f env (eval e env)=eval e env)
  (h:wpAny (model prog w) A (eval e env) (fun o bp=>wpAny (model prog w) A (getAttr o f true) Q E bp) E s):wpAny (model prog w) A (eval (.Attribute e f pos) env) Q E s:=
 Attribute_any_ h (by rw[arm_eval_Attribute,hb])
end
def Wv (K:PySem.W.Frag) (ta:TE) (f:Str):TE:=fun σ H Q=>ta σ H fun x H1=>∃a C dx fs v,x = .ref a/\H1 a=some (.ins C dx fs)/\iF K C/\gn K C f/\fs.lookup f=some v/\Q v H1
def Ww (K:PySem.W.Frag) (ta tv:TE) (f:Str):TS:=fun D σ H=>tv σ H fun y H1=>ta σ H1 fun x H2=>∃a C dx fs,x = .ref a/\H2 a=some (.ins C dx fs)/\iF K C/\gn K C f/\fs.length < 1000 /\
 D.nx σ (upd H2 a (.ins C dx (cx f y fs)))
def JH (X:Cx) (op:Operator) (rd:V->V->Hp->VK->Prop):Prop:=
 ∀ (pins:List (Addr×Obj)) (s:Shared) (σ:St) (H:Hp) (x y:V) (u v:Value) (Q:VK),Inv X pins σ H s->RelV x u->RelV y v->rd x y H Q->wpAny (model X.prog X.w) X.A (inplaceOp op u v) (EP X pins σ Q) X.xe s
def R6 (K:PySem.W.Frag) (ta tv:TE) (rd:V->V->Hp->VK->Prop) (f:Str):TS:=fun D σ H=>ta σ H fun x H1=>∃a C dx fs v,x = .ref a/\H1 a=some (.ins C dx fs)/\iF K C/\gn K C f/\fs.lookup f=some v /\
 tv σ H1 fun y H2=>rd v y H2 fun z H3=>∃C5 qq,H3 a=some (.ins C C5 qq)/\qq.length < 1000/\D.nx σ (upd H3 a (.ins C C5 (cx f z qq)))
section
variable{o:Expr}{f:Str}{BE:Pos}
theorem fV (he:PE X e ta) (hb:attributeBase e f X.env (eval e X.env)=eval e X.env):PE X (.Attribute e f pos) (Wv X.K ta f):=by
 intro pins s σ H Q I h;refine Ih hb (ao (he pins s σ H _ I h) fun u s1 ⟨x,H1,I1,rx,a,C,dx,fs,v,ex,ea,c,n,l,q⟩=>?_);subst ex;obtain rfl:u=Value.ref a:=rx;exact F6 I1 ea c n l fun u' s2 I2 ru=>⟨v,H1,I2,ru,q⟩
theorem jD (ha:PE X o ta) (hv:PE X value tv) (hs:swapsWith value (some (.Attribute o f pos')) pos.line X.env=pure false):PS X (.Assign [.Attribute o f pos'] value pos) (Ww X.K ta tv f):=by
 intro pins s σ H D I h;refine afd (ao (hv pins s σ H _ I h) fun u s1 ⟨y,H1,I1,ry,q⟩=>ao (ha pins s1 σ H1 _ I1 q) fun ov s2 ⟨x,H2,I2,rx,a,C,dx,fs,ex,ea,c,n,l,q2⟩=>?_) hs;subst ex;obtain rfl:ov=Value.ref a:=rx;exact F8 I2 ea c n l ry fun s3 I3=>⟨σ,_,I3,q2⟩
theorem Qm {op:Operator}{rd:V->V->Hp->VK->Prop} (ha:PE X o ta) (hv:PE X value tv) (Y3:JH X op rd):PS X (.AugAssign (.Attribute o f BE) op value pos) (R6 X.K ta tv rd f):=by
 intro pins s σ H D I h;refine wpAny_AugAssign_AttributeAny (ao (ha pins s σ H _ I h) fun ov s1 ⟨x,H1,I1,rx,a,C,dx,fs,v,ex,ea,c,n,l,q⟩=>?_);subst ex;obtain rfl:ov=Value.ref a:=rx;refine F6 I1 ea c n l fun u s2 I2 ru=>ao (hv pins s2 σ H1 _ I2 q) fun w3 s3 ⟨y,H2,I3,ry,q3⟩=>ao (Y3 pins s3 σ H2 v y u w3 _ I3 ru ry q3) fun w4 s4 ⟨z,H3,I4,rz,C5,qq,Y4,l',q4⟩=>?_;exact F8 I4 Y4 c n l' rz fun s5 I5=>⟨σ,_,I5,q4⟩
def Wx:V->V->Hp->VK->Prop:=fun x y H Q=>∃i j,x = .int i/\y = .int j/\Q (.int (i+j)) H
theorem Ua:JH X .Add Wx:=by
 rintro pins s σ H x y u v Q I rx ry ⟨i,j,rfl,rfl,q⟩;obtain⟨t,rfl⟩:=(show ∃t,u=Value.int i t from rx);obtain⟨t',rfl⟩:=(show ∃t',v=Value.int j t' from ry);exact PyProof.Rows.iadd_int ⟨.int (i+j),H,I.tok _,⟨_,rfl⟩,q⟩
end
section
variable{c:Value}{b:Bool}
inductive iD (K:PySem.W.Frag) (H:Hp):V->Value->Prop where
 |aH:iD K H .aH (.type "NoneType")
 |bl (x:Bool):iD K H (.bl x) (.type "bool")
 |int (i:Int):iD K H (.int i) (.type "int")
 |str (x:Str):iD K H (.str x) (.type "str")
 |ik (x:UInt64):iD K H (.ik x) (.type "float")
 |lst {a:Addr}{xs:List V} (e:H a=some (.lst xs)):iD K H (.ref a) (.type "list")
 |a6 {a:Addr}{o:Obj}{xs:List V} (e:H a=some (.a6 o (.lst xs))):iD K H (.ref a) (.type "list")
 |tup {a:Addr}{xs:List V} (e:H a=some (.tup xs)):iD K H (.ref a) (.type "tuple")
 |dK {a:Addr}{kvs:List (Key×V)} (e:H a=some (.dK kvs)):iD K H (.ref a) (.type "dict")
 |dT {a:Addr}{kvs:List (List Key×V)} (e:H a=some (.dT kvs)):iD K H (.ref a) (.type "dict")
 |ins {a C dx:Addr}{fs:List (Str×V)} (e:H a=some (.ins C dx fs)) (cl:iF K C) (ha:PySem.W.findIn K (.ref C) "__class__" = some (some (.builtin "object.__class__")))
   (hn:PySem.W.specialIn K (.builtin "object.__class__") "__get__" = some (some (.builtin "getset_descriptor.__get__"))) (Ln:PySem.W.takesIn K (.builtin "object.__class__")=some true)
   (hm:PySem.W.mroIn K C (.type "object")=some true):iD K H (.ref a) (.ref C)
theorem Qn {x:V}{t:Value} (I:Inv X pins σ H s) (rx:RelV x u) (ty:iD X.K H x t) (e:PySem.W.kitOne X.K t c=some b) (h:∀tk,Q (.bool b) { s with toks:=tk }) :
  wpAny (model X.prog X.w) A (call (.builtin "isinstance") [u,c]) Q E s:=by
 cases ty with
 |aH=>cases (show u=Value.none from rx);exact j8 PySem.W.kitx_none I.bB True.intro e (fun z=>nomatch z) h
 |bl y=>cases (show u=Value.bool y from rx);exact j8 PySem.W.kitx_bool I.bB True.intro e (fun z=>nomatch z) h
 |int i=>obtain⟨t,q⟩:=(show ∃t,u=Value.int i t from rx);cases q;exact j8 PySem.W.kitx_int I.bB True.intro e (fun z=>nomatch z) h
 |str y=>obtain⟨t,q⟩:=(show ∃t,u=Value.str y t from rx);cases q;exact j8 PySem.W.kitx_str I.bB True.intro e (fun z=>nomatch z) h
 |ik y=>obtain⟨t,q⟩:=(show ∃t,u=Value.float y t from rx);cases q;exact j8 PySem.W.kitx_float I.bB True.intro e (fun z=>nomatch z) h
 |@lst a xs ea =>
  cases (show u=Value.ref a from rx)
  obtain⟨_,_,n,_,h1⟩:=(show a9 X.prog X.w H s.heap a (.lst xs) from I.aj a _ ea);exact j8 PySem.W.kitx_list I.bB ⟨_,h1,rfl⟩ e (fun z=>nomatch z) h
 |@a6 a ob xs ea =>
  cases (show u=Value.ref a from rx)
  obtain⟨_,_,_,n,_,h1⟩:=(show a9 X.prog X.w H s.heap a (.a6 ob (.lst xs)) from I.aj a _ ea);exact j8 PySem.W.kitx_list I.bB ⟨_,h1,rfl⟩ e (fun z=>nomatch z) h
 |@tup a xs ea =>
  cases (show u=Value.ref a from rx)
  obtain⟨_,_,_,p⟩:=(show a9 X.prog X.w H s.heap a (.tup xs) from I.aj a _ ea);obtain⟨o,h1,h2,_⟩:=p;exact j8 PySem.W.kitx_tuple I.bB ⟨o,h1,h2⟩ e (fun z=>nomatch z) h
 |@dK a kvs ea =>
  cases (show u=Value.ref a from rx)
  obtain⟨_,_,vs,_,p⟩:=(show a9 X.prog X.w H s.heap a (.dK kvs) from I.aj a _ ea);obtain⟨o,es,ep,h1,h2,_⟩:=p;exact j8 PySem.W.kitx_dict I.bB ⟨o,h1,h2.1⟩ e (fun z=>nomatch z) h
 |@dT a kvs ea =>
  cases (show u=Value.ref a from rx)
  obtain⟨_,_,xs,_,o,es,ep,h1,h2,_⟩:=(show a9 X.prog X.w H s.heap a (.dT kvs) from I.aj a _ ea);exact j8 PySem.W.kitx_dict I.bB ⟨o,h1,h2.1⟩ e (fun z=>nomatch z) h
 |@ins a C dx fs ea cl ha hn Ln hm =>
  cases (show u=Value.ref a from rx)
  obtain⟨mA,O,_⟩:=vR I.aj ea;obtain⟨od,J,_⟩:=O.look;exact j8 (PySem.W.kitx_own (cl.get _) cl.hd ha hn Ln hm) I.bB J e (fun z=>nomatch z) h
end
structure aX (k:Nat) (A:Around):Prop where
 hd:A.handled=none
 dp:A.depth+3 * k+5 < recursionLimit
 un:A.units+16 * k+200 < cLine
 gd:A.guards=some []
theorem aX.mono {k:Nat} (r:aX k A) (h:j<=k):aX j A:=⟨r.hd,by have:=r.dp;omega,by have:=r.un;omega,r.gd⟩
theorem aX.deeper {k:Nat} (r:aX (k+1) A) (env:Env):aX k (A.deeper env):=
 ⟨r.hd,by have:=r.dp;show A.depth+1+3 * k+5 < _;omega,by have:=r.un;show A.units+3+16 * k+200 < _;omega,by first|exact r.gd|simp[Around.deeper,r.gd]⟩
theorem PD:(A.under (.builtin "type.__call__" ⟨.ref C::us,kw⟩)).depth=A.depth+1:=by
 first|rfl|simp[Around.under,Code.weight,Code.isCreation,Code.isGuard,Code.isCaller,Code.frames,Code.isFrame,guardIds]
theorem PF:(A.under (.builtin "type.__call__" ⟨.ref C::us,kw⟩)).units=A.units+1:=by
 first|rfl|simp[Around.under,Code.cUnits,Code.frames,Code.isFrame]
theorem O9 (h:A.guards=some []):(A.under (.builtin "type.__call__" ⟨.ref C::us,kw⟩)).guards=some []:=by
 first|exact h|(simp[Around.under,Code.guards,Code.isGuard,guardIds,pushGuards,h])
theorem aX.make {k:Nat} (r:aX (k+1) A) (C:Addr) (us:List Value) (kw:List (Str×Value)):aX k (A.under (.builtin "type.__call__" ⟨.ref C::us,kw⟩)):=
 ⟨r.hd,by have:=r.dp;rw[PD];omega,by have:=r.un;rw[PF];omega,O9 r.gd⟩
theorem aX.depth {k:Nat} (r:aX k A):A.depth < recursionLimit:=by have:=r.dp;omega
theorem aX.units {k:Nat} (r:aX k A):A.units+64 < cLine:=by have:=r.un;omega
def JI:TA:=fun _ H Q=>Q [] H
def U9 (ta:TE) (tr:TA):TA:=fun σ H Q=>ta σ H fun x H1=>tr σ H1 fun xs H2=>Q (x::xs) H2
section
variable{t:TA}
theorem ah:PA X [] JI:=fun _ _ _ _ H Q I h=>Calls.spliced_nil ⟨[],H,I,.nil,h⟩
theorem aa (ha:PE X e te) (hr:PA X es t) (hs:starEach (e::es) X.env=(false,eval e X.env)::starEach es X.env:=by rfl):PA X (e::es) (U9 te t):=by
 intro pos pins s σ H Q I h;rw[hs];show wpAny _ _ (spliced ((false,eval e X.env)::backTo pos (starEach es X.env))) _ _ s;refine Calls.spliced_cons (ao (ha pins s σ H _ I h) fun u s1 ⟨x,H1,I1,r1,q1⟩=>?_);exact ao (hr pos pins s1 σ H1 _ I1 q1) fun us s2 ⟨xs,H2,I2,r2,q2⟩=>⟨x::xs,H2,I2,.cons r1 r2,q2⟩
def Wy (t:TA):TE:=fun σ H Q=>t σ H fun xs H1=>xs.length<=sizeLine /\ ∀p,H1 p=none->Q (.ref p) (upd H1 p (.tup xs))
def Wz (t:TA):TE:=fun σ H Q=>t σ H fun xs H1=>xs.length<=sizeLine /\ ∀p,H1 p=none->Q (.ref p) (upd H1 p (.lst xs))
theorem cw {x1} (h:PA X es t):PE X (.Tuple es x1 pos) (Wy t):=by
 intro pins s σ H Q I hq;refine wpAny_Tuple_spliced (ao (h pos pins s σ H _ I hq) fun us s1 ⟨xs,H1,I1,r,z,q⟩=>⟨by rw[<-r.length];exact z,?_⟩)
 have hf:H1 s1.heap.objs.size=none:=I1.aj.fresh (aO _);refine⟨.ref s1.heap.objs.size,upd H1 s1.heap.objs.size (.tup xs),I1.laid (t':=s1.toks) (fun b u e=>bj _ e) (aO _) ?_,rfl,q _ hf⟩;exact⟨z,us,r,⟨_,cK _ rfl,rfl,_,rfl,rfl⟩⟩
theorem fX (h:PA X es t):PE X (.List es pos) (Wz t):=by
 intro pins s σ H Q I hq;refine wpAny_List_spliced (ao (h pos pins s σ H _ I hq) fun us s1 ⟨xs,H1,I1,r,z,q⟩=>⟨by rw[<-r.length];exact z,?_⟩)
 have hf:H1 s1.heap.objs.size=none:=I1.aj.fresh (aO _);refine⟨.ref s1.heap.objs.size,upd H1 s1.heap.objs.size (.lst xs),I1.laid (t':=s1.toks) (fun b u e=>bj _ e) (aO _) ?_,rfl,q _ hf⟩;exact⟨z,us,0,r,cK _ rfl⟩
end
abbrev Sp:=List V->Hp->VK->XK->Prop
end L2
variable{sp:L2.Sp}
namespace L2
open PySem PySem.Spec PyProof.Rows
abbrev iG:=List Env->Hp->Shared->XK->Value->Shared->Prop
structure nM (P:Program) (w:World) (K:PySem.W.Frag) (mg:Str->Option Value) (base:Heap) (A:Around) (outer:List Env) (s:Shared) (H:Hp):Prop where
 frames:A.frames=some outer
 mod:Mod K mg base
 bs:∀b o,base.get? b=some o->s.heap.get? b=some o/\H b=none
 jj:base.objs.size<=s.heap.objs.size
 gD:s.heap.FunFrames base outer
 jQ:∀b∈d9 outer,H b=none
 aj:b3 P w H s.heap
 bare:AllBare s.gens
def CE (outer:List Env) (P:Program) (w:World) (H:Hp) (s:Shared) (Q:VK) (u:Value) (s':Shared):Prop:=
 ∃v H',s'.os=s.os/\AllBare s'.gens/\Un (d9 outer) [] H H' s.heap s'.heap/\b3 P w H' s'.heap/\RelV v u/\Q v H'
def CR (CX:iG) (outer:List Env) (P:Program) (w:World) (H:Hp) (s:Shared) (Q:VK) (E:XK) (r:Result) (s':Shared):Prop:=
 match r with
 |.ok (.ret u)=>CE outer P w H s Q u s'
 |.ok _=>False
 |.error e=>CX outer H s E e s'
structure aU (P:Program) (w:World) (K:PySem.W.Frag) (mg:Str->Option Value) (base:Heap) (CX:iG) (k:Nat) (f:Addr) (fd:FuncData) (ps:List Str) (sp:Sp):Prop where
 len:∀vs H Q E,sp vs H Q E->vs.length=ps.length
 run:∀ (A:Around) (outer:List Env) (s:Shared) (H:Hp) (args:Args) (us:List Value) (vs:List V) (Q:VK) (E:XK),aX k A->nM P w K mg base A outer s H->BindsTo s fd args (ps.zip us)->Vals vs us->sp vs H Q E ->
  codeAny (model P w) A (.call (.ref f) args) (CR CX outer P w H s Q E) s
theorem nM.make (e:nM P w K mg base A outer s H) (C:Addr) (us:List Value) (kw:List (Str×Value)) :
  nM P w K mg base (A.under (.builtin "type.__call__" ⟨.ref C::us,kw⟩)) outer s H:=⟨by first|exact e.frames|(simpa [Around.under,Code.envs,Code.isFrame,pushEnvs] using e.frames),e.mod,e.bs,e.jj,e.gD,e.jQ,e.aj,e.bare⟩
theorem Inv.wY (I:Inv X pins σ H s):nM X.prog X.w X.K X.mg X.base X.A X.stack s H:=
 ⟨I.ok.frames,I.ok.mod,I.bs,gQ I.ok.jj I.sz,I.stack,I.Aw,I.aj,I.bare⟩
theorem Inv.after {Q:VK} (I:Inv X pins σ H s) (h:CE X.stack X.prog X.w H s Q u s'):EP X pins σ Q u s':=by
 obtain⟨v,H',os,bare,un,aj,r,q⟩:=h;obtain⟨hh,g,d,t,C6⟩:=s';obtain rfl:C6=s.os:=os;exact⟨v,H',I.call (h':=hh) (g':=g) (d':=d) (t':=t) (ch:= []) un aj bare (fun b z=>absurd z (by simp)),r,q⟩
def Bc (sp:Sp) (eg:List V) (E:XK) (t:TA):TE:=fun σ H Q=>t σ H fun vs H1=>sp (vs++eg) H1 Q E
def Jf (C:Addr) (m:Str) (sp:Sp) (eg:List V) (E:XK) (ta:TE) (t:TA):TE:=fun σ H Q=>ta σ H fun x H1=>∃a dx fs,x = .ref a/\H1 a=some (.ins C dx fs)/\fs.lookup m=none /\
 t σ H1 fun vs H2=>sp (x::(vs++eg)) H2 Q E
def U' (C:Addr) (sp:Sp) (eg:List V) (E:XK) (t:TA):TE:=fun σ H Q=>t σ H fun vs H1=>∀x dx,H1 x=none->H1 dx=none->dx≠x ->
 sp (.ref x::(vs++eg)) (upd (upd H1 dx (.own x)) x (.ins C dx [])) (fun v H2=>v = .aH/\Q (.ref x) H2) E
def Binds (K:PySem.W.Frag) (fd:FuncData) (ps:List Str) (ds:List Value):Prop:=
 ∀ (s:Shared) (us:List Value),K.In s.heap->(us++ds).length=ps.length->BindsTo s fd ⟨us,[]⟩ (ps.zip (us++ds))
theorem Binds.all (h:∀us:List Value,us.length=ps.length->bindArgs fd ⟨us,[]⟩=pure (ps.zip us)):Binds K fd ps []:=fun s us _ hl=>by
 rw[iw]at hl ⊢;exact .of_eq (h us hl)
def Passes (CX:iG) (X:Cx) (E:XK):Prop:= ∀ (pins:List (Addr×Obj)) (σ:St) (H:Hp) (s:Shared) (e:Value) (s':Shared),Inv X pins σ H s->CX X.stack H s E e s'->X.xe e s'
section
variable{CX:iG}{k:Nat}{eg:List V}{ds:List Value}{E:XK}{m:Str}{p:Pos}{o:Expr}{t:TA}
theorem AW {Q:VK} (F:aU X.prog X.w X.K X.mg X.base CX k f fd ps sp) (hr:aX k X.A) (hb:Binds X.K fd ps ds) (hd:Vals eg ds) (hx:Passes CX X E)
  (I:Inv X pins σ H s) (r:Vals vs us) (h:sp (vs++eg) H Q E):wpAny (model X.prog X.w) X.A (call (.ref f) us) (EP X pins σ Q) X.xe s:=by
 have r2:Vals (vs++eg) (us++ds):=r.append hd;have hl:(us++ds).length=ps.length:=by rw[<-r2.length];exact F.len _ _ _ _ h
 refine oW (vb (F.run X.A X.stack s H ⟨us,[]⟩ (us++ds) (vs++eg) Q E hr I.wY (hb s us I.bB hl) r2 h) fun r s' hq=>?_);cases r with
 |error e=>exact hx pins σ H s e s' I hq
 |ok fl =>
  cases fl with
  |ret u=>exact I.after hq
  |next=>exact False.elim hq
  |brk=>exact False.elim hq
  |cont=>exact False.elim hq
theorem gU (F:aU X.prog X.w X.K X.mg X.base CX k f fd ps sp) (hr:aX k X.A) (hg:Gl X x) (hm:X.mg x=some (.ref f)) (hk:PySem.W.keepIn X.K (.ref f)=true) (hb:Binds X.K fd ps ds) (hd:Vals eg ds) (hx:Passes CX X E)
  (ha:PA X (e::es) t) (cq:(x==("__debug__" : Str))=false:=by decide) (he:starEach (e::es) X.env=(false,eval e X.env)::starEach es X.env:=by rfl) (cF:(backTo pos (starEach es X.env)).any (·.1)=false:=by rfl) :
  PE X (.Call (.Name x p) (e::es) [] pos) (Bc sp eg E t):=by
 intro pins s σ H Q I h;refine rg (pI I hg hm ?_ cq);refine N2 (h₀:=X.base) I.ok.mod.og hk (ao (ha pos pins s σ H _ I h) fun us s1 ⟨vs,H1,I1,r,q⟩=>⟨I1.bB,?_⟩) he cF;exact AW F hr hb hd hx I1 r q
theorem vS {pl:Sem Bool} (he:PE X o ta) (c:iF X.K C) (hm:Meth X.K C m f) (F:aU X.prog X.w X.K X.mg X.base CX k f fd ps sp) (hr:aX k X.A) (hb:Binds X.K fd ps ds) (hd:Vals eg ds) (hx:Passes CX X E) (ha:PA X (e::es) t)
  (jl:starEach (e::es) X.env=(false,eval e X.env)::starEach es X.env:=by rfl) (cF:(backTo pos (starEach es X.env)).any (·.1)=false:=by rfl)
  (ht:eval (.Call (.Attribute o m apos) (e::es) [] pos) X.env=(do
   let ov <- eval o X.env
   standAt apos.atName
   let (f,first) <- holding [ov] (getMethod ov m pl)
   callWith pos f first (backTo pos (starEach (e::es) X.env)) (backToKw pos (keywordEach [] X.env))):=by rfl) :
  PE X (.Call (.Attribute o m apos) (e::es) [] pos) (Jf C m sp eg E ta t):=by
 intro pins s σ H Q I h;refine afg (pl:=pl) (ao (he pins s σ H _ I h) fun u s1 ⟨x,H1,I1,rx,a,dx,fs,ex,ea,l,q⟩=>?_) ht;subst ex;obtain rfl:u=Value.ref a:=rx;refine F7 I1 ea c hm l ?_;refine N2 (first:= [.ref a]) (h₀:=X.base) I.ok.mod.og hm.kp (ao (ha pos pins s1 σ H1 _ I1 q) fun us s2 ⟨vs,H2,I2,r,q2⟩=>⟨I2.bB,?_⟩) jl cF;exact AW (us:= .ref a::us) (vs:= .ref a::vs) F hr hb hd hx I2 (.cons rfl r) q2
theorem Rj {pl:Sem Bool} (he:PE X o ta) (c:iF X.K C) (hm:Meth X.K C m f) (F:aU X.prog X.w X.K X.mg X.base CX k f fd ps sp) (hr:aX k X.A) (hb:Binds X.K fd ps ds) (hd:Vals eg ds) (hx:Passes CX X E)
  (ht:eval (.Call (.Attribute o m apos) [] [] pos) X.env=(do
   let ov <- eval o X.env
   standAt apos.atName
   let (f,first) <- holding [ov] (getMethod ov m pl)
   callWith pos f first (backTo pos (starEach [] X.env)) (backToKw pos (keywordEach [] X.env))):=by rfl) :
  PE X (.Call (.Attribute o m apos) [] [] pos) (Jf C m sp eg E ta JI):=by
 intro pins s σ H Q I h;refine afg (pl:=pl) (ao (he pins s σ H _ I h) fun u s1 ⟨x,H1,I1,rx,a,dx,fs,ex,ea,l,q⟩=>?_) ht;subst ex;obtain rfl:u=Value.ref a:=rx;refine F7 I1 ea c hm l ?_;exact PySem.W.callWith_K0 (first:= [.ref a]) I1.bB hm.kp (AW (us:= [.ref a]) (vs:= [.ref a]) F hr hb hd hx I1 (.cons rfl .nil) q)
structure Mk (K:PySem.W.Frag) (C f:Addr):Prop where
 makes:PySem.W.makesIn K C=true
 init:PySem.W.findIn K (.ref C) "__init__" = some (some (.ref f))
 fn:PySem.W.isFn K (.ref f)=true
 kp:PySem.W.keepIn K (.ref C)=true
theorem Rk {Q:VK} (M:Mk X.K C f) (F:aU X.prog X.w X.K X.mg X.base CX k f fd ps sp) (hr:aX (k+1) X.A) (hb:Binds X.K fd ps ds) (hd:Vals eg ds)
  (hx:Passes CX X E) (I:Inv X pins σ H s) (r:Vals vs us)
  (h:∀x dx,H x=none->H dx=none->dx≠x->sp (.ref x::(vs++eg)) (upd (upd H dx (.own x)) x (.ins C dx [])) (fun v H2=>v = .aH/\Q (.ref x) H2) E) :
  wpAny (model X.prog X.w) X.A (call (.ref C) us) (EP X pins σ Q) X.xe s:=by
 have hq:=h (s.heap.objs.size+1) s.heap.objs.size (I.aj.fresh (j9 _)) (I.aj.fresh (aO _)) (bX (Nat.lt_succ_self _));have I2:=Inv.made (C:=C) I;have r2:Vals (V.ref (s.heap.objs.size+1)::(vs++eg)) (Value.ref (s.heap.objs.size+1)::(us++ds)):= .cons rfl (r.append hd);have hl:(Value.ref (s.heap.objs.size+1)::us++ds).length=ps.length:=by
  have e:=r2.length;rw[F.len _ _ _ _ hq]at e;exact e.symm
 refine oW (Ri (f:=f) I.bB M.makes M.init (dX.mp M.fn) (vb (F.run _ X.stack _ _ ⟨Value.ref (s.heap.objs.size+1)::us,[]⟩ (Value.ref (s.heap.objs.size+1)::(us++ds)) _ _ E (hr.make C us [])
  (I2.wY.make C us []) (hb _ (Value.ref (s.heap.objs.size+1)::us) I2.bB hl) r2 hq) fun r s' iH=>?_))
 cases r with
 |error e=>exact hx pins σ _ _ e s' I2 iH
 |ok fl =>
  cases fl with
  |ret u =>
   obtain⟨v,H',I3,rv,ev,q3⟩:=I2.after iH;subst ev;exact⟨rv,⟨V.ref (s.heap.objs.size+1),H',I3,rfl,q3⟩⟩
  |next=>exact False.elim iH
  |brk=>exact False.elim iH
  |cont=>exact False.elim iH
theorem Ii (M:Mk X.K C f) (F:aU X.prog X.w X.K X.mg X.base CX k f fd ps sp) (hr:aX (k+1) X.A) (hg:Gl X x) (hm:X.mg x=some (.ref C)) (hb:Binds X.K fd ps ds) (hd:Vals eg ds) (hx:Passes CX X E)
  (ha:PA X (e::es) t) (cq:(x==("__debug__" : Str))=false:=by decide) (he:starEach (e::es) X.env=(false,eval e X.env)::starEach es X.env:=by rfl) (cF:(backTo pos (starEach es X.env)).any (·.1)=false:=by rfl) :
  PE X (.Call (.Name x p) (e::es) [] pos) (U' C sp eg E t):=by
 intro pins s σ H Q I h;refine rg (pI I hg hm ?_ cq);refine N2 (h₀:=X.base) I.ok.mod.og M.kp (ao (ha pos pins s σ H _ I h) fun us s1 ⟨vs,H1,I1,r,q⟩=>⟨I1.bB,?_⟩) he cF;exact Rk M F hr hb hd hx I1 r q
end
structure bx (N P:List Str) (sc:Scope):Prop where
 kind:sc.kind = .function
 co:sc.isCoroutine=false
 gen:sc.isGenerator=false
 nd:N.Nodup
 pre:N.take P.length=P
 par:∀x∈P,sc.names.lookup x=some .local\/sc.names.lookup x=some .cell
 Ub:∀y∈sc.names,y.2 ≠ .free
theorem Gx {kindOf:Str->Option NameKind}{x:Str}:∀ {binds:List (Str×Value)}{m:Str->Option Value},(∀v,(x,v) ∉ binds)->bindL kindOf binds m x=m x
 |[],_,_=>rfl
 |(n,v)::r,m,h=>by
  unfold bindL;rw[Gx fun w hw=>h w (bU _ hw)];split
  ·have:x≠n:=by rintro rfl;exact h v br
   simp[this]
  ·rfl
theorem Gy {kindOf:Str->Option NameKind}{x:Str}:∀ {binds:List (Str×Value)}{m:Str->Option Value},(∀v,(x,v) ∉ binds)->bindC kindOf binds m x=m x
 |[],_,_=>rfl
 |(n,v)::r,m,h=>by
  unfold bindC;rw[Gy fun w hw=>h w (bU _ hw)];split
  ·rfl
  ·have:x≠n:=by rintro rfl;exact h v br
   simp[this]
theorem Gz {kindOf:Str->Option NameKind}{x:Str}{v:Value}:∀ {P:List Str}{vs:List Value}{i:Nat}{m:Str->Option Value},P.Nodup->P[i]? = some x->vs[i]? = some v->kindOf x=some .local ->
  bindL kindOf (P.zip vs) m x=some v
 |[],_,_,_,_,h,_,_=>by simp at h
 |_::_,[],_,_,_,_,h,_=>by simp at h
 |p::P,w::vs,0,m,nd,h1,h2,hk=>by
  simp at h1 h2;subst h1;subst h2;show bindL kindOf ((p,w)::P.zip vs) m p=_;unfold bindL;rw[Gx fun v hv=>(gR.mp nd).1 (N3 hv).1,aB hk];simp
 |p::P,w::vs,i+1,m,nd,h1,h2,hk=>by
  show bindL kindOf ((p,w)::P.zip vs) m x=_;unfold bindL;exact Gz (i:=i) (gR.mp nd).2 (by simpa using h1) (by simpa using h2) hk
theorem GH {kindOf:Str->Option NameKind}{x:Str}{v:Value}:∀ {P:List Str}{vs:List Value}{i:Nat}{m:Str->Option Value},P.Nodup->P[i]? = some x->vs[i]? = some v->kindOf x≠some .local ->
  bindC kindOf (P.zip vs) m x=some v
 |[],_,_,_,_,h,_,_=>by simp at h
 |_::_,[],_,_,_,_,h,_=>by simp at h
 |p::P,w::vs,0,m,nd,h1,h2,hk=>by
  simp at h1 h2;subst h1;subst h2;show bindC kindOf ((p,w)::P.zip vs) m p=_;unfold bindC;rw[Gy fun v hv=>(gR.mp nd).1 (N3 hv).1,ar hk];simp
 |p::P,w::vs,i+1,m,nd,h1,h2,hk=>by
  show bindC kindOf ((p,w)::P.zip vs) m x=_;unfold bindC;exact GH (i:=i) (gR.mp nd).2 (by simpa using h1) (by simpa using h2) hk
def start (N:List Str) (vs:List V):St:=vs.map some++List.replicate (N.length - vs.length) none
def fh (CX:iG) (P:Program) (w:World) (K:PySem.W.Frag) (mg:Str->Option Value) (base:Heap) (N:List Str) (qual:Str) (scope:Scope) (f:Addr) (cd:Value) (A:Around) (outer:List Env) (s:Shared) (H:Hp) (E:XK):Cx where
 prog:=P
 w:=w
 K:=K
 mg:=mg
 base:=base
 A:=A.deeper (envOfC qual scope s.heap.objs.size f cd)
 N:=N
 cT:=s
 iR:=H
 env:=envOfC qual scope s.heap.objs.size f cd
 outer:=outer
 stack:=envOfC qual scope s.heap.objs.size f cd::outer
 ex:= []
 calm:=true
 fn:=fun _=>true
 pn:= []
 xe:=fun e s'=>wpAny (model P w) (A.deeper (envOfC qual scope s.heap.objs.size f cd)) (leaving (envOfC qual scope s.heap.objs.size f cd) e) (fun _ tO=>CX outer H s E e tO) (fun e' tO=>CX outer H s E e' tO) s'
theorem Af {n:Nat} (h:sc.names.lookup x=some .cell):∃c,(cellsFrom n sc.names []).lookup x=some c:=by
 have q:=afh sc.names n [] (.inl h);exact E9.mp q
theorem Qo {CX:iG}{E:XK}
  (S:bx N ps scope) (hd:A.handled=none) (e0:nM P w K mg base A outer s H) (hl:vs.length=ps.length) (r:Vals vs us)
  (x:InCallC s s.heap.objs.size (bindL (envOfC qual scope s.heap.objs.size f cd).kindOf (ps.zip us) fun _=>none) (cellsFrom (s.heap.objs.size+1) scope.names []) (bindC (envOfC qual scope s.heap.objs.size f cd).kindOf (ps.zip us) fun _=>none) s1) :
  Inv (fh CX P w K mg base N qual scope f cd A outer s H E) [] (start N vs) H s1:=by
 have cF:ps.length<=N.length:=by have:=d7 List.length S.pre;rw[c8]at this;omega
 obtain⟨h1,tk,rfl,hk⟩:=x.done;have tP:∀b:Addr,b ∉ (fh CX P w K mg base N qual scope f cd A outer s H E).ex:=fun b z=>absurd (show b∈([]:List Addr) from z) (by simp)
 refine⟨⟨e0.mod,S.kind,rfl,rfl,aO _,fun y z c h1 h2=>?_,fun y hy=>?_,fun y c _ h=>?_,fun _=>hd,Around.frames_deeper e0.frames,.inr ⟨rfl,rfl⟩,fun b z=>absurd z (tP b),e0.bs,e0.jj,fun b _ _=>tP b,fun b z=>absurd z (tP b),e0.gD,e0.jQ⟩,
  rfl,e0.bare,Un.kept hk,⟨_,x.toInCall.ns,fun i y v h1 h2 h3=>?_⟩,fun y c h=>⟨_,x.cell y c h⟩,e0.aj.fresh (aO _),fun y c h=>?_,fun p hp=>absurd (show p∈([]:List (Addr×Obj)) from hp) (by simp),e0.aj.kept hk,?_⟩
 ·exact name_of_addr x.apart (kZ h1) (kZ h2)
 ·have hy:scope.names.lookup y=some .cell\/scope.names.lookup y=some .free:=hy
  rcases hy with hy|hy
  ·exact Af hy
  ·exact absurd rfl (S.Ub _ (kZ hy))
 ·exact u9 (x.above y c (kZ h))
 ·have hi:i < vs.length:=by
   unfold start at h2
   by_cases hi:i < vs.length
   ·exact hi
   ·rw[List.getElem?_append_right (by simpa using hi)]at h2
    rw[List.getElem?_replicate]at h2;split at h2 <;> cases h2
  have ha:vs[i]? = some v:=by
   unfold start at h2;rw[List.getElem?_append_left (by simpa using hi),gS]at h2
   cases e:vs[i]? with
   |none=>rw[e]at h2;cases h2
   |some a=>rw[e]at h2;cases h2;rfl
  obtain⟨u,hu,rv⟩:=r.get ha;have hp:ps[i]? = some y:=by
   rw[<-S.pre,List.getElem?_take_of_lt (by omega)];exact h1
  have Lo:ps.Nodup:=by rw[<-S.pre];exact S.nd.sublist (mU _ _)
  refine⟨u,rv,?_⟩;rcases S.par y (ix hp) with k|k
  ·exact .inl ⟨k,Gz Lo hp hu k⟩
  ·obtain⟨c,e⟩:=Af (n:=s.heap.objs.size+1) k
   refine .inr ⟨.inl k,c,e,?_⟩;have q:=x.cell y c e;rw[GH Lo hp hu (by show scope.names.lookup y≠_;rw[k];decide)]at q
   exact q
 ·exact e0.aj.fresh (u9 (x.above y c (kZ h)))
 ·unfold start
  show _=N.length;rw[e7,aJ,afi];omega
theorem Bd {CX:iG}{k:Nat}{params:Arguments}{dV kV:Value} (lk:K.lookup f=some ⟨oc,od,.func (PySem.W.fnOf name qual params body scope dV kV doc pm an aF ct),g7⟩) (ee:PySem.W.codeIn K aF qual=true) (S:bx N ps scope)
  (len:∀vs H Q E,sp vs H Q E->vs.length=ps.length)
  (nH:∀ (A:Around) (outer:List Env) (s:Shared) (H:Hp) (vs:List V) (Q:VK) (E:XK),aX k (A.deeper (envOfC qual scope s.heap.objs.size f aF))->sp vs H Q E ->
   ∃t,dH (fh CX P w K mg base N qual scope f aF A outer s H E) body t/\t { nx:=fun _ H'=>Q .aH H',rt:=Q } (start N vs) H) :
  aU P w K mg base CX (k+1) f (PySem.W.fnOf name qual params body scope dV kV doc pm an aF ct) ps sp:=by
 refine⟨len,fun A outer s H args us vs Q E hr e0 hb r f9=>?_⟩;have hl:=len _ _ _ _ f9;have KX:K.In s.heap:=e0.mod.og.keeps fun b o e=>(e0.bs b o e).1;have lim:s.heap.NoLimit:=e0.mod.nolimit.keeps fun b o e=>(e0.bs b o e).1;have Va:∀y∈ps.zip us,scope.names.lookup y.1=some .local\/(scope.names.lookup y.1=some .cell/\((cellsFrom (s.heap.objs.size+1) scope.names []).lookup y.1).isSome=true):=fun⟨n,v⟩ hy=>by
  rcases S.par n (N3 hy).1 with q|q
  ·exact .inl q
  ·exact .inr ⟨q,afh _ _ _ (.inl q)⟩
 refine codeAny_call_function hr.depth (KX _ _ lk) rfl S.co S.gen rfl (PySem.W.codeRec_of KX ee) (hb _ _ _ _ ?_);refine wpAny_newFunctionEnv_cells S.kind Va fun env he s1 x=>?_;subst he;refine⟨lim.keeps x.toInCall.keep,codeAny_func ?_⟩;obtain⟨t,ht,hq⟩:=nH A outer s H vs Q E (hr.deeper _) f9;have I:Inv (fh CX P w K mg base N qual scope f aF A outer s H E) [] (start N vs) H s1:=Qo S hr.hd e0 hl r x;refine j6 (ht [] s1 (start N vs) H _ I hq) (fun fl s' hs=>?_) fun e s' hs=>hs;have fin:∀ {aI:St}{H':Hp}{v:V}{u:Value},Inv (fh CX P w K mg base N qual scope f aF A outer s H E) [] aI H' s'->RelV v u->Q v H'->CE outer P w H s Q u s':=
  fun {aI H' v u} J rv q=>⟨v,H',J.os,J.bare,J.base,J.aj,rv,q⟩
 cases fl with
 |ret u =>
  obtain⟨v,aI,H',J,rv,q⟩:=hs;exact fin J rv q
 |next =>
  obtain⟨aI,H',J,q⟩:=hs;exact fin (v:=V.aH) (u:=Value.none) J rfl q
 |brk =>
  obtain⟨_,_,_,q⟩:=hs;exact False.elim q
 |cont =>
  obtain⟨_,_,_,q⟩:=hs;exact False.elim q
section
variable{p:Pos}{t:TA}{id:String}{r:List V->Hp->VK->Prop}
def Lp (r:List V->Hp->VK->Prop) (t:TA):TE:=fun σ H Q=>t σ H fun vs H1=>r vs H1 Q
theorem cQ (hc:dZ X (.builtin id) r) (hg:Gl X x) (hm:X.mg x=none) (hv:bootBuiltins x=some (.builtin id)) (ha:PA X (e::es) t) (hn:x ≠ "__name__" :=by decide) (cq:(x==("__debug__" : Str))=false:=by decide)
  (he:starEach (e::es) X.env=(false,eval e X.env)::starEach es X.env:=by rfl) (cF:(backTo pos (starEach es X.env)).any (·.1)=false:=by rfl):PE X (.Call (.Name x p) (e::es) [] pos) (Lp r t):=by
 intro pins s σ H Q I h;refine rg (nj I hg hm hv ?_ hn cq);exact N4 (ao (ha pos pins s σ H _ I h) fun us s1 ⟨vs,H1,I1,r1,q1⟩=>hc pins s1 σ H1 vs us Q I1 r1 q1) he cF
theorem fS (hc:dZ X (.type T) r) (hg:Gl X x) (hm:X.mg x=none) (hv:bootBuiltins x=some (.type T)) (ha:PA X (e::es) t) (hn:x ≠ "__name__" :=by decide) (cq:(x==("__debug__" : Str))=false:=by decide)
  (he:starEach (e::es) X.env=(false,eval e X.env)::starEach es X.env:=by rfl) (cF:(backTo pos (starEach es X.env)).any (·.1)=false:=by rfl):PE X (.Call (.Name x p) (e::es) [] pos) (Lp r t):=by
 intro pins s σ H Q I h;refine rg (nj I hg hm hv ?_ hn cq);exact E6 (ao (ha pos pins s σ H _ I h) fun us s1 ⟨vs,H1,I1,r1,q1⟩=>hc pins s1 σ H1 vs us Q I1 r1 q1) he cF
end
end L2
namespace HT
open PySem PyProof.Rows
section
open PySem.SeqAt
open PySem.AutoSeq1 (wpAny_loadPart')
open PySem.MeetsSeq PySem.MeetsSeq2 PySem.MeetsSeq3
end
theorem R7 {t:Addr}{vs ws:List Value} (ht:IsTup s.heap t vs.toArray) (hb:IsTup s.heap b ws.toArray) (hv:vs ≠ [])
  (h1:ws = []->Q (.ref t) s) (h2:ws ≠ []->Q (.ref s.heap.objs.size) { s with heap:=s.heap.push { cls:= .type "tuple",data:= .seq (vs++ws).toArray } })
  (hsz:vs.length+ws.length<=sizeLine):wpAny (model prog w) A (binaryOp .Add (.ref t) (.ref b)) Q E s:=by
 obtain⟨⟨cls,dd,data,sl⟩,ho,hc,n,hd⟩:=id ht;obtain⟨⟨JJ,x8,data2,x9⟩,ip,gI,n2,hd2⟩:=id hb;simp only at hc hd gI hd2;subst hc hd gI hd2;have e:vs.toArray++ws.toArray=(vs++ws).toArray:=by simp
 by_cases hw:ws = []
 ·exact concat_meets ⟨_,ho,rfl⟩ ⟨_,ip,rfl⟩ N6 N7 N8 N9 (Oa _ _)
   (tuple_addW1 t b vs.toArray ws.toArray n n2 dd x8 sl x9 (by simpa using hv) (by simp[hw])) ⟨ho,ip,h1 hw⟩
 ·refine concat_meets ⟨_,ho,rfl⟩ ⟨_,ip,rfl⟩ N6 N7 N8 N9 (Oa _ _)
   (tuple_addW2 t b vs.toArray ws.toArray n n2 dd x8 sl x9 (by simpa using hv) (by simpa using hw) (by rw[cf,cf];exact hsz)) ⟨ho,ip,?_⟩
  rw[e];exact h2 hw
def aY (n d:Nat):Option Int->Nat
 |none=>d
 |some v=>if v < 0 then (v+(n:Int)).toNat else min v.toNat n
theorem Rl (n d:Nat):aY n d none=d:=rfl
theorem R8 (n d k:Nat):aY n d (some (k:Int))=min k n:=by
 show(if (k:Int) < 0 then ((k:Int)+(n:Int)).toNat else min (k:Int).toNat n)=min k n;rw[ar (by omega),Fb]
theorem Uc (n d:Nat) (hd:d<=n) (o:Option Int):aY n d o<=n:=by
 cases o with
 |none=>exact hd
 |some v =>
  show(if v < 0 then (v+(n:Int)).toNat else min v.toNat n)<=n
  by_cases hv:v < 0
  ·rw[aB hv];omega
  ·rw[ar hv];exact Nat.min_le_right _ _
theorem Ij (v:Int) (n d:Nat):(if v < 0 then max (v+(n:Int)) 0 else min v (n:Int))=((aY n d (some v):Nat):Int):=by
 show(if v < 0 then max (v+(n:Int)) 0 else min v (n:Int))=(((if v < 0 then (v+(n:Int)).toNat else min v.toNat n):Nat):Int)
 by_cases hv:v < 0
 ·simp only[aB hv];omega
 ·simp only[ar hv];omega
theorem PH (lo hi:Option Int) (n:Nat):Builtin.Slice.sliceAdjust lo hi 1 (n:Int)=(((aY n 0 lo:Nat):Int),((aY n n hi:Nat):Int)):=by
 have h1 : ¬ ((1:Int) < 0):=by omega
 unfold Builtin.Slice.sliceAdjust;simp only[h1,oX];refine Prod.ext ?_ ?_
 ·cases lo with
  |none=>rfl
  |some v=>exact Ij v n 0
 ·cases hi with
  |none=>rfl
  |some v=>exact Ij v n n
theorem PK (i j:Nat):Builtin.Slice.slicePlaces (i:Int) (j:Int) 1=j - i:=by
 unfold Builtin.Slice.slicePlaces;have h1:(1:Int) > 0:=by omega
 simp only[h1,i9,Int.ediv_one];split <;> omega
theorem F9 {v:Value}{o:Option Int}{Q:Option Int->Shared->Prop} (p:IsPart v o) (h:Q o s):wpAny (model prog w) A (Builtin.Slice.slicePartIndex v) Q E s:=by
 cases p with
 |none=>exact slicePart_none h
 |int i t=>exact slicePart_int h
theorem FK {lo:Option Int}{n:Nat}{Q:Int×Int×Nat->Shared->Prop} (hs:s.heap.IsSliceOf sl vl vu .none) (pl:IsPart vl lo) (pu:IsPart vu hi)
  (h:Q (((aY n 0 lo:Nat):Int),1,aY n n hi - aY n 0 lo) s):wpAny (model prog w) A (Builtin.Slice.sliceApplied (.ref sl) (pure (n:Int))) Q E s:=by
 obtain⟨os,oz,ya,tQ⟩:=id hs;unfold Builtin.Slice.sliceApplied Builtin.Slice.sliceFields;refine af (af (oY oz tQ (x:=vl) rfl (af (oY oz tQ (x:=vu) rfl (af (oY oz tQ (x:= .none) rfl (ax ?_)))))));refine af (slicePart_none ?_);show wpAny _ _ (if ((1:Int)==0)=true then _ else _) _ _ s;rw[ar (by decide)]
 refine af (F9 pl (af (F9 pu (af (ax ?_)))));show wpAny _ _ (match Builtin.Slice.sliceAdjust lo hi 1 (n:Int) with|(lo,hi)=>pure (lo,(1:Int),Builtin.Slice.slicePlaces lo hi 1)) _ _ s;rw[PH lo hi n];show wpAny _ _ (pure (((aY n 0 lo:Nat):Int),(1:Int),Builtin.Slice.slicePlaces ((aY n 0 lo:Nat):Int) ((aY n n hi:Nat):Int) 1)) _ _ s;rw[PK];exact ax h
theorem Rm (xs:Array Value) (i k:Nat):((List.range k).filterMap fun(m:Nat)=>xs[((i:Int)+(m:Int) * 1).toNat]?).toArray=((xs.toList.drop i).take k).toArray:=by
 have e:(fun(m:Nat)=>xs[((i:Int)+(m:Int) * 1).toNat]?)=fun m=>xs[i+m]?:=by
  funext m
  have:((i:Int)+(m:Int) * 1).toNat=i+m:=by omega
  rw[this]
 rw[e];have:=pick_run xs i k;rw[List.filterMap_map]at this;have e2:((fun x=>xs[x]?) ∘ fun x=>i+x)=fun m=>xs[i+m]?:=rfl;rw[e2]at this;rw[this]
theorem OL {t:Addr}{lo:Option Int} (ht:IsTup s.heap t items) (hs:s.heap.IsSliceOf sl vl vu .none) (pl:IsPart vl lo) (pu:IsPart vu hi)
  (hw : ¬ (aY items.size 0 lo=0/\aY items.size items.size hi=items.size))
  (h:Q (.ref s.heap.objs.size) { s with heap:=s.heap.push { cls:= .type "tuple",data:= .seq ((items.toList.drop (aY items.size 0 lo)).take (aY items.size items.size hi - aY items.size 0 lo)).toArray } })
  (hsz:items.size<=sizeLine):wpAny (model prog w) A (getItem (.ref t) (.ref sl)) Q E s:=by
 have wC:sizeOk (.seq ((items.toList.drop (aY items.size 0 lo)).take (aY items.size items.size hi - aY items.size 0 lo)).toArray):=by
  show((items.toList.drop (aY items.size 0 lo)).take (aY items.size items.size hi - aY items.size 0 lo)).toArray.size<=sizeLine;rw[cf,c8,Ob,E4];omega
 have hj:aY items.size items.size hi<=items.size:=Uc _ _ (aO _) hi;obtain⟨os,oz,ya,tQ⟩:=id hs;have C7:s.TypeIs (.ref sl) "slice" :=⟨os,oz,ya⟩;unfold getItem
 try with_reducible refine gw ?_
 first|refine af (ax ?_)|skip
 refine af (wpAny_sequenceKey ht.typeIs (by decide) ?_)
 refine af (Fc (name:=Str.ofString "__getitem__") ht.typeIs vc
  (rh vc ht.typeIs entry_tuple_getitem ?_ (args_tuple_getitem _ _)))
 show wpAny _ _ (Builtin.Tuple.tupleItemsOf (.ref t) >>= _) _ _ s;refine af (tupleItemsOf_ ht ?_);refine af (oZ C7 ?_);rw[aB (by decide)]
 refine af (FK hs pl pu ?_);have eR : ¬ ((((aY items.size 0 lo:Nat):Int)==0 && (1:Int)==1 && (aY items.size items.size hi - aY items.size 0 lo)==items.size)=true):=by
  intro q;rw[k9,k9]at q;have q1:((aY items.size 0 lo:Nat):Int)=0:=eq_of_beq q.1.1;have q2:aY items.size items.size hi - aY items.size 0 lo=items.size:=eq_of_beq q.2;exact hw ⟨by omega,by omega⟩
 show wpAny _ _ (if (((aY items.size 0 lo:Nat):Int)==0 && (1:Int)==1 && (aY items.size items.size hi - aY items.size 0 lo)==items.size)=true then _ else _) _ _ s;rw[ar eR,Rm]
 first
  |exact af (m:=Builtin.Tuple.tupleExact _) (lg (ax ⟨_,rfl,ax h⟩) wC)
  |exact af (m:=Builtin.Tuple.tupleExact _) (lg (af (ax (ax ⟨_,rfl,ax h⟩))) wC)
  |exact af (af (m:=Builtin.Tuple.tupleExact _) (lg (ax (ax ⟨_,rfl,ax h⟩)) wC))
  |exact af (af (m:=Builtin.Tuple.tupleExact _) (lg (ax ⟨_,rfl,ax h⟩) wC))
end HT
namespace L2
open PySem PySem.Spec PyProof.Rows
abbrev TO:=St->Hp->(Option Int->Hp->Prop)->Prop
def PO (X:Cx) (e:Option Expr) (t:TO):Prop:=
 ∀ (pins:List (Addr×Obj)) (s:Shared) (σ:St) (H:Hp) (Q:Option Int->Hp->Prop),Inv X pins σ H s->t σ H Q ->
  wpAny (model X.prog X.w) X.A (evalPart e X.env) (fun u s'=>∃o H',Inv X pins σ H' s'/\IsPart u o/\Q o H') X.xe s
def R9:TO:=fun _ H Q=>Q none H
def Vb (t:TE):TO:=fun σ H Q=>t σ H fun x H1=>∃i,x = .int i/\Q (some i) H1
section
variable{lo hi:Option Expr}{tl th:TO}{p2:Pos}
theorem m7:PO X none R9:=by
 intro pins s σ H Q I h;rw[evalPart_none];exact ax ⟨none,H,I,.none,h⟩
theorem m8 (h:PE X e te):PO X (some e) (Vb te):=by
 intro pins s σ H Q I hw;rw[evalPart_some];refine ao (h pins s σ H _ I hw) fun u s1 ⟨x,H1,I1,r1,q1⟩=>?_;obtain⟨i,rfl,q⟩:=q1;obtain⟨t,rfl⟩:=r1;exact⟨some i,H1,I1,.int i t,q⟩
def qw (X:Cx) (r:V->Option Int->Option Int->Hp->VK->Prop):Prop:=
 ∀ (pins:List (Addr×Obj)) (s:Shared) (σ:St) (H:Hp) (x:V) (v vl vu:Value) (lo hi:Option Int) (sl:Addr) (Q:VK),Inv X pins σ H s->RelV x v->s.heap.IsSliceOf sl vl vu .none->IsPart vl lo->IsPart vu hi->r x lo hi H Q ->
  ∃T id,typeLookup (.type T) "__getitem__" = pure (some (.builtin id))/\s.TypeIs v T/\wpAny (model X.prog X.w) X.A (getItem v (.ref sl)) (EP X pins σ Q) X.xe s
def Y5 (r:V->Option Int->Option Int->Hp->VK->Prop) (te:TE) (tl th:TO):TE:=fun σ H Q=>te σ H fun x H1=>tl σ H1 fun l H2=>th σ H2 fun u H3=>r x l u H3 Q
theorem m3 {r:V->Option Int->Option Int->Hp->VK->Prop} (hr:qw X r) (he:PE X e te) (hl:PO X lo tl) (hu:PO X hi th):PE X (.Subscript e (.Slice lo hi none p2) pos) (Y5 r te tl th):=by
 intro pins s σ H Q I h;refine Subscript_ (ao (he pins s σ H _ I h) fun v s1 ⟨x,H1,I1,r1,q1⟩=>?_);refine wpAny_Slice (ao (hl pins s1 σ H1 _ I1 q1) fun vl s2 ⟨l,H2,I2,pl,q2⟩=>ao (hu pins s2 σ H2 _ I2 q2) fun vu s3 ⟨u,H3,I3,pu,q3⟩=>?_);rw[evalPart_none];refine ax ?_;have I4:Inv X pins σ H3 { s3 with heap:=s3.heap.push { cls:= .type "slice",data:= .fields #[vl,vu,.none] } }:=I3.kept (t':=s3.toks) fun b ob q=>bj _ q;obtain⟨T,id,hT,ht,hg⟩:=hr pins { s3 with heap:=s3.heap.push { cls:= .type "slice",data:= .fields #[vl,vu,.none] } } σ H3 x v vl vu l u s3.heap.objs.size Q I4 r1 (Heap.IsSliceOf.new ..) pl pu q3;show wpAny (model X.prog X.w) X.A (subscriptTail e (.Slice lo hi none p2) v (.ref s3.heap.objs.size)) (EP X pins σ Q) X.xe { s3 with heap:=s3.heap.push { cls:= .type "slice",data:= .fields #[vl,vu,.none] } };exact tail_any (ops:= [.ref s3.heap.objs.size,v]) ht hT hg (by with_unfolding_all rfl)
def gX (xs:List V) (lo hi:Option Int):List V:=(xs.drop (HT.aY xs.length 0 lo)).take (HT.aY xs.length xs.length hi - HT.aY xs.length 0 lo)
theorem FZ (xs:List V) (lo hi:Option Int):(gX xs lo hi).length<=xs.length:=by
 unfold gX;rw[c8,Ob];omega
def WA (K:PySem.W.Frag):V->Option Int->Option Int->Hp->VK->Prop:=fun x lo hi H Q=>∃a xs,x = .ref a/\aG K H a xs /\
 ¬ (HT.aY xs.length 0 lo=0/\HT.aY xs.length xs.length hi=xs.length) /\ ∀p,H p=none->Q (.ref p) (upd H p (.tup (gX xs lo hi)))
theorem Ud:qw X (WA X.K):=by
 intro pins s σ H x v vl vu lo hi sl Q I rx hs pl pu h;obtain⟨a,xs,rfl,hx,hw,q⟩:=h;cases rx
 obtain⟨its,r,ht,hz⟩:=I.tuple hx;have hlen:its.toArray.size=xs.length:=by rw[cf];exact r.length.symm
 refine⟨"tuple",_,vc.lookup,ht.typeIs,?_⟩;refine HT.OL ht hs pl pu (by rw[hlen];exact hw) ?_ (by rw[hlen];exact hz)
 rw[hlen];refine⟨.ref s.heap.objs.size,_,I.laid (t':=s.toks) (o:= .tup (gX xs lo hi)) (fun b ob q=>bj _ q) (aO _) ?_,rfl,q _ (I.aj.fresh (aO _))⟩;exact⟨gQ (FZ xs lo hi) hz,_,(r.drop (HT.aY xs.length 0 lo)).take (HT.aY xs.length xs.length hi - HT.aY xs.length 0 lo),kB.new _ _⟩
def Vc (K:PySem.W.Frag):R2:=fun x y H Q=>∃a b xs ys,x = .ref a/\y = .ref b/\aG K H a xs/\aG K H b ys/\xs ≠ []/\xs.length+ys.length<=sizeLine /\
 (ys = []->Q (.ref a) H)/\(ys ≠ [] -> ∀p,H p=none->Q (.ref p) (upd H p (.tup (xs++ys))))
theorem Vals.Ax (r:Vals xs us):us = [] ↔ xs = []:=by
 cases r with
 |nil=>simp
 |cons _ _=>simp
theorem R':b6 X (binaryOp .Add) (Vc X.K):=by
 intro pins s σ H x y v u Q I rx ry h;obtain⟨a,b,xs,ys,rfl,rfl,ha,hb,hx,hz,q1,q2⟩:=h;cases rx
 cases ry
 obtain⟨its,r1,p1,_⟩:=I.tuple ha;obtain⟨wZ,r2,p2,_⟩:=I.tuple hb;refine HT.R7 p1 p2 (fun z=>hx (r1.Ax.mp z)) (fun z=>⟨.ref a,H,I,rfl,q1 (r2.Ax.mp z)⟩) (fun z=>?_) (by rw[<-r1.length,<-r2.length];exact hz)
 refine⟨.ref s.heap.objs.size,_,I.laid (t':=s.toks) (o:= .tup (xs++ys)) (fun b ob q=>bj _ q) (aO _) ?_,rfl,q2 (fun w=>z (r2.Ax.mpr w)) _ (I.aj.fresh (aO _))⟩;exact⟨by rw[e7];exact hz,_,r1.append r2,kB.new _ _⟩
end
def oA (n:Nat) (i:Int):Option Nat:=if 0<=i then (if i < n then some i.toNat else none) else if -(n:Int)<=i then some (i+n).toNat else none
def c7 {α:Type} (xs:List α) (i:Int):Option α:=(oA xs.length i).bind fun j=>xs[j]?
theorem Ik {n:Nat}{i:Int} (h:oA n i=some j):seqIndex? i n=some j/\j < n /\ -(n:Int)<=i/\i < n:=by
 unfold oA at h
 by_cases h0:0<=i
 ·rw[aB h0]at h
  by_cases h1:i < n
  ·rw[aB h1]at h
   have e:i.toNat=j:=eF h;exact⟨by rw[Fd h0 h1,e],by omega,by omega,h1⟩
  ·rw[ar h1]at h;cases h
 ·rw[ar h0]at h
  by_cases h1 : -(n:Int)<=i
  ·rw[aB h1]at h
   have e:(i+n).toNat=j:=eF h;exact⟨by rw[seqIndex_neg (by omega) h1,e],by omega,h1,by omega⟩
  ·rw[ar h1]at h;cases h
theorem Ay {α:Type}{xs:List α}{i:Int}{v:α} (h:c7 xs i=some v):∃j,seqIndex? i xs.length=some j/\xs[j]? = some v/\j < xs.length /\ -(xs.length:Int)<=i/\i < xs.length:=by
 unfold c7 at h;cases e:oA xs.length i with
 |none=>rw[e]at h;cases h
 |some j =>
  rw[e]at h;obtain⟨h1,h2,h3,h4⟩:=Ik e;exact⟨j,h1,h,h2,h3,h4⟩
theorem cW {α:Type}{xs:List α}{v:α} (h:xs[j]? = some v):c7 xs (j:Int)=some v:=by
 have hj:j < xs.length:=(b4.mp h).1;have e:oA xs.length (j:Int)=some j:=by
  unfold oA;rw[aB (by omega),aB (by omega)];simp
 unfold c7;rw[e];exact h
def Sg (b:Expr):Prop:= ∀o i,subscripted b false o i=operate [o,i] (getItem o i)
def qx (X:Cx) (r:R2):Prop:=
 ∀ (value slice:Expr) (pins:List (Addr×Obj)) (s:Shared) (σ:St) (H:Hp) (x y:V) (v u:Value) (Q:VK),Inv X pins σ H s->RelV x v->RelV y u->r x y H Q ->
  subscripted slice false v u=operate [v,u] (getItem v u)->wpAny (model X.prog X.w) X.A (subscriptTail value slice v u) (EP X pins σ Q) X.xe s
def Lq (X:Cx) (id:String) (r:V->List V->Hp->VK->Prop):Prop:=
 ∀ (pins:List (Addr×Obj)) (s:Shared) (σ:St) (H:Hp) (x:V) (xs:List V) (v:Value) (us:List Value) (Q:VK),Inv X pins σ H s->RelV x v->Vals xs us->r x xs H Q ->
  wpAny (model X.prog X.w) X.A (call (.builtin id) (v::us)) (EP X pins σ Q) X.xe s
section
variable{a b:Expr}{tb:TE}
theorem bo {r:R2} (hr:qx X r) (ha:PE X a ta) (hb:PE X b tb) (hs:Sg b):PE X (.Subscript a b pos) (xY r ta tb):=by
 intro pins s σ H Q I h;exact Subscript_ (BA ha hb I h fun v u s2 x y H2 I2 rx ry q=>hr a b pins s2 σ H2 x y v u Q I2 rx ry q (hs _ _))
def JK (K:PySem.W.Frag):R2:=fun x y H Q=>∃p xs i v,x = .ref p/\y = .int i/\ai K H p xs/\c7 xs i=some v/\Q v H
def JL (K:PySem.W.Frag):R2:=fun x y H Q=>∃p xs i v,x = .ref p/\y = .int i/\aG K H p xs/\c7 xs i=some v/\Q v H
def WB:R2:=fun x y H Q=>∃z i c,x = .str z/\y = .int i/\z.length<=sizeLine/\c7 z.cps.toList i=some c/\Q (.str ⟨#[c]⟩) H
theorem fc:qx X (JK X.K):=by
 intro value slice pins s σ H x y v u Q I rx ry h hs;obtain⟨p,xs,i,z,rfl,rfl,hq,he,q⟩:=h;cases rx
 obtain⟨t,rfl⟩:=ry;obtain⟨its,r,pl,hz⟩:=I.list hq;obtain⟨j,h1,h2,h3,h4,h5⟩:=Ay he;obtain⟨w,ew,iq⟩:=r.get h2;have hl:=r.length;have hn:=nv;have fin:EP X pins σ Q w s:=⟨z,H,I,iq,q⟩
 by_cases h0:0<=i
 ·have hj:i.toNat=j:=by
   rw[Fd h0 h5]at h1;exact eF h1
  exact item_listR pl.isList h0 (by omega) (by rw[hj];simpa using ew) fin hs
 ·have hj:(i+(its.toArray.size:Int)).toNat=j:=by
   rw[seqIndex_neg (by omega) h4]at h1
   rw[cf,<-hl];exact eF h1
  exact subscriptTail_builtinR (x:=w) pl.isList.typeIs slot_list_getitem.lookup
   (wpAny_getItem_list_neg (Q:=fun r s'=>r=w/\EP X pins σ Q r s') pl.isList (by omega) (by rw[cf] <;> omega) (by omega) (by rw[hj];simpa using ew) ⟨rfl,fin⟩) hs
theorem cX:qx X (JL X.K):=by
 intro value slice pins s σ H x y v u Q I rx ry h hs;obtain⟨p,xs,i,z,rfl,rfl,hq,he,q⟩:=h;cases rx
 obtain⟨t,rfl⟩:=ry;obtain⟨its,r,pl,hz⟩:=I.tuple hq;obtain⟨j,h1,h2,h3,h4,h5⟩:=Ay he;obtain⟨w,ew,iq⟩:=r.get h2;have hl:=r.length;have hn:=nv;have fin:EP X pins σ Q w s:=⟨z,H,I,iq,q⟩;exact subscriptTail_builtinR (x:=w) pl.typeIs slot_tuple_getitem.lookup
  (getItem_tuple (j:=j) (Q:=fun r s'=>r=w/\EP X pins σ Q r s') pl (by omega) (by omega) (by rw[cf,<-hl];exact h1) (by simpa using ew) ⟨rfl,fin⟩) hs
theorem IM:qx X WB:=by
 intro value slice pins s σ H x y v u Q I rx ry h hs;obtain⟨z,i,c,rfl,rfl,hz,he,q⟩:=h;obtain⟨t,rfl⟩:=rx;obtain⟨t',rfl⟩:=ry;obtain⟨j,h1,h2,h3,h4,h5⟩:=Ay he;have hl:z.cps.toList.length=z.length:=by simp[Str.length]
 rw[hl]at h1 h4 h5;have hn:=nv;exact tail_any (typeIs_str s z t) slot_str_getitem.lookup (getItem_str (c:=c) (by
  have e1:decide (i < -(2 ^ 63:Int))=false:=iO (by omega)
  have e2:decide (i ≥ 2 ^ 63)=false:=iO (by omega)
  rw[e1,e2,Bool.or_false]) (by rw[h1];simpa using h2) ⟨.str ⟨#[c]⟩,H,I.tok _,⟨_,rfl⟩,q⟩) hs
theorem PL (its:List Value) (n j:Nat) (u:Value):Obj.mapSeq (·.setIfInBounds j u) { cls:= .type "list",data:= .seq its.toArray n }={ cls:= .type "list",data:= .seq (its.set j u).toArray n }:=by
 simp[Obj.mapSeq]
theorem Inv.lst {pins:List (Addr×Obj)}{σ:St}{H:Hp}{s:Shared}{p:Addr}{xs:List V} (I:Inv X pins σ H s) (h:H p=some (.lst xs)) :
  ∃ (its:List Value) (n:Nat),Vals xs its/\s.heap.get? p=some { cls:= .type "list",data:= .seq its.toArray n }/\xs.length<=sizeLine:=by
 obtain⟨z,its,n,r,e⟩:=I.aj p _ h;exact⟨its,n,r,e,z⟩
theorem Inv.Ue {its':List Value}{n n':Nat}{f:Obj->Obj} (I:Inv X pins σ H s) (h:H p=some (.lst xs))
  (ho:s.heap.get? p=some { cls:= .type "list",data:= .seq its.toArray n }) (hf:f { cls:= .type "list",data:= .seq its.toArray n }={ cls:= .type "list",data:= .seq its'.toArray n' }) (r:Vals ys its') (hz:ys.length<=sizeLine) (t:Nat) :
  Inv X pins σ (upd H p (.lst ys)) { s with heap:=s.heap.update p f,toks:=t }:=by
 have e:(s.heap.update p f).get? p=some { cls:= .type "list",data:= .seq its'.toArray n' }:=by
  rw[Oc f ho (by rw[hf] <;> rfl),hf]
 refine I.write (x:=p) (e:=p) (by rw[h];trivial) (.inl rfl) (fun b u hb q=>(rj _ _ (aV hb)).trans q) ⟨_,e⟩ ?_
 exact⟨hz,its',n',r,e⟩
def Vd:V->V->V->Hp->(Hp->Prop)->Prop:=fun o i v H Q=>∃p xs k j,o = .ref p/\i = .int k/\H p=some (.lst xs)/\oA xs.length k=some j/\Q (upd H p (.lst (xs.set j v)))
theorem set_list:JB X Vd:=by
 intro pins s σ H o i v ov iv u Q I ro ri rv h;obtain⟨p,xs,k,j,rfl,rfl,hp,hj,q⟩:=h;cases ro
 obtain⟨t,rfl⟩:=ri;obtain⟨its,n,r,ho,hz⟩:=I.lst hp;obtain⟨h1,h2,h3,h4⟩:=Ik hj;have hl:=r.length;have hn:=nv;have I':Inv X pins σ (upd H p (.lst (xs.set j v))) { s with heap:=s.heap.update p (Obj.mapSeq (·.setIfInBounds j u)) }:=
  I.Ue hp ho (PL its n j u) (r.set rv j) (by rw[List.length_set];exact hz) s.toks
 by_cases h0:0<=k
 ·have hk:k.toNat=j:=by
   rw[Fd h0 h4]at h1;exact eF h1
  exact PySem.W.ki_setAt ho h0 (by omega) (by rw[cf,<-hl];exact h4) (by rw[hk];exact⟨_,I',q⟩)
 ·have hk:(k+(its.toArray.size:Int)).toNat=j:=by
   rw[seqIndex_neg (by omega) h3]at h1
   rw[cf,<-hl];exact eF h1
  exact PySem.W.ki_setBack ho (by omega) (by rw[cf,<-hl];exact h3) (by omega) (by rw[hk];exact⟨_,I',q⟩)
theorem OY (lo hi:Option Int) (n:Nat):(sliceBounds lo hi none n).1=((HT.aY n 0 lo:Nat):Int)/\(sliceBounds lo hi none n).2.1=((HT.aY n n hi:Nat):Int)/\(sliceBounds lo hi none n).2.2=1:=by
 refine⟨?_,?_,rfl⟩
 ·cases lo with
  |none=>simp[sliceBounds,HT.aY]
  |some i =>
   simp only[sliceBounds,HT.aY,Option.getD_none,show(1:Int) > 0 by decide,i9]
   by_cases h:i < 0
   ·simp only[h,i9] <;> omega
   ·simp only[h,oX] <;> omega
 ·cases hi with
  |none=>simp[sliceBounds,HT.aY]
  |some i =>
   simp only[sliceBounds,HT.aY,Option.getD_none,show(1:Int) > 0 by decide,i9]
   by_cases h:i < 0
   ·simp only[h,i9] <;> omega
   ·simp only[h,oX] <;> omega
theorem OW (its:List Value) (lo hi:Option Int):slicePick its.toArray lo hi none=((its.drop (HT.aY its.length 0 lo)).take (HT.aY its.length its.length hi - HT.aY its.length 0 lo)).toArray:=by
 obtain⟨h1,h2,h3⟩:=OY lo hi its.toArray.size;unfold slicePick;rw[h1,h2,h3];simp only[sliceRange_one,pick_run,cf] <;> rfl
def JM (K:PySem.W.Frag):V->Option Int->Option Int->Hp->VK->Prop:=fun x lo hi H Q=>∃a xs,x = .ref a/\ai K H a xs /\ ∀p,H p=none->Q (.ref p) (upd H p (.lst (gX xs lo hi)))
theorem vT:qw X (JM X.K):=by
 intro pins s σ H x v vl vu lo hi sl Q I rx hs pl pu h;obtain⟨a,xs,rfl,hx,q⟩:=h;cases rx
 obtain⟨its,r,ht,hz⟩:=I.list hx;have hlen:=r.length;refine⟨"list",_,slot_list_getitem.lookup,ht.isList.typeIs,?_⟩;refine wpAny_getItem_list_slice ht.isList hs pl pu .none (by simp) ?_ (by rw[cf] <;> omega)
 rw[OW,<-hlen];refine⟨.ref s.heap.objs.size,_,I.laid (t':=s.toks) (o:= .lst (gX xs lo hi)) (fun b ob q=>bj _ q) (aO _) ?_,rfl,q _ (I.aj.fresh (aO _))⟩;exact⟨gQ (FZ xs lo hi) hz,_,0,(r.drop (HT.aY xs.length 0 lo)).take (HT.aY xs.length xs.length hi - HT.aY xs.length 0 lo),cK _ rfl⟩
def jH:V->Bool
 |.aH=>true
 |.bl _=>true
 |.int _=>true
 |.str _=>true
 |_=>false
def md:V->V->Bool
 |.aH,.aH=>true
 |.bl a,.bl b=>a==b
 |.bl a,.int b=>(if a then 1 else 0)==b
 |.int a,.bl b=>a==(if b then 1 else 0)
 |.int a,.int b=>a==b
 |.str a,.str b=>a==b
 |_,_=>false
theorem Ug {x:V}{v:Value} (ry:RelV y u) (rx:RelV x v) (fy:jH y=true) (fx:jH x=true):SeqAt.EqAt A s u v (md y x):=by
 cases y with
 |aH =>
  cases ry
  cases x with
  |aH=>cases rx;exact SeqAt.EqAt.same _
  |bl b=>cases rx;exact SeqAt.EqAt.none_bool b
  |int b=>obtain⟨t,rfl⟩:=rx;exact SeqAt.EqAt.none_int b t
  |str b=>obtain⟨t,rfl⟩:=rx;exact SeqAt.EqAt.none_str b t
  |_=>exact absurd (show false=true from fx) cz
 |bl a =>
  cases ry
  cases x with
  |aH=>cases rx;exact SeqAt.EqAt.bool_none a
  |bl b=>cases rx;exact SeqAt.EqAt.bool_bool a b
  |int b=>obtain⟨t,rfl⟩:=rx;exact SeqAt.EqAt.bool_int a b t
  |str b=>obtain⟨t,rfl⟩:=rx;exact SeqAt.EqAt.bool_str a b t
  |_=>exact absurd (show false=true from fx) cz
 |int a =>
  obtain⟨t',rfl⟩:=ry;cases x with
  |aH=>cases rx;exact SeqAt.EqAt.int_none a t'
  |bl b=>cases rx;exact SeqAt.EqAt.int_bool a t' b
  |int b=>obtain⟨t,rfl⟩:=rx;exact SeqAt.EqAt.int_int a t' b t
  |str b=>obtain⟨t,rfl⟩:=rx;exact SeqAt.EqAt.int_str a t' b t
  |_=>exact absurd (show false=true from fx) cz
 |str a =>
  obtain⟨t',rfl⟩:=ry;cases x with
  |aH=>cases rx;exact SeqAt.EqAt.str_none a t'
  |bl b=>cases rx;exact SeqAt.EqAt.str_bool a t' b
  |int b=>obtain⟨t,rfl⟩:=rx;exact SeqAt.EqAt.str_int a t' b t
  |str b=>obtain⟨t,rfl⟩:=rx;exact SeqAt.EqAt.str_str a t' b t
  |_=>exact absurd (show false=true from fx) cz
 |_=>exact absurd (show false=true from fy) cz
def f' (x:V) (u:Value):Bool:=match u with
 |.none=>md .aH x
 |.bool b=>md (.bl b) x
 |.int i _=>md (.int i) x
 |.str z _=>md (.str z) x
 |_=>false
theorem wj {x:V} (r:RelV y u) (f:jH y=true):f' x u=md y x:=by
 cases y with
 |aH=>cases r;rfl
 |bl b=>cases r;rfl
 |int i=>obtain⟨t,rfl⟩:=r;rfl
 |str z=>obtain⟨t,rfl⟩:=r;rfl
 |_=>exact absurd (show false=true from f) cz
theorem r6 {x:V}:∀ {xs:List V}{us:List Value},Vals xs us->xs.all jH=true->us.any (f' x)=xs.any fun y=>md y x
 |_,_,.nil,_=>rfl
 |y::xs,u::us,.cons r t,f=>by
  rw[List.all_cons,k9]at f;rw[o3,o3,wj r f.1,r6 t f.2]
theorem pF {A:Around}{s:Shared}{x:V}{v:Value} (rx:RelV x v) (fx:jH x=true):∀ {xs:List V}{us:List Value},Vals xs us->xs.all jH=true -> ∀u∈us,SeqAt.EqAt A s u v (f' x u)
 |_,_,.nil,_=>fun u hu=>by cases hu
 |y::xs,u::us,.cons r t,f=>fun u' hu=>by
  rw[List.all_cons,k9]at f;rcases b9.mp hu with rfl|hu
  ·rw[wj r f.1];exact Ug r rx f.1 fx
  ·exact pF rx fx t f.2 u' hu
def tR (x:V) (xs:List V):Bool:=xs.any fun y=>md y x
def yb (K:PySem.W.Frag) (neg:Bool):R2:=fun x y H Q=>∃p xs,y = .ref p/\(ai K H p xs\/aG K H p xs)/\jH x=true/\xs.all jH=true/\Q (.bl (if neg then !tR x xs else tR x xs)) H
theorem pz:b6 X (compareOp .In) (yb X.K false):=by
 intro pins s σ H x y v u Q I rx ry h;obtain⟨p,xs,rfl,hq,fx,fs,q⟩:=h;cases ry
 rcases hq with hq|hq
 ·obtain⟨its,r,pl,hz⟩:=I.list hq
  refine SeqAt.in_listAt (f' x) pl.isList (fun w hw=>pF rx fx r fs w (by simpa using hw)) ⟨.bl _,H,I,rfl,?_⟩
  rw[show its.toArray.any (f' x)=its.any (f' x) by simp,r6 r fs]
  exact q
 ·obtain⟨its,r,pl,hz⟩:=I.tuple hq
  refine SeqAt.in_tupleAt (f' x) pl (fun w hw=>pF rx fx r fs w (by simpa using hw)) ⟨.bl _,H,I,rfl,?_⟩
  rw[show its.toArray.any (f' x)=its.any (f' x) by simp,r6 r fs]
  exact q
theorem OZ:b6 X (compareOp .NotIn) (yb X.K true):=by
 intro pins s σ H x y v u Q I rx ry h;obtain⟨p,xs,rfl,hq,fx,fs,q⟩:=h;cases ry
 rcases hq with hq|hq
 ·obtain⟨its,r,pl,hz⟩:=I.list hq
  refine SeqAt.notIn_listAt (f' x) pl.isList (fun w hw=>pF rx fx r fs w (by simpa using hw)) ⟨.bl _,H,I,rfl,?_⟩
  rw[show its.toArray.any (f' x)=its.any (f' x) by simp,r6 r fs]
  exact q
 ·obtain⟨its,r,pl,hz⟩:=I.tuple hq
  refine SeqAt.notIn_tupleAt (f' x) pl (fun w hw=>pF rx fx r fs w (by simpa using hw)) ⟨.bl _,H,I,rfl,?_⟩
  rw[show its.toArray.any (f' x)=its.any (f' x) by simp,r6 r fs]
  exact q
theorem lB:dZ X (.builtin "len") (fun xs H Q=>∃p ys,xs = [.ref p]/\(ai X.K H p ys\/aG X.K H p ys)/\Q (.int ys.length) H):=by
 intro pins s σ H xs us Q I r h;obtain⟨p,ys,rfl,hq,q⟩:=h;obtain⟨u,rfl,rx⟩:=vals1 r;cases rx
 have hn:=nv;rcases hq with hq|hq
 ·obtain⟨its,r',pl,hz⟩:=I.list hq
  have hlen:=r'.length;exact Calls.call_len_list pl.isList (by simp only[cf] <;> omega) ⟨.int ys.length,H,I.tok _,⟨s.toks+1,by rw[cf,hlen]⟩,q⟩
 ·obtain⟨its,r',pl,hz⟩:=I.tuple hq
  have hlen:=r'.length;exact len_tuple pl (by simp only[cf] <;> omega) ⟨.int ys.length,H,I.tok _,⟨s.toks+1,by rw[cf,hlen]⟩,q⟩
theorem O0:dZ X (.builtin "len") (fun xs H Q=>∃z,xs = [.str z]/\z.length<=sizeLine/\Q (.int z.length) H):=by
 intro pins s σ H xs us Q I r h;obtain⟨z,rfl,hz,q⟩:=h;obtain⟨u,rfl,t,rfl⟩:=vals1 r;have hn:=nv;exact len_str (by omega) ⟨.int z.length,H,I.tok _,⟨_,rfl⟩,q⟩
theorem rC:dZ X (.type "list") (fun xs H Q=>∃p ys,xs = [.ref p]/\(ai X.K H p ys\/aG X.K H p ys) /\ ∀l,H l=none->Q (.ref l) (upd H l (.lst ys))):=by
 intro pins s σ H xs us Q I r h;obtain⟨p,ys,rfl,hq,q⟩:=h;obtain⟨u,rfl,rx⟩:=vals1 r;cases rx
 have fin:∀ (its:List Value),Vals ys its->ys.length<=sizeLine -> ∀ (h':Heap) (c':Nat),(∀b o',s.heap.get? b=some o'->h'.get? b=some o') ->
   h'.get? s.heap.objs.size=some { cls:= .type "list",dict:=none,data:= .seq its.toArray c',slots:= #[] }->EP X pins σ Q (.ref s.heap.objs.size) { s with heap:=h' }:=fun its r' hz h' c' kp e =>
  ⟨.ref s.heap.objs.size,_,I.laid (t':=s.toks) kp (aO _) (show a9 X.prog X.w _ h' _ (.lst ys) from⟨hz,its,c',r',e⟩),rfl,q _ (I.aj.fresh (aO _))⟩
 rcases hq with hq|hq
 ·obtain⟨its,r',pl,hz⟩:=I.list hq
  have hlen:=r'.length;obtain⟨o,ho,hc,n,hd⟩:=pl.isList;exact call_list_seq p (.inl rfl) ho hc hd (fun h' c' kp e=>fin its r' hz h' c' kp e) (by simp only[cf] <;> omega)
 ·obtain⟨its,r',pl,hz⟩:=I.tuple hq
  have hlen:=r'.length;obtain⟨o,ho,hc,n,hd⟩:=pl;exact call_list_seq p (.inr rfl) ho hc hd (fun h' c' kp e=>fin its r' hz h' c' kp e) (by simp only[cf] <;> omega)
theorem o8:dZ X (.type "tuple") (fun xs H Q=>∃p ys,xs = [.ref p]/\((ai X.K H p ys /\ ∀l,H l=none->Q (.ref l) (upd H l (.tup ys)))\/(aG X.K H p ys/\Q (.ref p) H))):=by
 intro pins s σ H xs us Q I r h;obtain⟨p,ys,rfl,h⟩:=h;obtain⟨u,rfl,rx⟩:=vals1 r;cases rx
 rcases h with⟨hq,q⟩|⟨hq,q⟩
 ·obtain⟨its,r',pl,hz⟩:=I.list hq
  have hlen:=r'.length;refine call_tuple_list pl.isList (fun h' kp=>?_) (by simp only[cf] <;> omega)
  have I1:Inv X pins σ H { s with heap:=h' }:=I.kept (t':=s.toks) kp;have I2:Inv X pins σ (upd H h'.objs.size (.tup ys)) { s with heap:=h'.push { cls:= .type "tuple",data:= .seq its.toArray } }:=
   I1.laid (t':=s.toks) (fun b o e=>bj _ e) (aO _) (show a9 X.prog X.w _ _ _ (.tup ys) from⟨hz,its,r',kB.new _ _⟩)
  exact⟨.ref h'.objs.size,_,I2,rfl,q _ (I1.aj.fresh (aO _))⟩
 ·obtain⟨its,r',pl,hz⟩:=I.tuple hq
  exact call_tuple_same pl ⟨.ref p,H,I,rfl,q⟩
def Lr (K:PySem.W.Frag) (T:String) (x:V) (H:Hp):Prop:=match x with
 |.str _=>T = "str"
 |.int _=>T = "int"
 |.ref p=>(T = "list" /\ ∃xs,ai K H p xs)\/(T = "tuple" /\ ∃o,K.lookup p=some o/\o.cls = .type "tuple" /\ o.dict=none) \/
   (T = "dict" /\ ((∃kvs,H p=some (.dK kvs)) \/ ∃kvs,H p=some (.dT kvs)))\/(T = "set" /\ ∃S n,H p=some (.set S n))\/(T = "tuple" /\ ∃xs,Rd H p (.tup xs))
 |_=>False
theorem Uh {x:V}{v:Value} (I:Inv X pins σ H s) (r:RelV x v) (ty:Lr X.K T x H) :
  s.TypeIs v T /\ ∀a,v = .ref a -> ∃ob,s.heap.get? a=some ob/\ob.dict=none:=by
 cases x with
 |str z =>
  obtain⟨t,rfl⟩:=r;cases (show T = "str" from ty)
  exact⟨typeIs_str s z t,fun _ e=>nomatch e⟩
 |int i =>
  obtain⟨t,rfl⟩:=r;cases (show T = "int" from ty)
  exact⟨typeIs_int s i t,fun _ e=>nomatch e⟩
 |ref p =>
  cases r
  rcases ty with⟨rfl,xs,hq⟩|⟨rfl,o,hk,hc,hd⟩|⟨rfl,hk⟩|⟨rfl,S,n,hk⟩|⟨rfl,xs,hq⟩
  ·obtain⟨its,_,pl,_⟩:=I.list hq
   refine⟨pl.isList.typeIs,fun a e=>?_⟩;cases e
   obtain⟨o,n,e,c,hd,_⟩:=pl;exact⟨o,e,hd⟩
  ·refine⟨⟨o,I.bB p o hk,hc⟩,fun a e=>?_⟩
   cases e
   exact⟨o,I.bB _ o hk,hd⟩
  ·have z:∃o,s.heap.get? p=some o/\o.ExactDict:=by
    rcases hk with⟨kvs,hk⟩|⟨kvs,hk⟩
    ·obtain⟨_,_,_,_,o,_,_,e,ex,_⟩:=I.aj p _ hk
     exact⟨o,e,ex⟩
    ·obtain⟨_,_,_,_,o,_,_,e,ex,_⟩:=I.aj p _ hk
     exact⟨o,e,ex⟩
   obtain⟨o,e,ex⟩:=z;refine⟨⟨o,e,ex.1⟩,fun a e2=>?_⟩;cases e2
   exact⟨o,e,ex.2.1⟩
  ·obtain⟨o,_,_,_,e,ex,_⟩:=I.aj p _ hk
   refine⟨⟨o,e,ex.1⟩,fun a e2=>?_⟩;cases e2
   exact⟨o,e,ex.2.1⟩
  ·obtain⟨_,_,_,o,e,c,_,_,hd⟩:=hq.ok I.aj
   refine⟨⟨o,e,c⟩,fun a e2=>?_⟩;cases e2
   exact⟨o,e,hd⟩
 |_=>exact False.elim ty
def Y6 (K:PySem.W.Frag) (T:String) (r:V->List V->Hp->VK->Prop) (to:TE) (t:TA):TE:=fun σ H Q=>to σ H fun x H1=>Lr K T x H1/\t σ H1 fun xs H2=>r x xs H2 Q
variable{o:Expr}{to:TE}{t:TA}{id:String}{r:V->List V->Hp->VK->Prop}
theorem kz (pa:PlainAttrs T) (slot:Slot T name id) (Y7:typeOf (.builtin id)=pure (.type "method_descriptor")) (hm:Lq X id r) (ho:PE X o to) (ha:PA X (e::es) t)
  (sy:attributeBase o name X.env (eval o X.env)=eval o X.env:=by rfl)
  (WC:((backTo ia (starEach (e::es) X.env)).all (fun x=>!x.1) && (backToKw ia (keywordEach [] X.env)).all (fun x=>x.1.isSome)
   && decide ((e::es).length+([]:List Keyword).length+(if ([]:List Keyword).isEmpty then 0 else 1) < 30))=true:=by rfl)
  (sA:(apos.endLine==ia.line)=true:=by rfl) (hs:starEach (e::es) X.env=(false,eval e X.env)::starEach es X.env:=by rfl) (Ui:(backTo ia (starEach es X.env)).any (·.1)=false:=by rfl) :
  PE X (.Call (.Attribute o name apos) (e::es) [] ia) (Y6 X.K T r to t):=by
 intro pins s σ H Q I h;refine wpAny_Call_method_late sy WC sA rfl (ao (ho pins s σ H _ I h) fun v s1 ⟨x,H1,I1,r1,ty,q1⟩=>?_);obtain⟨h1,h2⟩:=Uh I1 r1 ty;refine⟨T,id,pa,slot,Y7,h1,h2,?_⟩;have hA:=ha ia pins s1 σ H1 _ I1 q1;rw[hs]at hA ⊢;refine Calls.callWith_builtin (by show(false || (backTo ia (starEach es X.env)).any (·.1))=false;rw[Ui] <;> rfl) (Calls.evalArgs_plain ?_)
 exact ao hA fun us s2 ⟨vs,H2,I2,r2,q2⟩=>hm pins s2 σ H2 x vs v us Q I2 r1 r2 q2
end
def yc (X:Cx) (id:String) (r:V->List V->Hp->VK->Prop):Prop:=
 ∀ (pins:List (Addr×Obj)) (s:Shared) (σ:St) (H:Hp) (x:V) (xs:List V) (v:Value) (us:List Value) (Q:VK),Inv X pins σ H s->RelV x v->Vals xs us->r x xs H Q ->
  wpAny (model X.prog X.w) X.A (call (.builtin id) (v::us)) (EP X pins σ Q) X.xe s
theorem Vals.one:∀ {x:V}{us:List Value},Vals [x] us -> ∃u,us = [u]/\RelV x u
 |_,_,.cons r .nil=>⟨_,rfl,r⟩
theorem Vals.two:∀ {x y:V}{us:List Value},Vals [x,y] us -> ∃u v,us = [u,v]/\RelV x u/\RelV y v
 |_,_,_,.cons r (.cons q .nil)=>⟨_,_,rfl,r,q⟩
theorem Vals.eraseIdx:∀ {xs:List V}{us:List Value} (i:Nat),Vals xs us->Vals (xs.eraseIdx i) (us.eraseIdx i)
 |_,_,_,.nil=>.nil
 |_,_,0,.cons _ t=>t
 |_,_,i+1,.cons r t=>.cons r (Vals.eraseIdx i t)
theorem GJ {α:Type}:∀ (l:List α) (i:Nat),(l.eraseIdx i).length<=l.length
 |[],_=>aO _
 |_::_,0=>j9 _
 |_::r,i+1=>Nat.succ_le_succ (GJ r i)
section
variable{zs:List V}
theorem Inv.JN {its':List Value}{n:Nat}{f:Array Value->Array Value} (I:Inv X pins σ H s) (hH:H l=some (.lst xs))
  (e:s.heap.get? l=some { cls:= .type "list",data:= .seq its.toArray n }) (hf:f its.toArray=its'.toArray) (hv:Vals ys its') (hz:ys.length<=sizeLine) :
  Inv X pins σ (upd H l (.lst ys)) { s with heap:=s.heap.update l (Obj.mapSeq f),toks:=t' }:=by
 have q:=PySem.IsL.update e f;rw[hf]at q;refine I.write (x:=l) (e:=l) (by rw[hH];exact trivial) (.inl rfl) (fun b' u hb hu=>(rj s.heap (Obj.mapSeq f) (aV hb)).trans hu) ⟨_,q⟩ ?_
 exact⟨hz,its',_,hv,q⟩
theorem Inv.JO (I:Inv X pins σ H s) (hv:Vals ys its) (hz:ys.length<=sizeLine) :
  Inv X pins σ (upd H s.heap.objs.size (.lst ys)) { s with heap:=s.heap.push { cls:= .type "list",data:= .seq its.toArray },toks:=t' }:=
 I.laid (fun _ _ q=>bj _ q) (aO _) ⟨hz,its,0,hv,cK _ rfl⟩
theorem Inv.fresh (I:Inv X pins σ H s):H s.heap.objs.size=none:=I.aj.fresh (aO _)
theorem Inv.sS (I:Inv X pins σ H s) (hH:H l=some (.lst xs)):xs.length<=sizeLine /\ ∃ (its:List Value) (n:Nat),Vals xs its/\xs.length=its.length/\s.heap.get? l=some { cls:= .type "list",data:= .seq its.toArray n }:=by
 obtain⟨z,its,n,r,e⟩:=I.aj l _ hH;exact⟨z,its,n,r,r.length,e⟩
end
def Sh:V->List V->Hp->VK->Prop:=fun x vs H Q=>∃l xs y,x = .ref l/\vs = [y]/\H l=some (.lst xs)/\xs.length < sizeLine/\Q .aH (upd H l (.lst (xs ++ [y])))
theorem pA:yc X "list.append" Sh:=by
 intro pins s σ H x vs v us Q I rx rv h;obtain⟨l,xs,y,rfl,rfl,hH,hz,q⟩:=h;cases rx
 obtain⟨u,rfl,ru⟩:=rv.one;obtain⟨z,its,n,r,hl,e⟩:=I.sS hH;refine vd F.slot_list_append ⟨_,e,rfl⟩ F.entry_list_append (F.args_list_append_2 _ _) (PySem.list_append l its.toArray n u (by rw[cf];omega)) ⟨e,?_⟩
 refine⟨.aH,_,I.JN (its':=its ++ [u]) hH e (by simp) (r.append (.cons ru .nil)) ?_,rfl,q⟩
 rw[e7,zq];omega
def Uj:V->List V->Hp->VK->Prop:=fun x vs H Q=>∃l xs i k y,x = .ref l/\vs = [.int i]/\H l=some (.lst xs) /\ -(2 ^ 63)<=i/\i < 2 ^ 63/\seqIndex? i xs.length=some k/\xs[k]? = some y/\Q y (upd H l (.lst (xs.eraseIdx k)))
theorem Rn:yc X "list.pop" Uj:=by
 intro pins s σ H x vs v us Q I rx rv h;obtain⟨l,xs,i,k,y,rfl,rfl,hH,h1,h2,hk,hy,q⟩:=h;cases rx
 obtain⟨u,rfl,ru⟩:=rv.one;obtain⟨t,rfl⟩:=ru;obtain⟨z,its,n,r,hl,e⟩:=I.sS hH;obtain⟨w,hw,iq⟩:=r.get hy;refine vd F.slot_list_pop ⟨_,e,rfl⟩ F.entry_list_pop (F.args_list_pop_2 _ _)
  (MeetsSeq.list_pop_at l its.toArray n i t k w (fitsIndex_both h1 h2) (by rw[cf,<-hl];exact hk) (by rw[<-afl];exact hw) (by rw[cf];omega)) ⟨e,?_⟩
 refine⟨y,_,I.JN (its':=its.eraseIdx k) hH e ?_ (r.eraseIdx k) ?_,iq,q⟩
 ·show its.toArray.eraseIdxIfInBounds k=(its.eraseIdx k).toArray
  rw[List.eraseIdxIfInBounds_toArray]
 ·have:=GJ xs k
  omega
def WD:R2:=fun x y H Q=>∃l b xs zs,x = .ref l/\y = .ref b/\H l=some (.lst xs)/\H b=some (.lst zs)/\xs.length+zs.length<=sizeLine /\ ∀p,H p=none->Q (.ref p) (upd H p (.lst (xs++zs)))
theorem nB:b6 X (binaryOp .Add) WD:=by
 intro pins s σ H x y v u Q I rx ry h;obtain⟨l,b,xs,zs,rfl,rfl,hH,hB,hz,q⟩:=h;cases rx
 cases ry
 obtain⟨z,its,n,r,hl,e⟩:=I.sS hH;obtain⟨z2,wZ,n2,r2,qy,e2⟩:=I.sS hB;refine PySem.P.add_list e e2 ?_ (by rw[cf,cf];omega)
 have ea:its.toArray++wZ.toArray=(its++wZ).toArray:=by simp
 rw[ea];exact⟨.ref _,_,I.JO (t':=s.toks) (r.append r2) (by rw[e7];omega),rfl,q _ I.fresh⟩
section
set_option maxRecDepth 100000 in
end
end L2
namespace Ls
open PySem PySem.W PySem.Calls PyProof.Rows
theorem OO {P:Params}:∀ (ns:List Int) (vs:List Value),WellAll P h vs (ns.map WData.int)->IntsAre vs ns:=by
 intro ns
 induction ns with
 |nil =>
  intro vs w;rw[List.map_nil]at w;cases w
  exact .nil
 |cons n ns ih =>
  intro vs w;rw[cA]at w;cases w with
  |cons a b =>
   cases a
   exact .cons _ _ (ih _ b)
theorem Qp {l:OpenLaw}{n:Nat} (hn:l.most=some n) {P:Params}{args:List WData}{vals:List Value}
  (w6:l.row.toRowW.claim.pre args=true) (C8:WellAll P h vals args) :
  ∃a vs ns,vals = [Value.ref a]/\args = [WData.list (ns.map WData.int)]/\h.get? a=some { cls:= .type "list",data:= .seq vs.toArray }/\IntsAre vs ns/\ns.length<=n:=by
 have Y8:WShape.hasAll [] args [.list .int]=true:=(pre_splitW w6).1;have hc:l.pre.holds [] { args:=args }=true:=(pre_splitW w6).2;obtain⟨d,r,rfl,h1,h2⟩:=hasAllW_cons Y8;obtain rfl:=hasAllW_nil h2;obtain⟨xs,rfl,h3⟩:=hasW_list h1;obtain⟨ns,rfl⟩:=items_int h3;have hlen:ns.length<=n:=by
  unfold OpenLaw.pre at hc;have h4:(WTm.not (.lt (.lit (.int (n:Int))) (.len (.arg 0)))).holds [] { args:= [.list (ns.map .int)] }=true:=by
   have h4:=(holds_andW hc).1;rw[hn]at h4;exact h4
  have h5:=condW_of h4 (w_not (w_lt w_lit (w_len_list (w_arg rfl))));rw[aJ]at h5;refine Nat.le_of_not_lt fun q=>?_;have q':(n:Int) < ((ns.length:Nat):Int):=by omega
  first
   |(rw[gj q']at h5;exact absurd h5 (by decide))
   |(simp at h5;omega)
 cases C8 with
 |cons w1 w2 =>
  cases w2
  cases w1 with
  |list ho WE=>exact⟨_,_,ns,rfl,rfl,ho,OO ns _ WE,hlen⟩
theorem Qq (l:OpenLaw) (args:List WData):l.row.toRowW.claim.post args (.bool true) args=true:=
 postW_of (r:=l.row.toRowW) (X:=(true==true))
  (show WShape.has [] (.bool true) .bool=true by first|rfl|decide|simp[WShape.has,WShape.arms,WShape.armsAll])
  (show(WTm.eq .res (.lit (.bool true))).value [] { args:=args,res:=some (.bool true),after:=args }=some (.bool (true==true)) from w_eq_bool (w_res rfl) w_lit) rfl
theorem Pa {l:OpenLaw}{n:Nat}{q:Program}{d:DefRec}
  (hn:l.most=some n) (tS:d.params.defaults = [])
  (call:∀ (w:World) (cT bp:Shared) (mg mb:Str->Option Value) (fa:Addr) (o:Obj) (pm cd doc:Value) (a:Addr) (vs:List Value) (ns:List Int),
   Ground q loose [] XP w cT mg mb bp.heap->YP w bp.heap ->
   bp.heap.get? fa=some o->o.data = .func (docDef d.name d.params d.body d.scope pm cd doc)->bp.heap.CodeRec cd d.name->mg d.name=some (.ref fa) ->
   bp.heap.get? a=some { cls:= .type "list",data:= .seq vs.toArray }->IntsAre vs ns->ns.length<=n->bp.gens = #[] ->
   codeAny (model l.prog w) callerA (.call (.ref fa) ⟨[.ref a],[]⟩) (fun r s'=>r = .ok (.ret (.bool true))/\OldK bp.heap s'.heap/\s'.os=bp.os/\AllBare s'.gens) bp) :
  WalkO q loose XP YP l.row.toRowW d [] (fun f vs=>PySem.call f vs):=by
 intro w cT bp mg mb G Y fa o pm cd doc dV kV ho hd ee hD oB hg args vals as w6 afY tT C8 C9;obtain rfl:dV = .none:=Dflts.none hD tS;obtain rfl:kV = .none:=Dflts.noKw hD;obtain⟨a,vs,ns,rfl,rfl,BF,hints,hlen⟩:=Qp hn w6 C8;refine enter_call (vb (call w cT bp mg mb fa o pm cd doc a vs ns G Y ho (fd_plain hd) ee oB BF hints hlen hg) fun r s' hq=>?_);obtain⟨rfl,h2,h3,h4⟩:=hq;exact⟨.inl ⟨.bool true,.bool true,[],rfl,fun _=>rfl,.bool true,Qq l _,fun _=>⟨List.Pairwise.nil,fun _ hm=>(nomatch hm)⟩⟩,h2,h3,h4⟩
end Ls
namespace L2
open PySem PySem.Spec PyProof.Rows
theorem GQ:∀ {vs:List Value}{ns:List Int},IntsAre vs ns->Vals (ns.map V.int) vs
 |_,_,.nil=>.nil
 |_,_,.cons n t h=>.cons ⟨t,rfl⟩ (GQ h)
def BG (H:Hp):Prop:= ∀b,H b=none \/ ∃o xs,H b=some (.a6 o (.lst xs))
theorem Ro {mb:Str->Option Value}{CX:iG}{k:Nat}{fa:Addr}{bp:Shared}{vs:List Value}{ns:List Int}
  (KX:K.In bp.heap) (oC:bp.heap.Ns mainGlobals mg) (hb:bp.heap.Ns builtinsNs mb) (tU:∀x:Str,x ≠ "__name__" -> mb x=bootBuiltins x) (WG:bp.heap.NoLimit) (hg:bp.gens = #[])
  (ha:bp.heap.get? a=some { cls:= .type "list",data:= .seq vs.toArray }) (hi:IntsAre vs ns) (hl:ns.length<=sizeLine) (hr:aX k callerA)
  (F:∀base:Heap,K.In base->base.Ns mainGlobals mg->aU P w K mg base CX k fa fd [x] sp) (Ve:∀ (s:Shared) (u:Value),BindsTo s fd ⟨[u],[]⟩ [(x,u)])
  (f9:∀H:Hp,BG H->ai K H a (ns.map V.int)->sp [.ref a] H (fun v _=>v = .bl true) fun _ _ _=>False)
  (Dc:∀H e s',CX [] H bp (fun _ _ _=>False) e s'->False) :
  codeAny (model P w) callerA (.call (.ref fa) ⟨[.ref a],[]⟩) (fun r s'=>r = .ok (.ret (.bool true))/\OldK bp.heap s'.heap/\s'.os=bp.os/\AllBare s'.gens) bp:=by
 have rv:=GQ hi;have WH:=hi.length;have core:∀H:Hp,BG H->ai K H a (ns.map V.int)->b3 P w H bp.heap->(∀b,H b≠none->b=a)->(H a≠none->K.lookup a=none) ->
   codeAny (model P w) callerA (.call (.ref fa) ⟨[.ref a],[]⟩) (fun r s'=>r = .ok (.ret (.bool true))/\OldK bp.heap s'.heap/\s'.os=bp.os/\AllBare s'.gens) bp:=by
  intro H hO hS aj hA hK;have Il:∀ {b:Addr}{o:Obj},bp.heap.get? b=some o->H b=none->(kC bp.heap H).get? b=some o:=fun e n=>Q3 e n;have tP:∀ {b:Addr}{o:Obj}{es:Array DictEntry}{ep:Nat},bp.heap.get? b=some o->o.data = .dict es ep->H b=none:=fun {b o es ep} e d=>by
   cases q:H b with
   |none=>rfl
   |some u =>
    have e':b=a:=hA b (by rw[q];simp)
    subst e';rw[ha]at e;cases e;have d':Data.seq vs.toArray _=Data.dict es ep:=d;cases d'
  have yd:∀ {b:Addr}{m:Str->Option Value},bp.heap.Ns b m->(kC bp.heap H).Ns b m:=fun {b m} ⟨o,es,ep,e,d,r⟩=>⟨o,es,ep,Il e (tP e d),d,r⟩;have Lu:K.In (kC bp.heap H):=fun b o e=>Il (KX b o e) (by
   cases q:H b with
   |none=>rfl
   |some u =>
    have e':b=a:=hA b (by rw[q];simp)
    subst e';rw[hK (by rw[q];simp)]at e;cases e)
  have hM:Mod K mg (kC bp.heap H):=⟨Lu,yd oC,⟨mb,yd hb,tU⟩,let ⟨mc,h1,h2⟩:=WG;⟨mc,yd h1,h2⟩⟩;have e0:nM P w K mg (kC bp.heap H) callerA [] bp H:=⟨rfl,hM,fun b o e=>R0 e,Nat.le_of_eq (Qh _ _),trivial,fun b hb=>absurd (show b∈([]:List Addr) from hb) (by simp),aj,.of_eq hg⟩
  refine vb ((F _ Lu (yd oC)).run callerA [] bp H ⟨[.ref a],[]⟩ [.ref a] [.ref a] _ _ hr e0 (Ve bp (.ref a)) (.cons rfl .nil) (f9 H hO hS)) fun r s' h=>?_;cases r with
  |error e=>exact(Dc H e s' h).elim
  |ok fl =>
   cases fl with
   |next=>exact False.elim h
   |brk=>exact False.elim h
   |cont=>exact False.elim h
   |ret u =>
    obtain⟨v,H',os,bare,un,WJ,r',q⟩:=h;have q':v = .bl true:=q;subst q';obtain rfl:u=Value.bool true:=r';refine⟨rfl,OldK.of_keep fun b o e=>?_,os,bare⟩;cases q:H b with
    |none=>exact un.keep b o e q (by intro z;exact absurd (show b∈([]:List Addr) from z) (by simp)) (by simp)
    |some u =>
     rcases hO b with z|⟨ob,xs,z⟩
     ·rw[q]at z;cases z
     ·have z2:=un.gW b ob _ z
      obtain⟨e1,_⟩:=aj b _ z;obtain⟨e2,_⟩:=WJ b _ z2;rw[e]at e1;cases e1;exact e2
 cases hk:K.lookup a with
 |some o =>
  have e:=KX a o hk;rw[ha]at e;cases e
  refine core (fun _=>none) (fun _=>.inl rfl) (.inr ⟨_,vs.toArray,_,hk,rfl,rfl,rfl,by rw[cf,WH];exact hl,by simpa using rv⟩) (fun b u z=>by have z':(none:Option HO)=some u:=z;cases z') (fun b z=>absurd rfl z) fun z=>absurd rfl z
 |none =>
  refine core (fun b=>if b=a then some (.a6 { cls:= .type "list",data:= .seq vs.toArray } (.lst (ns.map V.int))) else none) (fun b=>?_) (.inl (.inr ⟨{ cls:= .type "list",data:= .seq vs.toArray },aB rfl⟩)) (fun b u z=>?_) (fun b z=>?_) fun _=>hk
  ·by_cases hb:b=a
   ·exact .inr ⟨_,_,aB hb⟩
   ·exact .inl (ar hb)
  ·by_cases hb:b=a
   ·have z':=(aB hb).symm.trans z
    cases z'
    subst hb;exact⟨ha,by rw[aJ];exact hl,vs,_,rv,ha⟩
   ·have z':=(ar hb).symm.trans z
    cases z'
  ·by_cases hb:b=a
   ·exact hb
   ·exact absurd (ar hb) z
theorem Si {l:PySem.W.OpenLaw}{n k:Nat}{q:Program}{d:DefRec}{K:Params->PySem.W.Frag}{CX:World->iG}{sp:World->Sp}
  (hn:l.most=some n) (xZ:n<=sizeLine) (tS:d.params.defaults = []) (hr:aX k callerA)
  (hY:∀ (w:World) (h:Heap),YP w h->(K w.params).In h)
  (F:∀ (w:World) (mg:Str->Option Value) (fa:Addr) (h:Heap),(K w.params).In h->h.Ns mainGlobals mg->mg d.name=some (.ref fa) ->
   ∃fd:FuncData,(∀ (s:Shared) (u:Value),BindsTo s fd ⟨[u],[]⟩ [(x,u)]) /\
    ∀base:Heap,(K w.params).In base->base.Ns mainGlobals mg->aU l.prog w (K w.params) mg base (CX w) k fa fd [x] (sp w))
  (f9:∀ (w:World) (H:Hp) (a:Addr) (ns:List Int),ns.length<=n->BG H->ai (K w.params) H a (ns.map V.int)->sp w [.ref a] H (fun v _=>v = .bl true) fun _ _ _=>False)
  (Dc:∀ (w:World) (H:Hp) (s:Shared) (e:Value) (s':Shared),CX w [] H s (fun _ _ _=>False) e s'->False) :
  PySem.W.WalkO q loose XP YP l.row.toRowW d [] (fun f vs=>PySem.call f vs):=by
 refine Ls.Pa hn tS fun w cT bp mg mb fa o pm cd doc a vs ns G Y ho hd ee oB BF hints hlen hg=>?_;have KX:=hY w _ Y;obtain⟨fd,hb,hF⟩:=F w mg fa _ KX G.T.g oB;exact Ro KX G.T.g G.T.b G.T.builtins G.T.nolimit hg BF hints (gQ hlen xZ) hr hF hb (fun H hO hS=>f9 w H a ns hlen hO hS) fun H e s'=>Dc w H bp e s'
def inClass (s:Stmt) (j:Nat):Stmt:=match s with
 |.ClassDef _ _ _ body _ _ _ _ _ _ _=>body.getD j (.Pass ⟨0,0,0,0⟩)
 |_=>.Pass ⟨0,0,0,0⟩
def dw (s:Stmt):Arguments:=match s with
 |.FunctionDef _ a _ _ _ _ _ _ _ _=>a
 |_=>{ posonlyargs:= [],args:= [],vararg:=none,kwonlyargs:= [],kw_defaults:= [],kwarg:=none,defaults:= [] }
def bF (s:Stmt):List Stmt:=match s with
 |.FunctionDef _ _ b _ _ _ _ _ _ _=>b
 |_=>[]
def aN (s:Stmt):Scope:=match s with
 |.FunctionDef _ _ _ _ _ _ sc _ _ _=>sc
 |_=>{ kind:= .function,names:= [],isGenerator:=false,isCoroutine:=false }
abbrev aQ:iG:=fun _ _ _ _ _ _=>False
abbrev E0:XK:=fun _ _ _=>False
theorem ff:Passes aQ X E0:=fun _ _ _ _ _ _ _ h=>h.elim
structure aW (K:PySem.W.Frag) (x qual:Str) (st:Stmt) (f:Addr) (fd:FuncData):Prop where
 ex:∃ (oc:Value) (od:Option Addr) (kV doc pm:Value) (an:Option Addr) (aF ct:Value) (g7:Array (Option Value)),
  fd=PySem.W.fnOf x qual (dw st) (bF st) (aN st) .none kV doc pm an aF ct/\K.lookup f=some ⟨oc,od,.func fd,g7⟩/\PySem.W.codeIn K aF qual=true
 kp:PySem.W.keepIn K (.ref f)=true
theorem aW.ok {k:Nat} (F:aW K x qual st f fd) (S:bx N ps (aN st)) (len:∀vs H Q E,sp vs H Q E->vs.length=ps.length)
  (nH:∀ (aF:Value) (A:Around) (outer:List Env) (s:Shared) (H:Hp) (vs:List V) (Q:VK) (E:XK),aX k (A.deeper (envOfC qual (aN st) s.heap.objs.size f aF))->sp vs H Q E ->
   ∃t,dH (fh aQ P w K mg base N qual (aN st) f aF A outer s H E).xX (bF st) t/\t { nx:=fun _ H'=>Q .aH H',rt:=Q } (start N vs) H):aU P w K mg base aQ (k+1) f fd ps sp:=by
 obtain⟨oc,od,kV,doc,pm,an,aF,ct,g7,rfl,lk,ee⟩:=F.ex;refine Bd lk ee S len fun A outer s H vs Q E hr f9=>?_;obtain⟨t,h,q⟩:=nH aF A outer s H vs Q E hr f9;exact⟨t,h.xX,q⟩
theorem aW.binds (F:aW K x qual st f fd)
  (h:∀ (kV doc pm:Value) (an:Option Addr) (aF ct:Value) (us:List Value),us.length=ps.length->bindArgs (PySem.W.fnOf x qual (dw st) (bF st) (aN st) .none kV doc pm an aF ct) ⟨us,[]⟩=pure (ps.zip us)):Binds K fd ps []:=by
 obtain⟨oc,od,kV,doc,pm,an,aF,ct,g7,rfl,lk,ee⟩:=F.ex;exact .all (h kV doc pm an aF ct)
theorem kr {kV:Value} (l:K.lookup f=some ⟨oc,od,.func (PySem.W.fnOf x qual (dw st) (bF st) (aN st) .none kV doc pm an aF ct),g7⟩)
  (c:PySem.W.codeIn K aF qual=true) (k:PySem.W.keepIn K (.ref f)=true):aW K x qual st f (PySem.W.fnOf x qual (dw st) (bF st) (aN st) .none kV doc pm an aF ct):=⟨⟨oc,od,kV,doc,pm,an,aF,ct,g7,rfl,l,c⟩,k⟩
theorem pv (i:Nat) (hN:X.N[i]? = some x:=by rfl) (hv:CV X.env.scope x:=by first|exact Or.inl rfl|exact Or.inr (Or.inl rfl)|exact Or.inr (Or.inr rfl)) (hd:(x==("__debug__" : Str))=false:=by decide)
  (ee:(x==("__classdict__" : Str))=false:=by decide):PE X (.Name x pos) (lO i):=TX hN hv hd ee
theorem gp {c A B:Prop} [Decidable c] (h1:c->A) (h2 : ¬ c->B):if c then A else B:=by
 by_cases h:c
 ·rw[aB h]
  exact h1 h
 ·rw[ar h]
  exact h2 h
def aw (H H':Hp):Prop:= ∀b o,H b=some o->H' b=some o
theorem aw.refl (H:Hp):aw H H:=fun _ _ h=>h
theorem aw.trans (a:aw H H1) (b:aw H1 H2):aw H H2:=fun c o h=>b c o (a c o h)
theorem aw.free (e:aw H H') (h:H' l=Option.none):H l=Option.none:=by
 cases q:H l with
 |none=>rfl
 |some o =>
  rw[e l o q]at h;cases h
end L2
namespace L2
open PySem
theorem Paired.JP {α β:Type}{F G:α->β->Prop}{l:List α}{m:List β} (h:Paired F l m):(∀a b,b∈m->F a b->G a b)->Paired G l m:=by
 induction h with
 |nil=>exact fun _=>.nil
 |cons p _ ih=>exact fun k=>.cons (k _ _ br p) (ih fun a b e=>k a b (bU _ e))
end L2
namespace L2
open PySem PySem.Spec PyProof.Rows
def fZ (cells:List (Str×Addr)):List (Str×NameKind)->List (Str×Addr)->List (Str×Addr)
 |[],acc=>acc
 |(n,k)::r,acc=>if k == .free then fZ cells r ((n,(cells.lookup n).getD 0)::acc) else fZ cells r acc
theorem zH (h:∀n,(n,NameKind.free)∈scope.names -> ∃c,env.cells.lookup n=some c) :
  closureFor scope env=pure (fZ env.cells scope.names []):=by
 have key:∀ (names:List (Str×NameKind)) (acc:List (Str×Addr)),(∀n,(n,NameKind.free)∈names -> ∃c,env.cells.lookup n=some c) ->
   (forIn (m:=Sem) names acc fun x r=>match x with|(name,kind)=>if (kind==NameKind.free)=true then (do let a <- cellOf env name;pure (ForInStep.yield ((name,a)::r))) else pure (ForInStep.yield r))=pure (fZ env.cells names acc):=by
  intro names
  induction names with
  |nil=>intro acc _;rfl
  |cons x r ih =>
   intro acc hx;obtain⟨n,k⟩:=x;rw[List.forIn_cons];unfold fZ
   by_cases hk:k = .free
   ·subst hk
    obtain⟨c,hc⟩:=hx n br;simp only[Fe,i9];have e:cellOf env n=pure c:=by unfold cellOf;rw[hc]
    rw[e,hc];exact ih _ fun m hm=>hx m (bU _ hm)
   ·have hb:(k==NameKind.free)=false:=by simpa using hk
    simp only[hb,Od,oX];exact ih _ fun m hm=>hx m (bU _ hm)
 unfold closureFor;have:=key scope.names [] h;show((forIn (m:=Sem) scope.names [] fun x r=>match x with|(name,kind)=>if (kind==NameKind.free)=true then (do let a <- cellOf env name;pure (ForInStep.yield ((name,a)::r))) else pure (ForInStep.yield r)) >>= fun cs=>pure cs)=_;rw[this]
 rfl
theorem pj:∀ (names:List (Str×NameKind)) (n:Nat) (acc:List (Str×Addr)),cellsFrom n names acc=cellsFrom n names []++acc
 |[],_,_=>rfl
 |(name,kind)::r,n,acc=>by
  unfold cellsFrom;split
  ·rw[pj r (n+1) ((name,n)::acc),pj r (n+1) [(name,n)],List.append_assoc];rfl
  ·exact pj r n acc
theorem vt {cells:List (Str×Addr)}:∀ (names:List (Str×NameKind)) (acc:List (Str×Addr)) (x:Str) (c:Addr),(fZ cells names acc).lookup x=some c ->
  (acc.lookup x=some c)\/((x,NameKind.free)∈names/\c=(cells.lookup x).getD 0)
 |[],acc,x,c,h=>.inl h
 |(n,k)::r,acc,x,c,h=>by
  unfold fZ at h;split at h
  ·rename_i hk
   have mf:k = .free:=by simpa using hk
   subst mf;rcases vt r _ x c h with z|⟨z,e⟩
   ·rw[eO]at z
    cases hb:x==n with
    |true=>rw[hb]at z;cases z;rw[dX.mp hb];exact .inr ⟨br,rfl⟩
    |false=>rw[hb]at z;exact .inl z
   ·exact .inr ⟨bU _ z,e⟩
  ·rcases vt r _ x c h with z|⟨z,e⟩
   ·exact .inl z
   ·exact .inr ⟨bU _ z,e⟩
theorem z5 {cells:List (Str×Addr)}:∀ (names:List (Str×NameKind)) (acc:List (Str×Addr)) (x:Str),(∃c,acc.lookup x=some c) -> ∃c,(fZ cells names acc).lookup x=some c
 |[],acc,x,h=>h
 |(n,k)::r,acc,x,h=>by
  unfold fZ;split
  ·refine z5 r _ x ?_
   obtain⟨c,h⟩:=h;rw[eO];cases hb:x==n with
   |true=>exact⟨_,rfl⟩
   |false=>exact⟨c,h⟩
  ·exact z5 r _ x h
theorem vB {cells:List (Str×Addr)}:∀ (names:List (Str×NameKind)) (acc:List (Str×Addr)) (x:Str),(x,NameKind.free)∈names -> ∃c,(fZ cells names acc).lookup x=some c
 |[],acc,x,h=>by simp at h
 |(n,k)::r,acc,x,h=>by
  unfold fZ;rcases b9.mp h with e|h
  ·cases e
   simp only[Fe,i9];exact z5 r _ _ ⟨(cells.lookup n).getD 0,by rw[eO];simp⟩
  ·split
   ·exact vB r _ x h
   ·exact vB r _ x h
theorem vq:∀ (names:List (Str×NameKind)) (n:Nat) (acc:List (Str×Addr)) (x:Str) (c:Addr),(x,c)∈cellsFrom n names acc->(x,c)∈acc\/(x,NameKind.cell)∈names
 |[],_,_,_,_,h=>.inl h
 |(name,kind)::r,n,acc,x,c,h=>by
  unfold cellsFrom at h;split at h
  ·rename_i hk
   have mf:kind = .cell:=by simpa using hk
   subst mf;rcases vq r _ _ x c h with z|z
   ·rcases b9.mp z with e|z
    ·cases e;exact .inr br
    ·exact .inl z
   ·exact .inr (bU _ z)
  ·rcases vq r _ _ x c h with z|z
   ·exact .inl z
   ·exact .inr (bU _ z)
structure cg (N:List Str) (qz:Scope) (N':List Str) (bH:List (Option Nat)) (sc:Scope):Prop where
 kind:sc.kind = .function
 keys:(sc.names.map (·.1)).Nodup
 nd:N'.Nodup
 len:bH.length=N'.length
 fv:∀ (j i:Nat),bH[j]? = some (some i) -> ∃x,N[i]? = some x/\N'[j]? = some x/\sc.names.lookup x=some .free
 free:∀p∈sc.names,p.2 = .free->qz.names.lookup p.1=some .cell\/qz.names.lookup p.1=some .free
theorem pq {α:Type}:∀ {l:List (Str×α)},(l.map (·.1)).Nodup -> ∀ {x:Str}{k:α},(x,k)∈l->l.lookup x=some k
 |(n,v)::r,hn,x,k,h=>by
  obtain⟨h1,h2⟩:=gR.mp hn;rw[eO];rcases b9.mp h with e|hm
  ·cases e;simp
  ·have:(x==n)=false:=by
    rw[j4];intro e;exact h1 (bt.mpr ⟨_,hm,e⟩)
   rw[this];exact pq h2 hm
def Ag (scope:Scope) (L:Addr) (env:Env):Env:=
 { scope:=relabel scope env,locals:=L,globals:=env.globals,cells:=cellsFrom (L+1) scope.names (fZ env.cells scope.names []),qual:=env.qual,func:=none,code:=env.code,frame:=env.frame,builtins:=env.builtins }
theorem F0 {M:Model}{globals:Addr}{cl:List (Str×Addr)}{Q:Env->Shared->Prop}
  (hQ:∀h',h'.Ns s.heap.objs.size (fun _=>none)->(∀b o,s.heap.get? b=some o->h'.get? b=some o)->(∀x c,(x,c)∈cellsFrom (s.heap.objs.size+1) scope.names []->h'.IsCell c none/\s.heap.objs.size < c) ->
   ((cellsFrom (s.heap.objs.size+1) scope.names []).Pairwise fun x y=>x.2≠y.2) ->
   Q { scope:=scope,locals:=s.heap.objs.size,globals:=globals,cells:=cellsFrom (s.heap.objs.size+1) scope.names cl,qual:=qual,func:=none,code:=env.code,frame:=env.frame,builtins:=env.builtins } { s with heap:=h' }) :
  wpAny M A (newFunctionEnv scope globals cl [] qual none .none (some env)) Q E s:=by
 simp only[newFunctionEnv,Option.isSome_some,i9];refine af (wpAny_alloc ?_);refine af (wpAny_layCells _ (fun name kind cells=>by cases Y9:kind==NameKind.cell <;> simp[Y9]) _ _ _ _ ?_)
 have ok:=cellsFrom_ok scope.names (s.heap.push { cls:= .type "dict",data:= .dict #[] }) (s.heap.objs.size+1) [] ⟨fun _ _ hm=>(nomatch hm),List.Pairwise.nil⟩ (by rw[oV];exact aO _)
 rw[oV]at ok;rw[show({ s with heap:=s.heap.push { cls:= .type "dict",data:= .dict #[] } }:Shared).heap.objs.size=s.heap.objs.size+1 from oV ..];rw[List.forIn_nil];refine af (ax (ax ?_));exact hQ _ ((Heap.Ns.new s.heap (.type "dict")).keeps (pushCells_keeps _ _)) (fun b o e=>pushCells_keeps _ _ b o (bj _ e)) (fun x c hm=>⟨(ok.empty x c hm).1,(ok.empty x c hm).2⟩) ok.apart
def b5 (X:Cx) (N':List Str) (scope:Scope) (s2:Shared) (H2:Hp) (fp:List Addr):Cx:=
 { X with N:=N',cT:=s2,iR:=H2,env:=Ag scope s2.heap.objs.size X.env,outer:=X.stack,stack:=X.stack,ex:=fp,fn:=fun x=>scope.names.lookup x==some .cell,pn:= [],xe:=fun _ _=>False }
theorem zG {env:Env}:∀ {names:List (Str×NameKind)}{x:Str}{k:NameKind},
  (names.map fun(n,k)=>if (k==NameKind.free && env.scope.kind == .function && env.kindOf n==some .cell) then (n,NameKind.cell) else (n,k)).lookup x=some k ->
  ∃k0,names.lookup x=some k0/\(k=k0\/(k0 = .free/\k = .cell))
 |[],_,_,h=>by simp at h
 |(n,k0)::r,x,k,h=>by
  have ih:=@zG env r x k;have h':List.lookup x ((if (k0==NameKind.free && env.scope.kind == .function && env.kindOf n==some .cell)=true then (n,NameKind.cell) else (n,k0))::_)=some k:=h;rw[eO]
  by_cases hc:(k0==NameKind.free && env.scope.kind == .function && env.kindOf n==some .cell)=true
  ·rw[aB hc,eO]at h'
   cases hx:x==n with
   |true =>
    rw[hx]at h';cases h';have:k0 = .free:=by
     have z:=hc;rw[k9,k9]at z
     simpa using z.1.1
    exact⟨k0,rfl,.inr ⟨this,rfl⟩⟩
   |false=>rw[hx]at h';exact ih h'
  ·rw[ar hc,eO]at h'
   cases hx:x==n with
   |true=>rw[hx]at h';cases h';exact⟨k0,rfl,.inl rfl⟩
   |false=>rw[hx]at h';exact ih h'
theorem zE {env:Env}:∀ {names:List (Str×NameKind)}{x:Str},names.lookup x=some .free ->
  (names.map fun(n,k)=>if (k==NameKind.free && env.scope.kind == .function && env.kindOf n==some .cell) then (n,NameKind.cell) else (n,k)).lookup x=some .cell \/
  (names.map fun(n,k)=>if (k==NameKind.free && env.scope.kind == .function && env.kindOf n==some .cell) then (n,NameKind.cell) else (n,k)).lookup x=some .free
 |[],_,h=>by simp at h
 |(n,k0)::r,x,h=>by
  have ih:=@zE env r x;show List.lookup x ((if (k0==NameKind.free && env.scope.kind == .function && env.kindOf n==some .cell)=true then (n,NameKind.cell) else (n,k0))::_)=_\/List.lookup x ((if (k0==NameKind.free && env.scope.kind == .function && env.kindOf n==some .cell)=true then (n,NameKind.cell) else (n,k0))::_)=_;rw[eO]at h;cases hx:x==n with
  |true =>
   rw[hx]at h;cases h
   by_cases hc:(NameKind.free==NameKind.free && env.scope.kind == .function && env.kindOf n==some .cell)=true
   ·rw[aB hc,eO,hx];exact .inl rfl
   ·rw[ar hc,eO,hx];exact .inr rfl
  |false =>
   rw[hx]at h
   by_cases hc:(k0==NameKind.free && env.scope.kind == .function && env.kindOf n==some .cell)=true
   ·rw[aB hc,eO,hx];exact ih h
   ·rw[ar hc,eO,hx];exact ih h
def pick (bH:List (Option Nat)) (σ:St):St:=bH.map fun o=>o.bind fun i=>(σ[i]?).join
theorem vC (I:Inv X pins σ H s2) (S:cg X.N X.env.scope N' bH scope) (hx:(x,NameKind.free)∈scope.names):∃c,X.env.cells.lookup x=some c:=
 I.ok.has x (S.free _ hx rfl)
theorem PM (I:Inv X pins σ H s2) (S:cg X.N X.env.scope N' bH scope) {n:Nat}{c:Addr} (h:(cellsFrom n scope.names (fZ X.env.cells scope.names [])).lookup x=some c) :
  ((x,c)∈cellsFrom n scope.names []/\(x,NameKind.cell)∈scope.names)\/((x,NameKind.free)∈scope.names/\X.env.cells.lookup x=some c):=by
 rw[pj,Oe]at h;cases e:(cellsFrom n scope.names []).lookup x with
 |some d =>
  rw[e]at h;have z:d=c:=by simpa using h
  subst z;have m:=kZ e;rcases vq _ _ _ _ _ m with z|z
  ·simp at z
  ·exact .inl ⟨m,z⟩
 |none =>
  rw[e]at h;have h':(fZ X.env.cells scope.names []).lookup x=some c:=by simpa using h
  rcases vt _ _ _ _ h' with z|⟨z,e2⟩
  ·simp at z
  ·obtain⟨c0,h0⟩:=vC I S z
   rw[h0]at e2;exact .inr ⟨z,by rw[h0,e2];rfl⟩
theorem Hz (I:Inv X pins σ H s2) (S:cg X.N X.env.scope N' bH scope) (ye:∀b∈fp,gE X pins H b) (Y':∀b∈fp,∃o,s2.heap.get? b=some o)
  (hn:h'.Ns s2.heap.objs.size (fun _=>none)) (hk:∀b o,s2.heap.get? b=some o->h'.get? b=some o)
  (hc:∀x c,(x,c)∈cellsFrom (s2.heap.objs.size+1) scope.names []->h'.IsCell c none/\s2.heap.objs.size < c) (hp:(cellsFrom (s2.heap.objs.size+1) scope.names []).Pairwise fun x y=>x.2≠y.2) :
  Inv (b5 X N' scope s2 H fp) [] (pick bH σ) H { s2 with heap:=h' }:=by
 have old:∀ {x:Str}{c:Addr},X.env.cells.lookup x=some c->c < s2.heap.objs.size:=fun {x c} e=>let ⟨_,q⟩:=I.cell x c e;q.lt;have cc:∀ {x:Str}{c:Addr},(b5 X N' scope s2 H fp).env.cells.lookup x=some c->((x,c)∈cellsFrom (s2.heap.objs.size+1) scope.names []/\(x,NameKind.cell)∈scope.names)\/((x,NameKind.free)∈scope.names/\X.env.cells.lookup x=some c):=
  fun {x c} e=>PM I S e
 have Za:∀ {x:Str}{c:Addr},(b5 X N' scope s2 H fp).env.cells.lookup x=some c -> ∃v,h'.IsCell c v:=fun {x c} e=>by
  rcases cc e with⟨m,_⟩|⟨_,e0⟩
  ·exact⟨_,(hc x c m).1⟩
  ·obtain⟨v,q⟩:=I.cell x c e0
   exact⟨v,q.keeps hk⟩
 have ik:∀b∈fp,b < s2.heap.objs.size:=fun b hb=>let ⟨_,e⟩:=Y' b hb;bq e;refine⟨⟨I.ok.mod,S.kind,I.ok.glob,I.ok.blt,aO _,fun x y c e1 e2=>?_,fun x hx=>?_,fun x c hx e=>?_,I.ok.hd,I.ok.frames,.inl rfl,fun b hb=>⟨bX (ik b hb),fun x c e z=>?_⟩,I.bs,?_,fun b o e hb=>?_,fun b hb Dd=>?_,I.stack,I.Aw⟩,
  rfl,I.bare,Un.kept hk,⟨_,hn,fun j x v e1 e2 e3=>?_⟩,fun x c e=>Za e,I.aj.fresh (aO _),fun x c e=>?_,fun p hp=>absurd (show p∈([]:List (Addr×Obj)) from hp) (by simp),I.aj.kept hk,?_⟩
 ·rcases cc e1 with⟨m1,_⟩|⟨_,o1⟩ <;> rcases cc e2 with⟨m2,_⟩|⟨_,o2⟩
  ·exact name_of_addr hp m1 m2
  ·exact absurd (rm (hc _ _ m1).2 (old o2)) (mR _)
  ·exact absurd (rm (hc _ _ m2).2 (old o1)) (mR _)
  ·exact I.ok.inj x y c o1 o2
 ·have Zb:∃k0,scope.names.lookup x=some k0/\(k0 = .cell\/k0 = .free):=by
   rcases hx with hx|hx
   ·obtain⟨k0,e,z⟩:=zG (env:=X.env) hx
    refine⟨k0,e,?_⟩;rcases z with z|z
    ·exact .inl z.symm
    ·exact .inr z.1
   ·obtain⟨k0,e,z⟩:=zG (env:=X.env) hx
    refine⟨k0,e,?_⟩;rcases z with z|z
    ·exact .inr z.symm
    ·exact .inr z.1
  obtain⟨k0,e,z⟩:=Zb;show ∃c,(cellsFrom (s2.heap.objs.size+1) scope.names (fZ X.env.cells scope.names [])).lookup x=some c;rw[pj,Oe];rcases z with rfl|rfl
  ·obtain⟨c,kK⟩:=Af (n:=s2.heap.objs.size+1) e
   exact⟨c,by rw[kK];rfl⟩
  ·cases q:(cellsFrom (s2.heap.objs.size+1) scope.names []).lookup x with
   |some d=>exact⟨d,rfl⟩
   |none =>
    obtain⟨c,kK⟩:=vB (cells:=X.env.cells) scope.names [] x (kZ e);exact⟨c,by rw[kK];rfl⟩
 ·have dJ:scope.names.lookup x=some .cell:=by simpa [b5] using hx
  rcases cc e with⟨m,_⟩|⟨m,_⟩
  ·exact u9 (hc _ _ m).2
  ·rw[pq S.keys m]at dJ;cases dJ
 ·rcases cc e with⟨m,_⟩|⟨_,o1⟩
  ·have:=ik b hb
   rw[<-z]at this;exact absurd (rm (hc _ _ m).2 this) (mR _)
  ·exact(ye b hb).2.2.2.2.1 x c o1 z
 ·exact gQ I.ok.jj I.sz
 ·rcases (ye b hb).2.2.2.1 with z|z
  ·exact I.ok.lN b o e z
  ·exact absurd (fQ (bq (I.ok.bs b o e).1) z) (mR _)
 ·have:=I.we b Dd
  rcases b9.mp this with z|z
  ·exact(ye b hb).2.1 z
  ·exact(ye b hb).2.2.1 z
 ·
  have tV:(bH[j]?).bind (fun o=>some (o.bind fun i=>(σ[i]?).join))=some (some v):=by
   have tW:(bH.map fun o=>o.bind fun i=>(σ[i]?).join)[j]? = some (some v):=e2;rw[gS]at tW;cases q:bH[j]? with
   |none=>rw[q]at tW;cases tW
   |some o=>rw[q]at tW;exact tW
  cases q:bH[j]? with
  |none=>rw[q]at tV;cases tV
  |some o =>
   rw[q]at tV;cases o with
   |none=>simp at tV
   |some i =>
    have qA:(σ[i]?).join=some v:=by simpa using tV
    have e4:σ[i]? = some (some v):=by
     cases q2:σ[i]? with
     |none=>rw[q2]at qA;cases qA
     |some z=>rw[q2]at qA;rw[show z=some v from qA]
    obtain⟨y,De,Zc,tX⟩:=S.fv j i q;have Zd:x=y:=by
     have Lv:N'[j]? = some x:=e1;rw[Zc]at Lv;exact(eF Lv).symm
    subst Zd;obtain⟨m,hm,hl⟩:=I.loc;have hf:=S.free _ (kZ tX) rfl;obtain⟨u,r,lk⟩:=hl i x v De e4 (by rcases hf with z|z;exact .inr (.inl z);exact .inr (.inr z))
    refine⟨u,r,.inr ⟨zE tX,?_⟩⟩;rcases lk with⟨k,_⟩|⟨_,c,ec,ic⟩
    ·have k':X.env.scope.names.lookup x=some .local:=k
     rcases hf with z|z <;> (rw[z]at k';cases k')
    ·refine⟨c,?_,ic.keeps hk⟩
     show(cellsFrom (s2.heap.objs.size+1) scope.names (fZ X.env.cells scope.names [])).lookup x=some c;rw[pj,Oe];cases q3:(cellsFrom (s2.heap.objs.size+1) scope.names []).lookup x with
     |some d =>
      rcases vq _ _ _ _ _ (kZ q3) with z|z
      ·simp at z
      ·rw[pq S.keys z]at tX;cases tX
     |none =>
      obtain⟨c',kK⟩:=vB (cells:=X.env.cells) scope.names [] x (kZ tX);rcases vt _ _ _ _ kK with z|⟨_,e5⟩
      ·simp at z
      ·rw[ec]at e5
       rw[kK,e5];rfl
 ·rcases cc e with⟨m,_⟩|⟨_,o1⟩
  ·exact I.aj.fresh (u9 (hc _ _ m).2)
  ·exact I.fY x c o1
 ·show(bH.map _).length=N'.length
  rw[aJ,S.len]
def lQ (X:Cx) (ifs:List Expr) (t:TT):Prop:=
 ∀ (pins:List (Addr×Obj)) (s:Shared) (σ:St) (H:Hp) (Q:Bool->Hp->Prop),Inv X pins σ H s->t σ H Q ->
  wpAny (model X.prog X.w) X.A (forIn ifs true fun c r=>if r=true then do let ok <- isTrue c X.env (eval c X.env);pure (ForInStep.yield ok) else pure (ForInStep.yield r)) (TP X pins σ Q) X.xe s
def wD:TT:=fun _ H Q=>Q true H
theorem gz:lQ X [] wD:=fun _ _ _ H _ I h=>wpAny_tests_nil ⟨H,I,h⟩
theorem m4 {t:TT} (h:PT X c t):lQ X [c] t:=fun pins s σ H Q I hw=>wpAny_tests_one (h pins s σ H Q I hw)
theorem OM {target:Expr}{it:Value} (I:Nat->Shared->Prop)
  (turn:∀n s,I n s->wpAny (model prog w) A (pyNext it) (fun r s1=>match r with
   |none=>R (.ok .next) s1
   |some v=>wpAny (model prog w) A (letOwnedTupleGo target it v) (fun _ s2=>wpAny (model prog w) A (assign target env v) (fun _ s3 =>
     wpAny (model prog w) A (forIn ifs true fun c r=>if r=true then do let ok <- isTrue c env (eval c env);pure (ForInStep.yield ok) else pure (ForInStep.yield r)) (fun ok s4 =>
      if ok=true then wpAny (model prog w) A (eval elt env) (fun x s5 =>
       wpAny (model prog w) A (call (.builtin "list.append") [acc,x]) (fun _ s6=>∃m,m < n/\I m s6) (fun _ _=>False) s5) (fun _ _=>False) s4
      else ∃m,m < n/\I m s4) (fun _ _=>False) s3) (fun _ _=>False) s2) (fun _ _=>False) s1) (fun _ _=>False) s)
  (n:Nat) (h:I n s) :
  codeAny (model prog w) A (.compLoop (.ListComp elt [⟨target,iter,ifs,0⟩] scope pos) 0 it acc env) R s:=by
 refine codeAny_loop rfl I (fun n s hI=>?_) n h;show wpAny _ A ((compTurn (.ListComp elt [⟨target,iter,ifs,0⟩] scope pos) 0 it acc env).onRaise (fun x=>do noteFrame x env;theTreesLotGoes x)) _ _ s;refine wpAny_noted (Ff ?_);rw[compTurn_list];refine af (mT (af (ao (turn n s hI) fun r s1 h1=>?_)));cases r with
 |none=>exact ax h1
 |some v =>
  refine af (ao h1 fun _ s2 h2=>af (ao h2 fun _ s3 h3=>af (ao h3 fun ok s4 h4=>?_)));cases ok with
  |false=>exact ax ⟨rfl,h4⟩
  |true=>exact af (af (ao h4 fun x s5 h5=>af (ao h5 fun _ s6 h6=>ax (ax ⟨rfl,h6⟩))))
def jI (J:It) (g:TG) (ti:TT) (te:TE) (gH:St) (Q:VK) (p:Addr) (H1:Hp):Prop:=
 ∃W:Nat->Nat->List V->St->Hp->Prop,(∃m,W 0 m [] gH (upd H1 p (.lst []))) /\ ∀i m ys τ H2,W i m ys τ H2->H2 p=some (.lst ys) /\
  ((J.stop i H2/\Q (.ref p) H2)\/(J.go i H2 /\ ∀x H3,J.kM i H2 x H3->g x τ H3 fun bV H4=>ti bV H4 fun b H5 =>
   if b=true then te bV H5 fun y H6=>H6 p=some (.lst ys)/\ys.length < sizeLine /\ ∃m',m' < m/\W (i+1) m' (ys ++ [y]) bV (upd H6 p (.lst (ys ++ [y])))
   else ∃m',m' < m/\W (i+1) m' ys bV H5))
def Jg (wi:TI) (bH:List (Option Nat)) (g:TG) (ti:TT) (te:TE):TE:=fun σ H Q=>wi σ H fun J H1=>∀p,H1 p=none->jI J g ti te (pick bH σ) Q p H1
def CompEnd (X:Cx) (pins:List (Addr×Obj)) (σ:St) (Q:VK) (acc:Value) (C:Addr) (s':Shared):Prop:=
 ∃ (p:Addr) (H':Hp),acc = .ref p/\Inv X pins σ H' s'/\gE X pins H' C/\(∃m,s'.heap.Ns C m)/\Q (.ref p) H'
theorem GS {J:It}{tn:Nat->Heap->Prop}{g:TG}{Q:VK}{RR:Value->Addr->Result->Shared->Prop} (hc:X.calm=true) (S:cg X.N X.env.scope N' bH scope)
  (I2:Inv X pins σ H2 s2) (T:Turn X.prog X.w X.K tg J fp it tn) (st:tn 0 s2.heap) (hf:∀b∈fp,gE X pins H2 b)
  (hb:∀s H fp,PG (b5 X N' scope s H fp) tg g/\lQ (b5 X N' scope s H fp) ifs ti/\PE (b5 X N' scope s H fp) elt te)
  (hw:∀p,H2 p=none->jI J g ti te (pick bH σ) Q p H2) (hR:∀acc C s',CompEnd X pins σ Q acc C s'->RR acc C (.ok .next) s') :
  wpAny (model X.prog X.w) X.A (newList []) (fun acc s3=>wpAny (model X.prog X.w) X.A (newFunctionEnv scope X.env.globals (fZ X.env.cells scope.names []) [] X.env.qual none .none (some X.env)) (fun sT s4 =>
   codeAny (model X.prog X.w) X.A (.compStart (.ListComp elt [⟨tg,iter,ifs,0⟩] scope pos) 0 (.ref it) acc { sT with scope:=relabel scope X.env }) (RR acc sT.locals) s4) E s3) E s2:=by
 refine lg ?_;have I3:Inv X pins σ (upd H2 s2.heap.objs.size (.lst [])) { s2 with heap:=s2.heap.push { cls:= .type "list",data:= .seq ([]:List Value).toArray } }:=
  I2.JO (its:= []) (t':=s2.toks) .nil (bw _)
 have hp:=hw s2.heap.objs.size I2.fresh;generalize e3:({ s2 with heap:=s2.heap.push { cls:= .type "list",data:= .seq ([]:List Value).toArray } }:Shared)=s3 at I3 ⊢;generalize eH:upd H2 s2.heap.objs.size (.lst [])=H3 at I3 hp;have ik:∀b∈fp,b < s2.heap.objs.size:=fun b hb=>let ⟨_,e,_⟩:=T.obj _ _ st b hb;bq e;have get3:∀b o,s2.heap.get? b=some o->s3.heap.get? b=some o:=fun b o e=>by rw[<-e3];exact bj _ e
 have l8:tn 0 s3.heap:=T.keep _ _ _ st fun b _ o e=>get3 b o e;have gq:∀b∈fp,gE X pins H3 b:=fun b hb=>⟨by rw[<-eH,ae (bX (ik b hb))];exact(hf b hb).1,(hf b hb).2⟩
 have mh:∀b∈fp,∃o,s3.heap.get? b=some o:=fun b hb=>let ⟨o,e,_⟩:=T.obj _ _ l8 b hb;⟨o,e⟩;refine F0 fun h4 hn hk jT Df=>?_;have I4:Inv (b5 X N' scope s3 H3 fp) [] (pick bH σ) H3 { s3 with heap:=h4 }:=Hz I3 S gq mh hn hk jT Df;have tY:tn 0 ({ s3 with heap:=h4 }:Shared).heap:=T.keep _ _ _ l8 fun b _ o e=>hk b o e;obtain⟨hG,hI,hE⟩:=hb s3 H3 fp;obtain⟨W,⟨m0,w0⟩,turn⟩:=hp;rw[eH]at w0;have jh:∀ {H':Hp},(∀b∈fp,H' b=none) -> ∀b∈fp,gE (b5 X N' scope s3 H3 fp) [] H' b:=fun hn b hb =>
  ⟨hn b hb,(I4.ok.kJ b hb).1,I4.ok.kE b hb,.inl hb,fun x c e=>(I4.ok.kJ b hb).2 x c e,fun p hp=>absurd (show p∈([]:List (Addr×Obj)) from hp) (by simp)⟩
 have loop:codeAny (model X.prog X.w) X.A (.compLoop (.ListComp elt [⟨tg,iter,ifs,0⟩] scope pos) 0 (.ref it) (.ref s2.heap.objs.size) (Ag scope s3.heap.objs.size X.env))
   (RR (.ref s2.heap.objs.size) s3.heap.objs.size) { s3 with heap:=h4 }:=by
  refine OM (fun n s'=>∃i ys τ H',Inv (b5 X N' scope s3 H3 fp) [] τ H' s'/\tn i s'.heap/\(∀b∈fp,H' b=none)/\W i n ys τ H') ?_ m0 ⟨0,[],_,H3,I4,tY,fun b hb=>(gq b hb).1,w0⟩;rintro n s5 ⟨i,ys,τ,H5,I5,kQ,om,w5⟩;obtain⟨hp5,w5⟩:=turn i n ys τ H5 w5;rcases w5 with⟨stop,qn⟩|⟨go,step⟩
  ·refine ao (T.done (b5 X N' scope s3 H3 fp) rfl rfl rfl hc i [] s5 τ H5 _ I5 (jh om) kQ stop) fun r s6 ⟨hr,I6⟩=>?_
   subst hr;refine hR _ _ _ ⟨_,H5,rfl,?_,?_,?_,qn⟩
   ·exact I3.wA (s':=s6) (ch:=fp) I6.os I6.base I6.aj I6.bare fun b hb=>⟨(gq b hb).2.2.2.1,(gq b hb).2.1,(gq b hb).2.2.2.2.1,(gq b hb).2.2.2.2.2⟩
   ·exact I3.iS (aO _) I6.free
   ·obtain⟨m,hm,_⟩:=I6.loc
    exact⟨m,hm⟩
  ·refine ao (T.item (b5 X N' scope s3 H3 fp) rfl rfl rfl hc i [] s5 τ H5 _ I5 (jh om) kQ go) fun r s6 ⟨u,hr,h6⟩=>?_
   subst hr;refine ao h6 fun _ s7 ⟨x,H7,I7,r7,y7,oE,Dg⟩=>?_;have Dh:=I7.pinned (jh Dg) (T.obj _ _ oE);refine ao (hG _ s7 τ H7 x u _ Dh r7 (step x H7 y7)) fun _ s8 ⟨qB,H8,I8,q8⟩=>?_;refine ao (hI _ s8 qB H8 _ I8 q8) fun b s9 ⟨H9,I9,q9⟩=>?_;have again:∀ {fu:St}{H':Hp}{s':Shared}{cP:List V}{m':Nat},Inv (b5 X N' scope s3 H3 fp) ([]++pM fp s7.heap) fu H' s'->m' < n->W (i+1) m' cP fu H' ->
     ∃m,m < n /\ ∃i ys τ H',Inv (b5 X N' scope s3 H3 fp) [] τ H' s'/\tn i s'.heap/\(∀b∈fp,H' b=none)/\W i m ys τ H':=fun {fu H' s' cP m'} I' hm w'=>by
    refine⟨m',hm,i+1,cP,fu,H',I'.rO,T.keep _ _ _ oE fun b hb o e=>(I'.pin (b,o) (eZ _ (eZ _ (pw hb e)))).1,fun b hb=>?_,w'⟩;obtain⟨o,e,d⟩:=T.obj _ _ oE b hb;exact(I'.pin (b,o) (eZ _ (eZ _ (pw hb e)))).2.1
   cases b with
   |false =>
    obtain⟨m',hm,w'⟩:=q9;exact again I9 hm w'
   |true =>
    refine ao (hE _ s9 qB H9 _ I9 q9) fun y Lw ⟨z,oF,Di,Ze,WK,WL,m',hm,w'⟩=>?_;refine ao (pA _ Lw qB oF (.ref s2.heap.objs.size) [z] (.ref s2.heap.objs.size) [y] (fun _ H'=>H'=upd oF s2.heap.objs.size (.lst (ys ++ [z]))) Di rfl (.cons Ze .nil) ⟨_,_,_,rfl,rfl,WK,WL,rfl⟩) fun _ s11 ⟨_,Zf,Zg,_,Zh⟩=>?_;subst Zh;exact again Zg hm w'
 exact codeAny_compStart_list loop (T.self X.A 0 _ _ _ tY loop)
theorem gk {wi:TI}{g:TG} (hc:X.calm=true) (S:cg X.N X.env.scope N' bH scope) (hi:PI X tg iter wi)
  (hb:∀s H fp,PG (b5 X N' scope s H fp) tg g/\lQ (b5 X N' scope s H fp) ifs ti/\PE (b5 X N' scope s H fp) elt te)
  (hs:∀x,foldedSetIterable iter X.env x=pure x:=by intro _;rfl):PE X (.ListComp elt [⟨tg,iter,ifs,0⟩] scope pos) (Jg wi bH g ti te):=by
 intro pins s σ H Q I h;rw[eval_ListComp];refine Of (use:=none) rfl hs (zH fun n hn=>vC I S hn) S.kind (fun x hx hl=>pq S.keys (by rw[<-hl];exact hx)) ?_
 refine ao (hi pins s σ H _ I h) fun v s1 h1=>ao h1 fun tM s2 h2=>?_;obtain⟨it,fp,tn,J,H2,e,I2,T,jS,f2,hw⟩:=h2;subst e;refine GS (RR:=fun acc C=>compPost (model X.prog X.w) X.A X.xe none (EP X pins σ Q) acc C) hc S I2 T jS f2 hb hw ?_;rintro acc C s' ⟨p,H',rfl,I',fC,⟨m,hm⟩,q⟩;refine⟨m,hm,fun h' mi=>⟨.ref p,H',?_,rfl,q⟩⟩;exact I'.turned (it:=C) (t':=s'.toks) (fun b o hb e=>(mi.2 b hb).trans e) fC.1 fC.2.1 fC.2.2.2.1 fC.2.2.2.2.1 fC.2.2.2.2.2
theorem rG {wi:TI}{g:TG}{JQ:Pos} (hc:X.calm=true) (S:cg X.N X.env.scope N' bH scope) (hN:X.N.Nodup) (hx:X.N[i]? = some x) (hl:X.env.scope.names.lookup x=some .local) (hi:PI X tg iter wi)
  (hb:∀s H fp,PG (b5 X N' scope s H fp) tg g/\lQ (b5 X N' scope s H fp) ifs ti/\PE (b5 X N' scope s H fp) elt te)
  (Zi:swapsWith (.ListComp elt [⟨tg,iter,ifs,0⟩] scope pos) (some (.Name x pos')) JQ.line X.env=pure true:=by rfl)
  (hs:∀x,foldedSetIterable iter X.env x=pure x:=by intro _;rfl):PS X (.Assign [.Name x pos'] (.ListComp elt [⟨tg,iter,ifs,0⟩] scope pos) JQ) (Bz (Jg wi bH g ti te) (nF i)):=by
 intro pins s σ H D I h;rw[exec_Assign_Name_used _ _ _ _ Zi];refine af (mT (af ?_));show wpAny _ X.A (do let _ <- comprehension (.ListComp elt [⟨tg,iter,ifs,0⟩] scope pos) scope X.env _ (newList []) false (eval iter X.env) (some (assign (.Name x pos') X.env))) _ _ s;refine af (ao (Of (use:=some (assign (.Name x pos') X.env)) (Q:=fun _ s'=>SP X pins D .next s') rfl hs (zH fun n hn=>vC I S hn) S.kind (fun x hx hl=>pq S.keys (by rw[<-hl];exact hx)) ?_) fun _ s' hq=>ax (ax hq))
 refine ao (hi pins s σ H _ I h) fun v s1 h1=>ao h1 fun tM s2 h2=>?_;obtain⟨it,fp,tn,J,H2,e,I2,T,jS,f2,hw⟩:=h2;subst e;refine GS (Q:=fun v H'=>D.nx (σ.set i (some v)) H') (RR:=fun acc C=>compPost (model X.prog X.w) X.A X.xe (some (assign (.Name x pos') X.env)) (fun _ s'=>SP X pins D .next s') acc C) hc S I2 T jS f2 hb hw ?_;rintro acc C s' ⟨p,H',rfl,I',fC,⟨m,hm⟩,q⟩;show wpAny (model X.prog X.w) X.A (assign (.Name x pos') X.env (.ref p)) _ _ s';refine wpAny_assign_Name (Gs (v:= .ref p) I' hN hx (.inl hl) rfl (fun tO Zj ⟨a,Zk,ha⟩=>?_) (.inr hl));have Zl:C≠a:=by
  rcases ha with ha|ha
  ·rw[ha];exact fC.2.1
  ·exact fun z=>fC.2.2.2.2.1 _ _ ha z.symm
 refine⟨m,hm.sameBut Zk Zl,fun h' mi=>⟨_,H',?_,q⟩⟩;exact Zj.turned (it:=C) (t':=tO.toks) (fun b o hb e=>(mi.2 b hb).trans e) fC.1 fC.2.1 fC.2.2.2.1 fC.2.2.2.2.1 fC.2.2.2.2.2
end L2
namespace L2
open PySem PySem.Spec PyProof.Rows PySem.W PySem.Builtin.ObjectAttr
def jE (h:Heap) (C:Addr) (us:List Value):Heap:=(h.push { cls:= .type "tuple",data:= .seq us.toArray }).push { cls:= .ref C,data:= .fields #[.ref h.objs.size,.none,.none,.none,.bool false,.none] }
theorem rD (e:h.get? b=some o):(jE h C us).get? b=some o:=bj _ (bj _ e)
theorem GV:(jE h C us).get? (h.objs.size+1)=some { cls:= .ref C,data:= .fields #[.ref h.objs.size,.none,.none,.none,.bool false,.none] }:=by
 unfold jE;heap_get
section
variable{gs:Array GenState}{dr:Drawn}{tk:Nat}{os:OsState}
variable{qn:Str}{N:Addr}{bases up yf:List Value}{w8:Bool}{sl:List Str}{subs:List Value}{JR:Bool}{JS:Option Bool}{e0 e1 e2 e3 e5:Option Value}{B yg Lx:String}
variable{mN:Str->Option Value}{oI:Obj}
theorem OK {Q:Fin->Shared->Prop} (F:ExcBaseFacts B yg Lx yf) (T:OwnTail h yf up) (atC:h.get? C=some (excClassObj cn qn C N bases up w8 sl subs JR JS od e0 e1 e2 e3 e5 yg)) (Dj:h.Ns N mN)
  (hi:mN "__init__" = some (.ref fI)) (c7:h.get? fI=some oI) (Dk:oI.cls = .type "function") (a8:us.length<=sizeLine)
  (run:wpAny (model P w) A (call (.ref fI) (.ref (h.objs.size+1)::us)) (fun r s'=>r = .none/\Q (.done (.ret (.ref (h.objs.size+1)))) s') E ⟨jE h C us,gs,dr,tk,os⟩) :
  wpAny (model P w) A (Builtin.«type.__call__» ⟨.ref C::us,[]⟩) Q E ⟨h,gs,dr,tk,os⟩:=by
 repeat (first|with_reducible refine zt atC ?_|with_reducible refine wpAny_madeBy_exc atC ?_|wp_step)
 refine codeAny_call_builtin_code (Code.quiet_builtin _ F.quiet) (wpAny_check_new_subT F T atC (codeAny_exc_new_subT F T atC ?_ a8));show wpAny _ _ _ _ _ (⟨jE h C us,gs,dr,tk,os⟩:Shared);have JT:(jE h C us).get? C=_:=rD atC;have Zm:(jE h C us).get? (h.objs.size+1)=_:=GV;have has:(Value.ref C::up).contains (.ref C)=true:=List.contains_iff_mem.mpr br;unfold isInstance
 repeat (first|with_reducible refine zt Zm ?_|(with_reducible refine wpAny_isSubtype_exc JT ?_;rw[has])|wp_step)
 refine wpAny_typeLookup_tail (mN:=mN) JT (Dj.keeps fun _ _ e=>rD e) (T.keeps fun _ _ e=>rD e) F.mroIs F.init.lookup ?_;rw[hi];refine gw (af (show wpAny _ _ (bindSpecial _ _) _ _ _ from ?_));unfold bindSpecial;refine af (oZ (T:= "function") ⟨oI,rD c7,Dk⟩ ?_);rw[aB (show _ from by decide)]
 refine ax (af (ao run fun r s' hr=>?_));obtain⟨rfl,q⟩:=hr
 wp_walk
 exact q
theorem OQ (F:ExcBaseFacts B yg Lx yf) (T:OwnTail h yf up) (atC:h.get? C=some (excClassObj cn qn C N bases up w8 sl subs JR JS od e0 e1 e2 e3 e5 yg)) (Dj:h.Ns N mN)
  (hi:mN "__init__" = some (.ref fI)) (c7:h.get? fI=some oI) (Dk:oI.cls = .type "function") (a8:us.length<=sizeLine)
  (run:wpAny (model P w) (A.under (.builtin "type.__call__" ⟨.ref C::us,[]⟩)) (call (.ref fI) (.ref (h.objs.size+1)::us)) (fun r s'=>r = .none/\Q (.ref (h.objs.size+1)) s') E ⟨jE h C us,gs,dr,tk,os⟩) :
  wpAny (model P w) A (call (.ref C) us) Q E ⟨h,gs,dr,tk,os⟩:=by
 have l1:=tc_lookup;have l2:=tc_bind (.ref C);have ty:(⟨h,gs,dr,tk,os⟩:Shared).TypeIs (.ref C) "type" :=⟨_,atC,rfl⟩;refine oW (codeAny_of_tree (show wpAny _ _ (callAny (.ref C) _) _ _ _ from ?_))
 repeat (any_goals (first|assumption|with_reducible refine zt atC ?_|wp_step))
 exact⟨rfl,codeAny_call_builtin_at (Code.quiet_builtin _ (by decide +kernel)) entry_typeCall (wpAny_check_type_call_sub atC (OK F T atC Dj hi c7 Dk a8 run))⟩
end
abbrev yh:List Value:= [.type "ValueError",.type "Exception",.type "BaseException",.type "object"]
def iB (K:Frag) (C:Addr) (i:Option Value):Bool:=
  match K.lookup C with
  |some ⟨.type "type",_,.cls cls,slots⟩ =>
    (match cls.mro,slots.toList with
     |.ref C'::up,[_,_,_,_,some (.builtin n),_]=>C'==C && (n == "ValueError.__new__" && (!cls.hasDel && (tailIn K yh up && (nsOkIn K cls.ns && nsIn K cls.ns "__init__" == some i))))
     |_,_=>false)
  |_=>false
theorem PN {N:Addr}{mp:Str->Option Value}{v:Value} (X:K.In h) (G:h.Ns N mp) (e:nsIn K N n=some (some v)):mp n=some v:=by
 obtain⟨ob,ens,_,at_,da,_,look⟩:=G;unfold nsIn at e;split at e
 next _ _ _ _ _ q =>
  have two:=X _ _ q;rw[at_]at two;cases two;cases da
  split at e
  next en he =>
   cases e
   rw[<-look,nsFind,findBy,<-Array.find?_toList,he];rfl
  next=>split at e <;> cases e
 next=>cases e
structure ExcAt (h:Heap) (C:Addr) (i:Option Value):Prop where
 ex:∃bm N nm q bs BH sn sub ab col dd k0 k1 k2 k3 k5 mN,h.get? C=some (excClassObj nm q C N bs bm BH sn sub ab col dd k0 k1 k2 k3 k5 "ValueError.__new__")/\h.Ns N mN/\mN "__init__" = i/\OwnTail h yh bm
theorem vD {i:Option Value} (X:K.In h) (q:iB K C i=true):ExcAt h C i:=by
 unfold iB at q;split at q
 next od cls slots at_ =>
  split at q
  next C' up a0 a1 a2 a3 n a5 em es =>
   obtain⟨p1,q⟩:=vf.mp q;obtain⟨p2,q⟩:=vf.mp q;obtain⟨p3,q⟩:=vf.mp q;obtain⟨p4,q⟩:=vf.mp q;obtain⟨p5,p6⟩:=vf.mp q;have e1:=dX.mp p1;have e2:=dX.mp p2;have e3:cls.hasDel=false:=by simpa using p3
   have e6:=dX.mp p6;subst e1 e2;obtain⟨nm,bs,mro,ns,qn,hd,sn,sb,ab,col,del⟩:=cls;have Zn:mro=_:=em;have qA:del=false:=e3;subst Zn qA;obtain rfl:slots = #[a0,a1,a2,a3,some (.builtin "ValueError.__new__"),a5]:=by cases slots;exact d7 Array.mk es
   refine⟨⟨up,ns,nm,qn,bs,hd,sn,sb,ab,col,od,a0,a1,a2,a3,a5,h.nsMap ns,X _ _ at_,.of_isNs (isNs_of_in X p5),?_,tail_of_in X p4⟩⟩;cases i with
   |none=>exact nsMap_none_of_in X p5 e6
   |some v=>exact PN X (.of_isNs (isNs_of_in X p5)) e6
  next=>cases q
 next=>cases q
def pV:List Value->Bool
 |.ref _::r=>pV r
 |l=>l==yh
theorem Pb:∀ {l:List Value},pV l=true->l=yh \/ ∃a r,l = .ref a::r/\pV r=true
 |[],e=>.inl (dX.mp e)
 |.ref a::r,e=>.inr ⟨a,r,rfl,e⟩
 |.none::r,e=>.inl (dX.mp e)
 |.bool b::r,e=>.inl (dX.mp e)
 |.int i t::r,e=>.inl (dX.mp e)
 |.float i t::r,e=>.inl (dX.mp e)
 |.str i t::r,e=>.inl (dX.mp e)
 |.bytes i t::r,e=>.inl (dX.mp e)
 |.type i::r,e=>.inl (dX.mp e)
 |.builtin i::r,e=>.inl (dX.mp e)
theorem Rp (self:Value) (l:List Value):pV l=true->refuseLoop self "__setattr__" l=pure ():=by
 induction l with
 |nil=>intro e;exact absurd e (by decide)
 |cons v r ih =>
  intro e;rcases Pb e with q|⟨a,r',q,e'⟩
  ·rw[q];kernel_rfl
  ·cases q
   rw[refuseLoop_ref];exact ih e'
structure f6 (K:Frag) (C:Addr):Prop where
 ga:findIn K (.ref C) "__getattribute__" = some (some (.builtin "BaseException.__getattribute__"))
 gh:findIn K (.ref C) "__getattr__" = some none
 sa:findIn K (.ref C) "__setattr__" = some (some (.builtin "object.__setattr__"))
 hd:hasDictIn K C=true
 ov:((clsIn K C).any fun cd=>pV cd.mro)=true
 be:mroIn K C (.type "BaseException")=some true
 ve:mroIn K C (.type "ValueError")=some true
 ob:mroIn K C (.type "object")=some true
 ka:findIn K (.ref C) "__class__" = some (some (.builtin "object.__class__"))
 kn:specialIn K (.builtin "object.__class__") "__get__" = some (some (.builtin "getset_descriptor.__get__"))
 kt:takesIn K (.builtin "object.__class__")=some true
section
variable{x:Addr}{od:Option Obj}
theorem Qr {v:Value} (X:K.In s.heap) (I:InstAt s.heap x ox C od) (c:f6 K C) (no:findIn K (.ref C) name=some none)
  (go:wpAny (model prog w) A.in1 (storeInOwnDict (.ref x) (.ref C) (.str name tk) name v false) (fun fin s'=>match fin with|.done f=>R (.ok f) s'|.again c'=>c'.quiet=true/\codeAny (model prog w) A c' R s') (fun e s'=>R (.error e) s') s) :
  codeAny (model prog w) A (.call (.builtin "object.__setattr__") ⟨[.ref x,.str name tk,v],[]⟩) R s:=by
 obtain⟨cls,ic,ok⟩:=zu c.ov;have ty:Looks (model prog w) s.heap (typeOf (.ref x)) (.ref C):=I.type;have up:Looks (model prog w) s.heap (mroOf (.ref C)) cls.mro:=Looks.andThen (looks_clsIn X ic) Looks.now;have Vf:Looks (model prog w) s.heap (typeLookup (.ref C) name) none:=looks_findIn X no;refine Og zv.slot.plain zv.entry (@check_slot (model prog w) _ _ s _ _ _ (.ref x) [.str name tk,v] [] _ zv.kind zv.split (ty.andThen (Fg X c.ob)) (zv.args _ _ _) ?_);rw[osa_eq,refuse_eq];refine af (af (ty.here (af (up.here ?_))));rw[Rp _ _ ok];refine ax (show wpAny _ _ _ _ _ s from ?_);exact af (ty.here (af (Vf.here (af (ax go)))))
theorem GX {fill:Bool} (X:K.In s.heap) (I:InstAt s.heap x ox C od) (c:f6 K C)
  (h:wpAny (model prog w) A.in1 (Builtin.«object.__getattribute__» ⟨[.ref x,.str name tk],[]⟩) (fun fin s'=>match fin with|.done (.ret v)=>wpAny (model prog w) A (handedOut v) Q E s'|_=>False) (fun _ _=>False) s) :
  wpAny (model prog w) A (getAttrBy (.ref x) (.str name tk) fill expr) Q E s:=by
 have L0:=I.type (M:=model prog w);have L1:=looks_findIn (M:=model prog w) X c.ga;have L2:=looks_findIn (M:=model prog w) X c.gh;have sub:Looks (model prog w) s.heap (isInstance (.ref x) (.type "BaseException")) true:=I.type.andThen (Fg X c.be);have gJ:(Value.builtin "BaseException.__getattribute__" == Value.builtin "object.__getattribute__")=false:=by decide +kernel
 have jU:(onTheHeap (Value.ref C) && Value.builtin "BaseException.__getattribute__" == Value.builtin "object.__getattribute__")=false:=by rw[gJ];rfl
 have hk:builtinKind "BaseException.__getattribute__" = some .slot:=by decide +kernel
 have Uk:splitId "BaseException.__getattribute__" = some ("BaseException","__getattribute__"):=by decide +kernel
 unfold getAttrBy;refine gw (af (L0.here (af (L1.here ?_))))
 dsimp only
 rw[jU];show wpAny _ _ (getAttrByItsOwn _ _ _ _ _ _) _ _ _;unfold getAttrByItsOwn hookBefore;refine af ?_;rw[aB (show onTheHeap (Value.ref C)=true from rfl)];refine L2.here (af (Fh (gw ?_)));unfold callGetattribute;rw[ar (show ¬ (expr && onTheHeap (Value.builtin "BaseException.__getattribute__"))=true by cases expr <;> decide)]
 unfold boundAndCalled;rw[afp.ga.bind];refine af (ax (oW (Og afp.ga.plain PySem.F.entry_bexc_ga (@check_slot (model prog w) _ _ s "BaseException.__getattribute__" "BaseException" "__getattribute__" (.ref x) [.str name tk] [] _ hk Uk sub (PySem.F.args_bexc_ga _ _) ?_))));refine j6 h (fun fin s' z=>?_) fun _ _ z=>z.elim;rcases fin with(_|_|_|_)|_ <;> first|exact z|exact z.elim
theorem Qs {v:Value}{Q:Fin->Shared->Prop} (X:K.In s.heap) (I:InstAt s.heap x ox C od) (hf:findObj K C od name=some (.value v)) (h:Q (.done (.ret v)) s) :
  wpAny (model prog w) A (Builtin.«object.__getattribute__» ⟨[.ref x,.str name tk],[]⟩) Q E s:=by
 have L0:=I.type (M:=model prog w);have L1:=looks_find (M:=model prog w) X I hf;refine af (ax (af (ax (af (L0.here (af (L1.here ?_)))))));exact ax h
theorem Sj {v:Value} (X:K.In s.heap) (I:InstAt s.heap x ox C od) (c:f6 K C) (hf:findObj K C od name=some (.value v)) (hh:handedIn v=true)
  (h:Q v { s with toks:=s.toks+1 }):wpAny (model prog w) A (getAttr (.ref x) name expr) Q E s:=by
 unfold getAttr;refine af (wpAny_mkText ?_);exact GX (s:={ s with toks:=s.toks+1 }) X I c (Qs (s:={ s with toks:=s.toks+1 }) X I hf (handed_on hh h))
theorem Qt {Q:Option Value->Shared->Prop} (X:K.In s.heap) (I:InstAt s.heap x ox C od) (c:f6 K C) (h:Q (some (.ref C)) { s with toks:=s.toks+1 }):wpAny (model prog w) A (getAttr? (.ref x) "__class__") Q E s:=by
 have hf:findObj K C od "__class__" = some (.bind (.builtin "getset_descriptor.__get__") (.builtin "object.__class__")):=by
  obtain⟨cd,hc,_⟩:=zu c.hd;unfold findObj;rw[hc,Fi,c.ka,Fi]
  dsimp only
  rw[c.kn,Fi]
  dsimp only
  rw[c.kt,Fi]
 unfold getAttr? getAttrBy?;refine af (wpAny_mkText (af (Fh ?_)));have L0:=I.type (M:=model prog w);have L1:=looks_find (M:=model prog w) X I hf;refine GX (s:={ s with toks:=s.toks+1 }) X I c ?_;refine af (ax (af (ax (af (Looks.here (s:={ s with toks:=s.toks+1 }) L0 (af (Looks.here (s:={ s with toks:=s.toks+1 }) L1 ?_)))))));show wpAny _ _ (holding [.builtin "object.__class__"] (call (.builtin "getset_descriptor.__get__") [.builtin "object.__class__",.ref x,.ref C]) >>= ret) _ _ _;refine af (gw (oW (class_get (s:={ s with toks:=s.toks+1 }) (ox:=ox) (od:=od) X I c.ob ?_)));exact ax (handed_on rfl (ax h))
theorem PQ {M:Model} (X:K.In h) (c:f6 K C):Looks M h (isType (.ref C)) true:=by
 obtain⟨cls,ic,_⟩:=zu c.hd;unfold clsIn at ic;split at ic
 next at_ =>
  intro A' Q' E' s' k q;exact af (E8 (part:=some headPart) (k _ _ (X _ _ at_)) (ax q))
 next=>cases ic
theorem HA (c:f6 K C):KitX K (.ref x) (.ref C) (fun h=>InstAt h x ox C od) where
 ty:=fun _ _ _ I=>I.type
 it:=fun _ _ X _=>PQ X c
 ne:=fun h tp _ _ _ _ X tup=>by
  obtain⟨cls,ic,_⟩:=zu c.hd;cases q:(Value.ref C == .ref tp) with
  |false=>rfl
  |true =>
   have e:C=tp:=Value.ref.inj (dX.mp q);unfold clsIn at ic;split at ic
   next at_ =>
    have two:=(X _ _ at_).symm;rw[e,tup]at two;cases two
   next=>cases ic
 ca:=fun X I k=>Qt X I c k
end
theorem a9.there {o:HO} (x:a9 P w H h a o):∃ob,h.get? a=some ob:=by
 cases o with
 |lst xs=>obtain⟨_,_,_,_,e⟩:=x;exact⟨_,e⟩
 |tup xs=>obtain⟨_,_,_,ob,e,_⟩:=x;exact⟨_,e⟩
 |dK kvs=>obtain⟨_,_,_,_,o,_,_,e,_⟩:=x;exact⟨_,e⟩
 |dT kvs=>obtain⟨_,_,_,_,o,_,_,e,_⟩:=x;exact⟨_,e⟩
 |set S n=>obtain⟨o,_,_,_,e,_⟩:=x;exact⟨_,e⟩
 |ins C dx fs=>obtain⟨_,_,_,e,_⟩:=x;exact⟨_,e⟩
 |own y=>exact x
 |xd fs=>obtain⟨_,⟨_,_,_,e,_⟩,_⟩:=x;exact⟨_,e⟩
 |tG lo hi=>obtain⟨_,_,_,e⟩:=x;exact⟨_,e⟩
 |a6 ob u=>obtain⟨e,_⟩:=x;exact⟨_,e⟩
 |kI ps=>exact⟨_,x⟩
 |met f y=>exact⟨_,x⟩
 |ext φ=>exact x.2.1
section
variable{o:HO}
theorem Inv.AX (I:Inv X pins σ H s) (e:s.heap.get? a=none):H a=none:=by
 cases q:H a with
 |none=>rfl
 |some u =>
  obtain⟨ob,z⟩:=(I.aj a u q).there;rw[e]at z;cases z
theorem Inv.put (I:Inv X pins σ H s) (k:∀b u,s.heap.get? b=some u->h'.get? b=some u) (e:s.heap.get? a=none) (new:a9 X.prog X.w (upd H a o) h' a o):Inv X pins σ (upd H a o) { s with heap:=h' }:=by
 have hn:=I.AX e;have ne:∀b u,s.heap.get? b=some u->b≠a:=fun b u q z=>by rw[z,e]at q;cases q
 refine I.un (t':=s.toks) ⟨fun b u q n _ _=>k b u q,fun b u q n _ _=>⟨u.slots,k b u q⟩,fun b u q n _=>by rw[ae (ne b u q)];exact n,fun b u q _=>⟨u,k b u q⟩,fun b xs q=>by rw[ae (au q hn)];exact q,
  fun b u v q=>by rw[ae (au q hn)];exact q,fun b ps q=>⟨#[],by rw[ae (au q hn),q];simp⟩⟩ fun b u q=>?_
 by_cases hb:b=a
 ·subst hb;rw[ag]at q;cases q;exact new
 ·rw[ae hb]at q
  exact(I.aj b u q).eK (fun c v _ z=>k c v z) (fun c z=>by rw[ae (au z hn)];exact z) fun c xs z=>by rw[ae (au z hn)];exact z
end
def cy (C:Addr) (dx:Option Addr) (a:Addr):HO:= .ext fun h=>∃t,h.get? a=some { cls:= .ref C,dict:=dx,data:= .fields #[.ref t,.none,.none,.none,.bool false,.none] }
def gF (d:Addr) (fs:List (Str×V)):HO:= .ext fun h=>fs.length<=100 /\ ∃mA,h.Ns1 d mA/\(∀f,eJ (fs.lookup f) (mA f))/\PySem.Within mA (fs.map (·.1))
section
variable{fs:List (Str×V)}
theorem Az {t:Addr} (e:h.get? a=some { cls:= .ref C,dict:=dx,data:= .fields #[.ref t,.none,.none,.none,.bool false,.none] }):a9 P w H h a (cy C dx a):=
 ⟨⟨t,e⟩,⟨_,e⟩,fun _ _ ⟨t,q⟩ k=>⟨t,k _ q⟩⟩
theorem Sm (z:fs.length<=100) (n:h.Ns1 d mA) (r:∀f,eJ (fs.lookup f) (mA f)) (wi:PySem.Within mA (fs.map (·.1))):a9 P w H h d (gF d fs):=
 ⟨⟨z,mA,n,r,wi⟩,(let ⟨o,_,_,e,_⟩:=n;⟨o,e⟩),fun _ _ ⟨z,mA,n,r⟩ k=>⟨z,mA,n.at k,r⟩⟩
end
section
variable{fs:List (Str×V)}{f:Str}
theorem Inv.excAt (I:Inv X pins σ H s) (e:H a=some (cy C dx a)):∃t,s.heap.get? a=some { cls:= .ref C,dict:=dx,data:= .fields #[.ref t,.none,.none,.none,.bool false,.none] }:=(I.aj a _ e).1
theorem Inv.AA (I:Inv X pins σ H s) (e:H d=some (gF d fs)):fs.length<=100 /\ ∃mA,s.heap.Ns1 d mA/\(∀f,eJ (fs.lookup f) (mA f))/\PySem.Within mA (fs.map (·.1)):=(I.aj d _ e).1
theorem PR {Q:Unit->Shared->Prop} (I:Inv X pins σ H s) (e:H a=some (cy C none a)) (c:f6 X.K C) (no:findIn X.K (.ref C) f=some none) (ry:RelV y u)
  (h:∀d s',H d=none->d≠a->Inv X pins σ (upd (upd H d (gF d [(f,y)])) a (cy C (some d) a)) s'->Q () s'):wpAny (model X.prog X.w) A (setAttr (.ref a) f u) Q E s:=by
 obtain⟨t,at_⟩:=I.excAt e;have J:InstAt s.heap a _ C none:=⟨at_,rfl,rfl,True.intro⟩;refine PySem.W.set_plain I.bB J c.sa (Qr (s:={ s with toks:=s.toks+1 }) I.bB J c no ?_);obtain⟨cls,ic,w8⟩:=zu c.hd;refine af (ax (af (show wpAny _ _ (instanceDict a true) _ _ _ from ?_)));refine af (E8 (s:={ s with toks:=s.toks+1 }) at_ (af (Looks.here (s:={ s with toks:=s.toks+1 }) (looks_clsIn I.bB ic) ?_)));rw[w8];refine af (wpAny_alloc ?_);have fresh:s.heap.get? s.heap.objs.size=none:=zp (aO _);have na:a≠s.heap.objs.size:=bX (bq at_);have mj:(s.heap.push { cls:= .type "dict",data:= .dict #[] }).get? a=_:=bj _ at_;refine af (wpAny_update (s:={ s with heap:=s.heap.push { cls:= .type "dict",data:= .dict #[] },toks:=s.toks+1 }) mj (ax ?_));generalize eh:(s.heap.push { cls:= .type "dict",data:= .dict #[] }).update a (fun o=>{ o with dict:=some s.heap.objs.size })=h1;have at2:h1.get? a=some { cls:= .ref C,dict:=some s.heap.objs.size,data:= .fields #[.ref t,.none,.none,.none,.bool false,.none] }:=by
  rw[<-eh];exact Oc _ mj rfl
 have tZ:∀b o,b≠a->s.heap.get? b=some o->h1.get? b=some o:=fun b o hb q=>by
  rw[<-eh,rj _ _ (aV hb)];exact bj _ q
 have Zo:h1.get? s.heap.objs.size=some { cls:= .type "dict",data:= .dict #[] }:=by
  rw[<-eh,rj _ _ na];exact cK _ rfl
 have n0:h1.Ns1 s.heap.objs.size (fun _=>none):=Heap.Ns1.of_empty ⟨_,#[],_,Zo,rfl,(fun e he=>absurd he (by simp)),fun _=>rfl⟩
 refine af (ax (af (wpAny_nsSet1 (s:={ s with heap:=h1,toks:=s.toks+1 }) n0 fun h2 n2 sb=>?_)));have w0:PySem.Within (fun _=>none) ([]:List Str):=fun g hg=>absurd rfl hg;obtain⟨oD,Y1,Y2,C3,ou,C4⟩:=n2.count (PySem.Within.cons f u w0);refine af (wpAny_lookBehind C3 (by rw[ou];exact pastItsLine_dict (gQ C4 (by rw[gi,jx,aT];decide))) (ax ?_))
 refine h s.heap.objs.size _ (I.AX fresh) (aV na) ?_;have Zp:=I.AX fresh;have pW:∀b o,b≠a->s.heap.get? b=some o->h2.get? b=some o:=fun b o hb q=>(sb.2 b (fun z=>by rw[z,fresh]at q;cases q)).trans (tZ b o hb q)
 have at3:h2.get? a=_:=(sb.2 a na).trans at2;have heD:upd H s.heap.objs.size (gF s.heap.objs.size [(f,y)]) a=some (cy C none a):=by rw[ae na];exact e
 have I1:Inv X pins σ (upd H a (cy C (some s.heap.objs.size) a)) { s with heap:=h1,toks:=s.toks+1 }:=by
  refine I.write (x:=a) (e:=a) (by rw[e];exact True.intro) (.inl rfl) (fun b u hb q=>tZ b u hb q) ⟨_,at2⟩ (Az at2)
 have qC:upd H a (cy C (some s.heap.objs.size) a) s.heap.objs.size=none:=by rw[ae (aV na)];exact Zp
 have cm:upd (upd H s.heap.objs.size (gF s.heap.objs.size [(f,y)])) a (cy C (some s.heap.objs.size) a)=upd (upd H a (cy C (some s.heap.objs.size) a)) s.heap.objs.size (gF s.heap.objs.size [(f,y)]):=by
  funext b
  unfold upd
  by_cases h1:b=a
  ·subst h1;rw[aB rfl,ar na,aB rfl]
  ·rw[ar h1]
   by_cases h2:b=s.heap.objs.size
   ·rw[aB h2,aB h2]
   ·rw[ar h2,ar h2,ar h1]
 rw[cm];have yi:upd H a (cy C (some s.heap.objs.size) a) a=some (cy C (some s.heap.objs.size) a):=ag;have fp:gE X pins (upd H a (cy C (some s.heap.objs.size) a)) s.heap.objs.size:=by
  have z:=I.iS (H':=upd H a (cy C (some s.heap.objs.size) a)) (aO _) qC;exact z
 have I2:Inv X pins σ (upd H a (cy C (some s.heap.objs.size) a)) { s with heap:=h2,toks:=s.toks+2 }:=
  Inv.turned (s:={ s with heap:=h1,toks:=s.toks+1 }) (h':=h2) I1 (it:=s.heap.objs.size) (t':=s.toks+2) (fun b o hb q=>(sb.2 b hb).trans q) fp.1 fp.2.1 fp.2.2.2.1 fp.2.2.2.2.1 fp.2.2.2.2.2
 refine⟨I2.ok,I2.os,I2.bare,?_,I2.loc,I2.cell,?_,?_,?_,?_,I2.len⟩
 ·have B:=I2.base
  have nb:∀b o,X.cT.heap.get? b=some o->b ∉ X.ex->b≠s.heap.objs.size:=fun b o q hx z=>by
   obtain⟨o',q'⟩:=I.base.there b o q hx;rw[z,fresh]at q';cases q'
  refine⟨B.keep,B.slot,fun b o q n hx=>by rw[ae (nb b o q hx)];exact B.free b o q n hx,B.there,fun b xs q=>?_,fun b o u q=>?_,fun b ps q=>?_⟩
  ·have z:=B.gC b xs q;rw[ae (au z qC)];exact z
  ·have z:=B.gW b o u q;rw[ae (au z qC)];exact z
  ·obtain⟨m,z⟩:=B.ib b ps q;exact⟨m,by rw[ae (au z qC)];exact z⟩
 ·rw[ae (aV fp.2.1)];exact I2.free
 ·intro x c q;rw[ae (fp.2.2.2.2.1 x c q)];exact I2.fY x c q
 ·intro p hp
  obtain⟨p1,p2,p3,p4,p5⟩:=I2.pin p hp;exact⟨p1,by rw[ae (fp.2.2.2.2.2 p hp)];exact p2,p3,p4,p5⟩
 ·intro b o q
  by_cases hb:b=s.heap.objs.size
  ·subst hb
   rw[ag]at q;cases q;refine Sm (by simp) n2 (fun g=>?_) (fun g hg=>?_)
   ·show eJ (List.lookup g [(f,y)]) (if g=f then some u else none)
    rw[eO]
    by_cases q:g=f
    ·rw[aB q,dX.mpr q];exact ry
    ·rw[ar q,j4.mpr q];exact True.intro
   ·by_cases q:g=f
    ·rw[q];simp
    ·exact absurd (ar q) hg
  ·rw[ae hb]at q
   exact(I2.aj b o q).eK (fun _ _ _ z=>z) (fun c z=>by rw[ae (au z qC)];exact z) fun c xs z=>by rw[ae (au z qC)];exact z
end
end L2
namespace L2
open PySem PySem.Spec PyProof.Rows PySem.W
mutual
inductive Rep (H:Hp):V->PyData->Prop where
 |aH:Rep H .aH .none
 |bl (b:Bool):Rep H (.bl b) (.bool b)
 |int (i:Int):Rep H (.int i) (.int i)
 |str (x:Str):Rep H (.str x) (.str x)
 |lst {a:Addr}{xs:List V}{ds:List PyData}:H a=some (.lst xs)->dg H xs ds->Rep H (.ref a) (.list ds)
 |tup {a:Addr}{xs:List V}{ds:List PyData}:H a=some (.tup xs)->dg H xs ds->Rep H (.ref a) (.tuple ds)
inductive dg (H:Hp):List V->List PyData->Prop where
 |nil:dg H [] []
 |cons {x:V}{d:PyData}{xs:List V}{ds:List PyData}:Rep H x d->dg H xs ds->dg H (x::xs) (d::ds)
end
section
mutual
theorem Rep.reads (I:Inv X pins σ H s):∀ {v:V}{d:PyData}{u:Value},Rep H v d->RelV v u -> ∃as,Reads s.heap u d as
 |_,_,_,.aH,r=>by cases r;exact⟨_,.none⟩
 |_,_,_,.bl b,r=>by cases r;exact⟨_,.bool b⟩
 |_,_,_,.int i,r=>by obtain⟨t,rfl⟩:=r;exact⟨_,.int i t⟩
 |_,_,_,.str x,r=>by obtain⟨t,rfl⟩:=r;exact⟨_,.str x t⟩
 |_,_,_,.lst (a:=a) (xs:=xs) e rs,r=>by
  cases r
  obtain⟨_,its,n,rv,at_⟩:=(show a9 X.prog X.w H s.heap a (.lst xs) from I.aj a _ e);obtain⟨as,ra⟩:=dg.reads I rs rv;exact⟨_,.list at_ rfl rfl ra⟩
 |_,_,_,.tup (a:=a) (xs:=xs) e rs,r=>by
  cases r
  obtain⟨_,its,rv,ob,at_,hc,n,hd,_⟩:=(show a9 X.prog X.w H s.heap a (.tup xs) from I.aj a _ e);obtain⟨as,ra⟩:=dg.reads I rs rv;exact⟨_,.tuple at_ hc hd ra⟩
theorem dg.reads (I:Inv X pins σ H s):∀ {vs:List V}{ds:List PyData}{us:List Value},dg H vs ds->Vals vs us -> ∃as,ReadsAll s.heap us ds as
 |_,_,_,.nil,r=>by cases r;exact⟨_,.nil⟩
 |_,_,_,.cons r rs,rv=>by
  cases rv with
  |cons q qs =>
   obtain⟨as,h1⟩:=Rep.reads I r q;obtain⟨bs,h2⟩:=dg.reads I rs qs;exact⟨_,.cons h1 h2⟩
end
mutual
theorem Rep.same:∀ {v:V}{d:PyData},Rep H v d->aw H H'->Rep H' v d
 |_,_,.aH,_=>.aH
 |_,_,.bl b,_=>.bl b
 |_,_,.int i,_=>.int i
 |_,_,.str x,_=>.str x
 |_,_,.lst e rs,k=>.lst (k _ _ e) (dg.same rs k)
 |_,_,.tup e rs,k=>.tup (k _ _ e) (dg.same rs k)
theorem dg.same:∀ {vs:List V}{ds:List PyData},dg H vs ds->aw H H'->dg H' vs ds
 |_,_,.nil,_=>.nil
 |_,_,.cons r rs,k=>.cons (Rep.same r k) (dg.same rs k)
end
end
def JU:R2:=fun x y H Q=>∃da db,Rep H x da/\Rep H y db/\da.canLay0=true/\db.canLay0=true/\da.depth<=60/\Q (.bl (PyData.eqv da db)) H
def JV:R2:=fun x y H Q=>∃da db,Rep H x da/\Rep H y db/\da.canLay0=true/\db.canLay0=true/\da.depth<=60/\Q (.bl (!PyData.eqv da db)) H
theorem Ul (hu:X.A.units+64 < cLine):b6 X (compareOp .Eq) JU:=by
 intro pins s σ H x y v u Q I rx ry h;obtain⟨da,db,r1,r2,l1,l2,dp,q⟩:=h;obtain⟨as,h1⟩:=r1.reads I rx;obtain⟨bs,h2⟩:=r2.reads I ry;exact SeqAt.compareEq_reads h1 h2 l1 l2 (by omega) ⟨.bl _,H,I,rfl,q⟩
theorem AY (hu:X.A.units+64 < cLine):b6 X (compareOp .NotEq) JV:=by
 intro pins s σ H x y v u Q I rx ry h;obtain⟨da,db,r1,r2,l1,l2,dp,q⟩:=h;obtain⟨as,h1⟩:=r1.reads I rx;obtain⟨bs,h2⟩:=r2.reads I ry;exact SeqAt.compareNe_reads h1 h2 l1 l2 (by omega) ⟨.bl _,H,I,rfl,q⟩
def WM (neg:Bool):R2:=fun x y H Q=>∃d ds,Rep H x d/\(Rep H y (.list ds)\/Rep H y (.tuple ds))/\d.canLay0=true/\PyData.canLayAll0 ds=true/\d.depth<=60 /\
 Q (.bl (if neg then !(ds.any fun y=>PyData.eqv y d) else ds.any fun y=>PyData.eqv y d)) H
theorem Um (hu:X.A.units+64 < cLine):b6 X (compareOp .In) (WM false):=by
 intro pins s σ H x y v u Q I rx ry h;obtain⟨d,ds,r1,r2,l1,l2,dp,q⟩:=h;obtain⟨as,h1⟩:=r1.reads I rx;rcases r2 with r2|r2
 ·obtain⟨bs,h2⟩:=r2.reads I ry
  exact SeqAt.in_list_reads h2 h1 l2 l1 (by omega) ⟨.bl _,H,I,rfl,q⟩
 ·obtain⟨bs,h2⟩:=r2.reads I ry
  exact SeqAt.in_tuple_reads h2 h1 l2 l1 (by omega) ⟨.bl _,H,I,rfl,q⟩
def Jh (H:Hp) (x:V):Prop:=(∃z:Str,x = .str z/\z.length<=100000)\/x = .aH \/ ∃a d,x = .ref a/\Rep H x d/\d.showable=true/\d.hasDict=false/\d.depth<=50/\d.shown.length<=100000
def WN (te:TE):TE:=fun σ H Q=>te σ H fun x H1=>Jh H1 x /\ ∀y:Str,y.length<=100000->Q (.str y) H1
theorem Uo (hu:X.A.units+64 < cLine) (hg:X.A.guards=some []) (he:PE X e te):PE X (.FormattedValue e (-1) none pos) (WN te):=by
 intro pins s σ H Q I h;refine wpAny_FormattedValue_plain (ao (he pins s σ H _ I h) fun v s1 ⟨x,H1,I1,rx,f,q⟩=>?_);rcases f with⟨z,rfl,hz⟩|rfl|⟨a,d,rfl,rd,hs,hd,hp,hl⟩
 ·obtain⟨t,rfl⟩:=rx
  exact wpAny_formatField_str ⟨.str z,H1,I1,⟨_,rfl⟩,q z hz⟩ ⟨.str z,H1,I1.tok _,⟨_,rfl⟩,q z hz⟩ (by rw[aT];omega)
 ·cases rx
  exact wpAny_formatField_none ⟨.str "None",H1,I1.tok _,⟨_,rfl⟩,q _ (by decide)⟩
 ·obtain⟨as,r⟩:=rd.reads I1 rx
  cases rx
  exact formatField_of_reads r hs (fun z=>by rw[hd]at z;cases z) hg (by omega) (fun _ _ z=>z) (fun h' u tk k=>⟨.str d.shown,H1,I1.kept k,⟨_,rfl⟩,q _ hl⟩) (by rw[aT];omega)
def PJ (X:Cx) (vs:List Expr) (n:Nat) (t:St->Hp->(Hp->Prop)->Prop):Prop:=
 ∀ (pins:List (Addr×Obj)) (s:Shared) (σ:St) (H:Hp) (acc:Str) (Q:Hp->Prop),acc.length+n * 100000<=2000000->Inv X pins σ H s->t σ H Q ->
  Joins (model X.prog X.w) X.A X.xe (evalEach vs X.env) acc (fun out s1=>out.length<=2000000 /\ ∃H1,Inv X pins σ H1 s1/\Q H1) s
def Up (te:TE) (tr:St->Hp->(Hp->Prop)->Prop):St->Hp->(Hp->Prop)->Prop:=fun σ H Q=>te σ H fun x H1=>(∃y:Str,x = .str y/\y.length<=100000)/\tr σ H1 Q
def Uq:St->Hp->(Hp->Prop)->Prop:=fun _ H Q=>Q H
theorem Ur:PJ X [] 0 Uq:=fun pins s σ H acc Q hz I h=>⟨by omega,H,I,h⟩
theorem Im {v:Expr}{vs:List Expr}{n:Nat}{tr:St->Hp->(Hp->Prop)->Prop} (hv:PE X v te) (hr:PJ X vs n tr):PJ X (v::vs) (n+1) (Up te tr):=by
 intro pins s σ H acc Q hz I h;refine ao (hv pins s σ H _ I h) fun u s1 ⟨x,H1,I1,rx,⟨y,e,hy⟩,q⟩=>?_;subst e;obtain⟨t,rfl⟩:=rx;have hl:(acc++y).length=acc.length+y.length:=strLen_append ..;exact⟨y,t,rfl,by rw[hl,aT];omega,hr pins s1 σ H1 (acc++y) Q (by rw[hl];omega) I1 q⟩
def Vg (tr:St->Hp->(Hp->Prop)->Prop):TE:=fun σ H Q=>tr σ H fun H1=>∀y:Str,y.length<=2000000->Q (.str y) H1
theorem Sn {v1 v2:Expr}{rest:List Expr}{n:Nat}{tr:St->Hp->(Hp->Prop)->Prop} (hr:PJ X (v1::v2::rest) n tr) (hn:n<=20:=by decide):PE X (.JoinedStr (v1::v2::rest) pos) (Vg tr):=by
 intro pins s σ H Q I h;have z:=hr pins s σ H Str.empty _ (by have:Str.empty.length=0:=rfl;omega) I h
 refine wpAny_JoinedStr ?_;have mono:∀ (l:List (Sem Value)) (acc:Str) (P P':Str->Shared->Prop) (s:Shared),(∀o s,P o s->P' o s)->Joins (model X.prog X.w) X.A X.xe l acc P s->Joins (model X.prog X.w) X.A X.xe l acc P' s:=by
  intro l
  induction l with
  |nil=>intro acc P P' s k q;exact k _ _ q
  |cons a l ih=>intro acc P P' s k q;exact ao q fun v s1 ⟨y,t,e,hz,q'⟩=>⟨y,t,e,hz,ih _ P P' s1 k q'⟩
 refine mono _ _ _ _ _ ?_ z;rintro o s1 ⟨hz,H1,I1,q⟩;exact⟨by rw[aT];omega,.str o,H1,I1.tok _,⟨_,rfl⟩,q o hz⟩
end L2
namespace L2
open PySem PySem.Spec PyProof.Rows PySem.W
section
variable{Q:VK}{CX:iG}{k:Nat}{E:XK}{p:Pos}{t:TA}
theorem Rq (q:iB X.K C (some (.ref fI))=true) (fn:isFn X.K (.ref fI)=true) (F:aU X.prog X.w X.K X.mg X.base CX k fI fd ps sp) (hr:aX (k+1) X.A) (hb:Binds X.K fd ps []) (hx:Passes CX X E) (I:Inv X pins σ H s) (r:Vals vs us) (a8:us.length<=100)
  (h:∀e,H e=none->sp (.ref e::vs) (upd H e (cy C none e)) (fun v H2=>v = .aH/\Q (.ref e) H2) E):wpAny (model X.prog X.w) X.A (call (.ref C) us) (EP X pins σ Q) X.xe s:=by
 obtain⟨⟨up,N,nm,qn,bs,hd,sn,sb,ab,col,od,a0,a1,a2,a3,a5,mN,at_,ns,ni,T⟩⟩:=vD I.bB q;obtain⟨oI,lk,oc⟩:=lj.mp (show(X.K.lookup fI).map (·.cls)=some (.type "function") from dX.mp fn);have h1:=h (s.heap.objs.size+1) (I.aj.fresh (j9 _));have bB:=I.bB;have I2:Inv X pins σ (upd H (s.heap.objs.size+1) (cy C none (s.heap.objs.size+1))) { s with heap:=jE s.heap C us }:=I.put (fun _ _ z=>rD z) (zp (j9 _)) (Az GV);have e0:=I2.wY.make C us [];have gK:=hr.make C us [];have r2:Vals (V.ref (s.heap.objs.size+1)::vs) (Value.ref (s.heap.objs.size+1)::us):= .cons rfl r;have hl:(Value.ref (s.heap.objs.size+1)::us).length=ps.length:=by rw[<-r2.length];exact F.len _ _ _ _ h1
 have Ly:=hb { s with heap:=jE s.heap C us } (Value.ref (s.heap.objs.size+1)::us) I2.bB (by rw[iw];exact hl)
 rw[iw]at Ly;have run:=F.run _ X.stack _ _ ⟨Value.ref (s.heap.objs.size+1)::us,[]⟩ (Value.ref (s.heap.objs.size+1)::us) _ _ E gK e0 Ly r2 h1;obtain⟨hp,g,d,tk,os⟩:=s;refine OQ afq T at_ ns ni (bB _ _ lk) oc (by rw[aT];omega) (oW (vb run fun r s' hq=>?_))
 cases r with
 |error e=>exact hx pins σ _ _ e s' I2 hq
 |ok fl =>
  cases fl with
  |ret u =>
   obtain⟨v,H',I3,rv,ev,q3⟩:=I2.after hq;subst ev;exact⟨rv,.ref (hp.objs.size+1),H',I3,rfl,q3⟩
  |next=>exact False.elim hq
  |brk=>exact False.elim hq
  |cont=>exact False.elim hq
def Vh (C:Addr) (sp:Sp) (E:XK) (t:TA):TE:=fun σ H Q=>t σ H fun vs H1=>vs.length<=100 /\ ∀e,H1 e=none->sp (.ref e::vs) (upd H1 e (cy C none e)) (fun v H2=>v = .aH/\Q (.ref e) H2) E
theorem So (q:iB X.K C (some (.ref fI))=true) (fn:isFn X.K (.ref fI)=true) (kp:keepIn X.K (.ref C)=true) (F:aU X.prog X.w X.K X.mg X.base CX k fI fd ps sp) (hr:aX (k+1) X.A) (hb:Binds X.K fd ps []) (hx:Passes CX X E)
  (hg:Gl X x) (hm:X.mg x=some (.ref C)) (ha:PA X (e::es) t) (cq:(x==("__debug__" : Str))=false:=by decide)
  (he:starEach (e::es) X.env=(false,eval e X.env)::starEach es X.env:=by rfl) (cF:(backTo pos (starEach es X.env)).any (·.1)=false:=by rfl):PE X (.Call (.Name x p) (e::es) [] pos) (Vh C sp E t):=by
 intro pins s σ H Q I h;refine rg (pI I hg hm ?_ cq);refine callWith_K (h₀:=X.base) I.ok.mod.og kp (ao (ha pos pins s σ H _ I h) fun us s1 ⟨vs,H1,I1,r,a8,q1⟩=>⟨I1.bB,?_⟩) he cF;exact Rq q fn F hr hb hx I1 r (by show us.length<=100;rw[<-r.length];exact a8) q1
structure AZ (K:Frag) (B:Addr):Prop where
 rd:readsIn K B (.type "type")=true
 ga:specialIn K (.ref B) "__getattribute__" = some (some (.builtin "type.__getattribute__"))
 fi:findCls K (.ref B) (.type "type") "__init__" = some (.val (.builtin "ValueError.__init__"))
theorem O1 {i:Option Value} (c:f6 X.K C) (q:iB X.K C i=true) (I:Inv X pins σ H s) (e:H a=some (cy C dx a)) (h:Q .aH H) :
  wpAny (model X.prog X.w) X.A (call (.builtin "ValueError.__init__") [.ref a,u]) (EP X pins σ Q) X.xe s:=by
 obtain⟨t,at_⟩:=I.excAt e;obtain⟨⟨up,N,nm,qn,bs,hd,sn,sb,ab,col,od,a0,a1,a2,a3,a5,mN,atC,ns,ni,T⟩⟩:=vD I.bB q;have FI:=afq;obtain⟨hp,g,d,tk,os⟩:=s;refine oW (Og FI.init.plain FI.initEntry (wpAny_check_init_subT (rest:= [u]) FI T atC at_ rfl ?_));have mj:(hp.push { cls:= .type "tuple",data:= .seq #[u] }).get? a=some { cls:= .ref C,dict:=dx,data:= .fields #[.ref t,.none,.none,.none,.bool false,.none] }:=bj _ at_;have at2:((hp.push { cls:= .type "tuple",data:= .seq #[u] }).update a (Obj.mapFields fun z=>z.setIfInBounds 0 (.ref hp.objs.size))).get? a=some { cls:= .ref C,dict:=dx,data:= .fields #[.ref hp.objs.size,.none,.none,.none,.bool false,.none] }:=Oc _ mj rfl;have fin:∀oG,EP X pins σ Q .none ⟨(hp.push { cls:= .type "tuple",data:= .seq #[u] }).update a (Obj.mapFields fun z=>z.setIfInBounds 0 (.ref hp.objs.size)),g,d,oG,os⟩:=fun oG=>by
  refine⟨.aH,upd H a (cy C dx a),?_,rfl,?_⟩
  ·exact Inv.write (s:=⟨hp,g,d,tk,os⟩) I (x:=a) (e:=a) (t':=oG) (by rw[e];exact True.intro) (.inl rfl) (fun b o hb z=>by rw[rj _ _ (aV hb)];exact bj _ z) ⟨_,at2⟩ (Az at2)
  ·have:upd H a (cy C dx a)=H:=by
    funext b;unfold upd
    by_cases hb:b=a
    ·rw[aB hb,hb,e]
    ·rw[ar hb]
   rw[this];exact h
 wp_walk
 exact fin _
def Qu (X:Cx) (t:TA):TE:=fun σ H Q=>t σ H fun vs H1=>∃a C dx y i,vs = [.ref a,y]/\H1 a=some (cy C dx a)/\f6 X.K C/\iB X.K C i=true/\Q .aH H1
theorem Pd {pl:Sem Bool} (b:AZ X.K B) (hg:Gl X x) (hm:X.mg x=some (.ref B)) (ha:PA X (e::es) t) (cq:(x==("__debug__" : Str))=false:=by decide)
  (he:starEach (e::es) X.env=(false,eval e X.env)::starEach es X.env:=by rfl) (cF:(backTo pos (starEach es X.env)).any (·.1)=false:=by rfl)
  (ht:eval (.Call (.Attribute (.Name x p) "__init__" apos) (e::es) [] pos) X.env=(do
   let ov <- eval (.Name x p) X.env
   standAt apos.atName
   let (f,first) <- holding [ov] (getMethod ov "__init__" pl)
   callWith pos f first (backTo pos (starEach (e::es) X.env)) (backToKw pos (keywordEach [] X.env))):=by rfl) :
  PE X (.Call (.Attribute (.Name x p) "__init__" apos) (e::es) [] pos) (Qu X t):=by
 intro pins s σ H Q I h;refine methodCall_KW (pl:=pl) (pI I hg hm ?_ cq) ht;refine method_cls I.bB b.ga (cls_value I.bB b.rd b.fi rfl ?_);refine N4 (ao (ha pos pins { s with toks:=s.toks+1 } σ H _ (I.tok _) h) fun us s1 ⟨vs,H1,I1,r1,q1⟩=>?_) he cF;obtain⟨a,C,dx,y,i,rfl,ea,c,qi,q⟩:=q1;obtain⟨u1,u2,rfl,r2,r3⟩:=r1.two;cases r2
 exact O1 c qi I1 ea q
end
section
variable{o:Expr}{f:Str}
def Vi (X:Cx) (ta tv:TE) (f:Str):TS:=fun D σ H=>tv σ H fun y H1=>ta σ H1 fun x H2=>∃a C,x = .ref a/\H2 a=some (cy C none a)/\f6 X.K C/\findIn X.K (.ref C) f=some none /\
 ∀d,H2 d=none->d≠a->D.nx σ (upd (upd H2 d (gF d [(f,y)])) a (cy C (some d) a))
theorem Sq (ha:PE X o ta) (hv:PE X value tv) (hs:swapsWith value (some (.Attribute o f pos')) pos.line X.env=pure false:=by rfl):PS X (.Assign [.Attribute o f pos'] value pos) (Vi X ta tv f):=by
 intro pins s σ H D I h;refine afd (ao (hv pins s σ H _ I h) fun u s1 ⟨y,H1,I1,ry,q⟩=>ao (ha pins s1 σ H1 _ I1 q) fun ov s2 ⟨x,H2,I2,rx,a,C,ex,ea,c,n,q2⟩=>?_) hs;subst ex;obtain rfl:ov=Value.ref a:=rx;exact PR I2 ea c n ry fun d s3 h1 h2 I3=>⟨σ,_,I3,q2 d h1 h2⟩
def WO (K:Frag):List V->Hp->VK->Prop:=fun xs H Q=>∃x c t cv b,xs = [x,c]/\RelV c cv/\(iD K H x t \/ ∃a C dx,x = .ref a/\t = .ref C/\H a=some (cy C dx a)/\f6 K C/\(∀d,dx=some d -> ∃fs,H d=some (gF d fs)))/\kitOne K t cv=some b/\Q (.bl b) H
theorem vI:dZ X (.builtin "isinstance") (fun xs H Q=>(∃x,(∃C,xs = [x,.ref C])\/(∃T,xs = [x,.ty T]))/\WO X.K xs H Q):=by
 intro pins s σ H xs us Q I r h;obtain⟨hx,x,c,t,cv,b,rfl,rc,ty,e,q⟩:=h;obtain⟨u,w',rfl,ru,iq⟩:=r.two;have Zq:w'=cv:=by
  obtain⟨x',⟨C,z⟩|⟨T,z⟩⟩:=hx
  ·cases z;cases rc;cases iq;rfl
  ·cases z;cases rc;cases iq;rfl
 subst Zq;rcases ty with ty|⟨a,C,dx,rfl,rfl,ea,c,hd⟩
 ·exact Qn I ru ty e fun tk=>⟨.bl b,H,I.tok _,rfl,q⟩
 ·cases ru
  obtain⟨t,at_⟩:=I.excAt ea;cases dx with
  |none =>
   have J:InstAt s.heap a _ C none:=⟨at_,rfl,rfl,True.intro⟩;exact kia_one (HA c) I.bB J e (fun z=>nomatch z) fun tk=>⟨.bl b,H,I.tok _,rfl,q⟩
  |some d =>
   obtain⟨fs,ed⟩:=hd d rfl;obtain⟨_,mA,n,_⟩:=I.AA ed;obtain⟨od,iI,_⟩:=vA n;have J:InstAt s.heap a _ C (some od):=⟨at_,rfl,rfl,iI⟩;exact kia_one (HA c) I.bB J e (fun z=>nomatch z) fun tk=>⟨.bl b,H,I.tok _,rfl,q⟩
end
def t4 (K:Frag) (l:Addr):It:=
 ⟨fun i H=>∃xs x,ai K H l xs/\xs[i]? = some x,fun i H x H'=>∃t v,H t=none/\x = .ref t/\(∀xs,ai K H l xs->xs[i]? = some v)/\H'=upd H t (.tup [.int i,v]),fun i H=>∃xs,ai K H l xs/\xs.length<=i⟩
theorem Qv (l e it:Addr) (bC:e≠it) :
  Turn P w K (.Tuple elts n1 tp) (t4 K l) [e,it] e (fun i h=>(∃old,IsEnum h e it i old)/\h.IsListIter it l i) where
 mem:=by simp
 obj:=fun i h st b hb=>by
  obtain⟨⟨old,h1⟩,h2⟩:=st;rcases b9.mp hb with z|z
  ·subst z;exact⟨_,h1,fun v q=>by cases q⟩
  ·have z':b=it:=by simpa using z
   subst z';obtain⟨o,q,_,d⟩:=h2;exact⟨o,q,fun v z=>by rw[d]at z;cases z⟩
 keep:=fun i h h' st k=>by
  obtain⟨⟨old,h1⟩,h2⟩:=st;exact⟨⟨old,k e (by simp) _ h1⟩,h2.at fun o q=>k it (by simp) o q⟩
 item:=by
  intro X hP hw hK hc i pins s σ H E I hf st hg;subst hP hw hK;obtain⟨xs,x,hq,hx⟩:=hg;obtain⟨its,rv,p,hz⟩:=I.list hq;obtain⟨u,hu,ru⟩:=rv.get hx;obtain⟨⟨old,h1⟩,h2⟩:=st;have fe:=hf e (by simp)
  have fi:=hf it (by simp)
  refine wpAny_pyNext_enum_item h1 h2 p.isList (x:=u) (by simpa using hu) bC fun h' e1 i1 t1 z1 k1=>⟨_,rfl,?_⟩
  refine wpAny_letOwnedTupleGo_enum (s:={ s with heap:=h',toks:=s.toks+1 }) e1 fun gL e2 sb=>?_;have eS:e≠s.heap.objs.size:=bX (bq h1);have k2:∀b o,b≠e->b≠it->s.heap.get? b=some o->gL.get? b=some o:=fun b o n1 n2 q=>(sb.2 b n1).trans (k1 b o n1 n2 q);have t2:gL.get? s.heap.objs.size=some { cls:= .type "tuple",data:= .seq #[.int i s.toks,u] }:=(sb.2 _ (aV eS)).trans t1;have hn:H s.heap.objs.size=none:=I.aj.fresh (aO _);have lt:∀b o,s.heap.get? b=some o->b≠s.heap.objs.size:=fun b o q=>bX (bq q);have iX:∀b o,H b=some o->b≠e/\b≠it:=fun b o q=>⟨(fun z=>by rw[z,fe.1]at q;cases q),(fun z=>by rw[z,fi.1]at q;cases q)⟩
  have gG:∀b,b ∉ [e,it]->b≠e/\b≠it:=fun b hb=>⟨fun z=>hb (by simp[z]),fun z=>hb (by simp[z])⟩
  have J:Inv X pins σ (upd H s.heap.objs.size (.tup [.int i,x])) { s with heap:=gL,toks:=s.toks+1 }:=by
   refine I.step (g':=s.gens) (d':=s.drawn) (t':=s.toks+1) (ch:= [e,it]) (fun b hb=>?_) (fun b o _ _ hc q _=>k2 b o (gG b hc).1 (gG b hc).2 q) (fun b o _ _ hc q _=>⟨o.slots,k2 b o (gG b hc).1 (gG b hc).2 q⟩)
    (fun b o _ q n=>by rw[ae (lt b o q)];exact n) (fun b o hc q=>⟨o,k2 b o (gG b hc).1 (gG b hc).2 q⟩) (fun b ys q=>by rw[ae (au q hn)];exact q) (fun b o v q=>by rw[ae (au q hn)];exact q)
    (fun b ps q=>⟨#[],by rw[ae (au q hn),q];simp⟩) (fun m hm=>?_) (fun b o q=>?_) I.bare
   ·rcases b9.mp hb with z|z
    ·subst z;exact⟨fe.2.2.2.1,fe.2.1,fe.2.2.2.2.1,fe.2.2.2.2.2⟩
    ·have z':b=it:=by simpa using z
     subst z';exact⟨fi.2.2.2.1,fi.2.1,fi.2.2.2.2.1,fi.2.2.2.2.2⟩
   ·obtain⟨o,es,ep,ho,r⟩:=hm
    exact⟨o,es,ep,k2 _ o (aV fe.2.1) (aV fi.2.1) ho,r⟩
   ·by_cases hb:b=s.heap.objs.size
    ·subst hb
     rw[ag]at q;cases q;exact⟨by rw[aT];show 2<=_;decide,[.int i s.toks,u],.cons ⟨_,rfl⟩ (.cons ru .nil),_,t2,rfl,_,rfl,rfl⟩
    ·rw[ae hb]at q
     refine(I.aj b o q).eK (fun c v hc z=>?_) (fun c z=>by rw[ae (au z hn)];exact z) fun c ys z=>by rw[ae (au z hn)];exact z
     rcases hc with hc|hc
     ·subst hc;exact k2 _ v (iX _ _ q).1 (iX _ _ q).2 z
     ·exact k2 c v (iX _ _ hc).1 (iX _ _ hc).2 z
  refine⟨.ref s.heap.objs.size,_,J,rfl,⟨s.heap.objs.size,x,hn,rfl,fun ys hy=>by rw[I.Hw hy hq];exact hx,rfl⟩,⟨⟨u,e2⟩,?_⟩,fun b hb=>?_⟩
  ·exact i1.extBut sb.extBut (aV bC)
  ·have:b≠s.heap.objs.size:=by
    rcases b9.mp hb with z|z
    ·rw[z];exact eS
    ·have z':b=it:=by simpa using z
     obtain⟨o,q,_⟩:=h2;rw[z'];exact lt _ _ q
   rw[ae this];exact(hf b hb).1
 done:=by
  intro X hP hw hK hc i pins s σ H E I hf st hg;subst hP hw hK;obtain⟨xs,hq,hx⟩:=hg;obtain⟨its,rv,p,hz⟩:=I.list hq;obtain⟨⟨old,h1⟩,h2⟩:=st;have fi:=hf it (by simp)
  have hl:=rv.length;exact wpAny_pyNext_enum_end (I.ok.hd hc) h1 h2 p.isList (by simp;omega) fun h' eb=>⟨rfl,I.turned (t':=s.toks) (fun b o hb q=>eb b o hb q) fi.1 fi.2.1 fi.2.2.2.1 fi.2.2.2.2.1 fi.2.2.2.2.2⟩
 self:=fun _ _ _ _ _ st h=>let ⟨⟨_,h1⟩,_⟩:=st;wpAny_pyIter_enum h1 h
def Vj (K:Frag) (ta:TA):TI:=fun σ H R=>ta σ H fun vs H1=>∃a,vs = [.ref a]/\(∃xs,ai K H1 a xs)/\R (t4 K a) H1
theorem Ss {a:Expr}{ta:TA}{p:Pos} (hg:Gl X "enumerate") (hm:X.mg "enumerate" = none) (ha:PA X [a] ta) (hs:starEach [a] X.env = [(false,eval a X.env)]:=by rfl) :
  PI X (.Tuple elts n1 tp) (.Call (.Name "enumerate" p) [a] [] pos) (Vj X.K ta):=by
 intro pins s σ H R I h;refine Call_ (nj I hg hm (show bootBuiltins "enumerate" = some (.type "enumerate") by decide +kernel) (E6 (ao (ha pos pins s σ H _ I h) fun us s1 ⟨vs,H1,I1,r1,q1⟩=>?_) hs rfl))
 obtain⟨l,e,⟨xs,hq⟩,q⟩:=q1;subst e;obtain⟨u,rfl,ru⟩:=r1.one;cases ru
 obtain⟨its,rv,pl,hz⟩:=I1.list hq;refine call_enumerate_list pl.isList fun h' e1 i1 z1 k1=>?_;have I2:Inv X pins σ H1 { s1 with heap:=h' }:=I1.kept (t':=s1.toks) k1;refine wpAny_pyIter_enum (s:={ s1 with heap:=h' }) e1 ?_;refine⟨s1.heap.objs.size+1,[s1.heap.objs.size+1,s1.heap.objs.size],_,_,H1,rfl,I2,Qv l (s1.heap.objs.size+1) s1.heap.objs.size (Nat.succ_ne_self _),⟨⟨.none,e1⟩,i1⟩,fun b hb=>?_,q⟩;rcases b9.mp hb with z|z
 ·subst z;exact I1.iS (j9 _) (I1.aj.fresh (j9 _))
 ·have z':b=s1.heap.objs.size:=by simpa using z
  subst z';exact I1.iS (aO _) (I1.aj.fresh (aO _))
theorem zQ:∀ {ys:List Str}{us:List Value},Vals (ys.map V.str) us->StrsAre us ys:=by
 intro ys
 induction ys with
 |nil=>intro us r;cases r;exact .nil
 |cons y ys ih =>
  intro us r;cases r with
  |cons q qs =>
   obtain⟨t,rfl⟩:=q;exact .cons _ _ (ih qs)
def rJoin (K:Frag):V->List V->Hp->VK->Prop:=fun x vs H Q=>∃ (z:Str) (p:Addr) (ys:List Str),x = .str z/\vs = [.ref p]/\(ai K H p (ys.map V.str)\/aG K H p (ys.map V.str))/\(ys.map (·.length)).sum+ys.length * z.length<=1000000/\Q (.str (Txt.join z ys)) H
theorem Su:Lq X "str.join" (rJoin X.K):=by
 intro pins s σ H x xs v us Q I rx rv h;obtain⟨z,p,ys,rfl,rfl,hp,hz,q⟩:=h;obtain⟨t,rfl⟩:=rx;obtain⟨u,rfl,ru⟩:=rv.one;cases ru
 rcases hp with hp|hp
 ·obtain⟨its,r,pl,_⟩:=I.list hp
  exact join_list pl.isList (by simpa using zQ r) (by omega) fun t' k=>⟨.str _,H,I.tok _,⟨_,rfl⟩,q⟩
 ·obtain⟨its,r,pl,_⟩:=I.tuple hp
  exact join_tuple pl (by simpa using zQ r) (by omega) fun t' k=>⟨.str _,H,I.tok _,⟨_,rfl⟩,q⟩
def WQ:V->Option Int->Option Int->Hp->VK->Prop:=fun x lo hi H Q=>∃z:Str,x = .str z/\z.length<=1000000/\Q (.str (Txt.slice z lo hi)) H
theorem Us:qw X WQ:=by
 intro pins s σ H x v vl vu lo hi sl Q I rx hs pl pu h;obtain⟨z,rfl,hz,q⟩:=h;obtain⟨t,rfl⟩:=rx;have fz:(Txt.slice z lo hi).length<=sizeLine:=gQ (Txt.slice_le z _ _) (by rw[aT];omega)
 refine⟨"str",_,PySem.F.slot_str_getitem.lookup,typeIs_str _ _ _,?_⟩;cases pl with
 |none =>
  cases pu with
  |none=>exact Fj (l:=none) (u:=none) (st:=none) hs rfl (Fl ⟨fz,fun t' k=>⟨.str _,H,I.tok _,⟨_,rfl⟩,q⟩⟩)
  |int j tj=>exact Fj (l:=none) (u:=some (j,tj)) (st:=none) hs rfl (Fl ⟨fz,fun t' k=>⟨.str _,H,I.tok _,⟨_,rfl⟩,q⟩⟩)
 |int i ti =>
  cases pu with
  |none=>exact Fj (l:=some (i,ti)) (u:=none) (st:=none) hs rfl (Fl ⟨fz,fun t' k=>⟨.str _,H,I.tok _,⟨_,rfl⟩,q⟩⟩)
  |int j tj=>exact Fj (l:=some (i,ti)) (u:=some (j,tj)) (st:=none) hs rfl (Fl ⟨fz,fun t' k=>⟨.str _,H,I.tok _,⟨_,rfl⟩,q⟩⟩)
def CW (Pv:Nat->List V->St->Hp->Prop) (n i m:Nat) (ys:List V) (τ:St) (H:Hp):Prop:=m=n - i/\i<=n/\Pv i ys τ H
theorem cw_next {Pv:Nat->List V->St->Hp->Prop}{n:Nat}{τ:St} (h:i < n) (p:Pv (i+1) ys τ H):∃m',m' < n - i/\CW Pv n (i+1) m' ys τ H:=⟨n - (i+1),by omega,rfl,h,p⟩
theorem Ga {n:Nat}{g:TG}{Q:VK} (Pv:Nat->List V->St->Hp->Prop) (h0:Pv 0 [] gH (upd H1 p (.lst []))) (hl:∀i ys τ H,Pv i ys τ H->H p=some (.lst ys))
  (hs:∀i ys τ H,i < n->Pv i ys τ H->g (.int (lo+i)) τ H fun bV H4=>ti bV H4 fun b H5=>if b=true then te bV H5 fun y H6=>H6 p=some (.lst ys)/\ys.length < sizeLine /\ ∃m',m' < n - i/\CW Pv n (i+1) m' (ys ++ [y]) bV (upd H6 p (.lst (ys ++ [y]))) else ∃m',m' < n - i/\CW Pv n (i+1) m' ys bV H5)
  (hd:∀ys τ H,Pv n ys τ H->Q (.ref p) H):jI (l0 lo n) g ti te gH Q p H1:=by
 refine⟨CW Pv n,⟨n,by simp,bw _,h0⟩,?_⟩
 rintro i m ys τ H ⟨rfl,hi,pv⟩;refine⟨hl i ys τ H pv,?_⟩
 by_cases aZ:i < n
 ·refine .inr ⟨aZ,fun x H3 y3=>?_⟩
  obtain⟨e3,ex⟩:=y3;subst e3 ex;exact hs i ys τ _ aZ pv
 ·have e:i=n:=by omega
  subst e;exact .inl ⟨aO _,hd ys τ H pv⟩
theorem iz {g:TG}{Q:VK} (Pv:Nat->List V->St->Hp->Prop) (h0:Pv 0 [] gH (upd H1 p (.lst []))) (hl:∀i ys τ H,Pv i ys τ H->H p=some (.lst ys)/\ai K H a xs)
  (hs:∀i x ys τ H,xs[i]? = some x->Pv i ys τ H->g x τ H fun bV H4=>ti bV H4 fun b H5=>if b=true then te bV H5 fun y H6=>H6 p=some (.lst ys)/\ys.length < sizeLine /\ ∃m',m' < xs.length - i/\CW Pv xs.length (i+1) m' (ys ++ [y]) bV (upd H6 p (.lst (ys ++ [y]))) else ∃m',m' < xs.length - i/\CW Pv xs.length (i+1) m' ys bV H5)
  (hd:∀ys τ H,Pv xs.length ys τ H->Q (.ref p) H):jI (oj K a) g ti te gH Q p H1:=by
 refine⟨CW Pv xs.length,⟨xs.length,by simp,bw _,h0⟩,?_⟩
 rintro i m ys τ H ⟨rfl,hi,pv⟩;obtain⟨hp,hq⟩:=hl i ys τ H pv;refine⟨hp,?_⟩
 by_cases aZ:i < xs.length
 ·refine .inr ⟨⟨xs,xs[i],hq,by simp[aZ]⟩,fun x H3 y3=>?_⟩
  obtain⟨e3,ex⟩:=y3;subst e3;exact hs i x ys τ _ (ex xs hq) pv
 ·have e:i=xs.length:=by omega
  subst e;exact .inl ⟨⟨xs,hq,aO _⟩,hd ys τ H pv⟩
theorem rP {g:TG}{Q:VK} (Pv:Nat->List V->St->Hp->Prop) (h0:Pv 0 [] gH (upd H1 p (.lst []))) (hl:∀i ys τ H,Pv i ys τ H->H p=some (.lst ys)/\aG K H a xs)
  (hs:∀i x ys τ H,xs[i]? = some x->Pv i ys τ H->g x τ H fun bV H4=>ti bV H4 fun b H5=>if b=true then te bV H5 fun y H6=>H6 p=some (.lst ys)/\ys.length < sizeLine /\ ∃m',m' < xs.length - i/\CW Pv xs.length (i+1) m' (ys ++ [y]) bV (upd H6 p (.lst (ys ++ [y]))) else ∃m',m' < xs.length - i/\CW Pv xs.length (i+1) m' ys bV H5)
  (hd:∀ys τ H,Pv xs.length ys τ H->Q (.ref p) H):jI (kO K a) g ti te gH Q p H1:=by
 refine⟨CW Pv xs.length,⟨xs.length,by simp,bw _,h0⟩,?_⟩
 rintro i m ys τ H ⟨rfl,hi,pv⟩;obtain⟨hp,hq⟩:=hl i ys τ H pv;refine⟨hp,?_⟩
 by_cases aZ:i < xs.length
 ·refine .inr ⟨⟨xs,xs[i],hq,by simp[aZ]⟩,fun x H3 y3=>?_⟩
  obtain⟨e3,ex⟩:=y3;subst e3;exact hs i x ys τ _ (ex xs hq) pv
 ·have e:i=xs.length:=by omega
  subst e;exact .inl ⟨⟨xs,hq,aO _⟩,hd ys τ H pv⟩
def BI (N N':List Str) (bH:List (Option Nat)) (sc:Scope):Bool:=(List.range bH.length).all fun j=>match bH[j]? with
 |some (some i)=>(match N[i]? with|some x=>N'[j]? == some x && sc.names.lookup x==some .free|none=>false)
 |_=>true
theorem Ji (h:BI N N' bH sc=true) (j i:Nat) (e:bH[j]? = some (some i)):∃x,N[i]? = some x/\N'[j]? = some x/\sc.names.lookup x=some .free:=by
 have hj:j < bH.length:=(b4.mp e).1;have z:=vg.mp h j (mS.mpr hj);rw[e]at z
 dsimp only at z
 split at z
 ·rename_i x q
  obtain⟨z1,z2⟩:=vf.mp z;exact⟨x,q,dX.mp z1,dX.mp z2⟩
 ·cases z
structure Nm (x:Str):Prop where
 lo:1<=x.length
 hi:x.length<=8
 az:∀c∈x.cps.toList,97<=c/\c<=122
def sign (c:Nat):Str:=⟨#[c]⟩
theorem Gb:∀ (cs:List Nat) (acc:Array Nat),(cs.map sign).foldl (fun acc p=>acc++("" : Str).cps++p.cps) acc=acc++cs.toArray
 |[],acc=>by simp
 |c::cs,acc=>by
  rw[cA,List.foldl_cons,Gb cs];have e:("" : Str).cps = #[]:=rfl;rw[e]
  apply Fn.mp
  simp[sign]
theorem PU (cs:List Nat):Txt.join ("" : Str) (cs.map sign)=⟨cs.toArray⟩:=by
 unfold Txt.join Builtin.Str.glued;cases cs with
 |nil=>rfl
 |cons c cs =>
  rw[cA];show(⟨(cs.map sign).foldl _ (sign c).cps⟩:Str)=_;rw[Gb]
  apply d7 Str.mk
  apply Fn.mp
  simp[sign]
theorem PV {z:Str}{c:Nat} (h:c∈(Txt.slice z none (some 6)).cps.toList):c∈z.cps.toList:=by
 unfold Txt.slice at h;split at h
 ·exact h
 ·simp only[u7]at h
  obtain⟨i,_,e⟩:=h;obtain⟨_,e2⟩:=Oh.mp e;rw[<-e2];simp
theorem Gd (z:Str):(Txt.slice z none (some 6)).length<=6:=by
 have hi:(Builtin.Str.strSliceIndices none (some 6) 1 z.length).length<=6:=by
  unfold Builtin.Str.strSliceIndices sliceRange;simp only[show(1:Int) > 0 by decide,i9,aJ,Oi]
  split <;> (try split) <;> omega
 unfold Txt.slice;split
 ·rename_i h
  have e:(Builtin.Str.strSliceIndices none (some 6) 1 z.length).length=z.length:=by simpa using h
  omega
 ·show(List.filterMap _ _).toArray.size<=6
  rw[cf];exact gQ (List.length_filterMap_le _ _) hi
theorem sh (a b:Str):(a++b).cps=a.cps++b.cps:=rfl
theorem Sv {z:Str}{c:Nat} (hz:∀c∈z.cps.toList,97<=c/\c<=122) (hc:97<=c/\c<=122):Nm (Txt.slice z none (some 6)++sign c++("q" : Str)):=by
 have hq:("q" : Str).cps = #[113]:=by decide +kernel
 have hl:=Gd z;have e:(Txt.slice z none (some 6)++sign c++("q" : Str)).length=(Txt.slice z none (some 6)).length+2:=by
  show(_:Array Nat).size=_;rw[sh,sh,hq];show(_ ++ #[c] ++ #[113]).size=_;rw[Fo,Fo];rfl
 refine⟨by omega,by omega,fun d hd=>?_⟩
 rw[sh,sh,hq]at hd;have tI:d∈(Txt.slice z none (some 6)).cps.toList\/d=c\/d=113:=by
  have:d∈((Txt.slice z none (some 6)).cps ++ #[c] ++ #[113]).toList:=hd;simp at this;rcases this with h|h|h
  ·exact .inl (by simpa using h)
  ·exact .inr (.inl h)
  ·exact .inr (.inr h)
 rcases tI with h|h|h
 ·exact hz d (PV h)
 ·rw[h];exact hc
 ·rw[h];omega
theorem Rr {p:Str}{c d:Nat} (h:p++sign c++("q" : Str)=p++sign d++("q" : Str)):c=d:=by
 have h1:=d7 (fun s:Str=>s.cps.toList) h;simp only[sh]at h1;have h2:p.cps.toList++([c]++("q" : Str).cps.toList)=p.cps.toList++([d]++("q" : Str).cps.toList):=by
  simpa [sign,Array.toList_append] using h1
 have h3:=List.append_cancel_left h2
 simpa using h3
theorem A0:∀ {ys found:List Str},ys.Nodup->found.length < ys.length -> ∃y∈ys,y ∉ found
 |[],found,_,h=>by simp at h
 |y::ys,found,nd,h=>by
  obtain⟨n1,n2⟩:=gR.mp nd
  by_cases hy:y∈found
  ·have hl:=List.length_erase_of_mem hy
   have hp:=afr hy;obtain⟨z,hz,hn⟩:=A0 (found:=found.erase y) n2 (by rw[hl];rw[gi]at h;omega)
   refine⟨z,bU _ hz,fun q=>hn ?_⟩;have ne:z≠y:=fun e=>n1 (by rw[<-e];exact hz)
   exact(List.mem_erase_of_ne ne).mpr q
  ·exact⟨y,br,hy⟩
theorem Sx (K:Frag) (h:X.K=K):b6 X (compareOp .In) (yb K false):=by subst h;exact pz
theorem PX (K:Frag) (h:X.K=K):b6 X (compareOp .NotIn) (yb K true):=by subst h;exact OZ
theorem z6 (K:Frag) (h:X.K=K):qx X (JK K):=by subst h;exact fc
theorem vJ (K:Frag) (h:X.K=K):qx X (JL K):=by subst h;exact cX
theorem GY {l:Expr} (K:Frag) (h:X.K=K) (hl:PE X l tl):PI X tg l (Jb K tl):=by subst h;exact eP hl
theorem HB {l:Expr} (K:Frag) (h:X.K=K) (hl:PE X l tl):PI X tg l (JD K tl):=by subst h;exact pL hl
theorem pG (x:Str) (ys:List Str):tR (.str x) (ys.map V.str)=decide (x∈ys):=by
 unfold tR;rw[Fp]
 induction ys with
 |nil=>simp
 |cons y ys ih =>
  rw[o3,ih];show((y==x) || decide (x∈ys))=decide (x∈y::ys)
  by_cases h:y=x
  ·subst h;simp
  ·have h':(y==x)=false:=j4.mpr h
   rw[h',Oj];have:x∈y::ys ↔ x∈ys:=by simp[aV h]
   simp[this]
theorem mZ (ys:List Str):(ys.map V.str).all jH=true:=by
 rw[vg];intro v hv;obtain⟨y,_,rfl⟩:=bt.mp hv
 rfl
def jg (H:Hp) (a:Addr):Hp:=fun b=>if b=a then none else H b
theorem pH (n:b≠a):jg H a b=H b:=by unfold jg;rw[ar n]
theorem PY {o:HO} (e:jg H a b=some o):b≠a/\H b=some o:=by
 unfold jg at e;split at e
 ·cases e
 next n=>exact⟨n,e⟩
theorem PZ (e:H b=none):jg H a b=none:=by
 unfold jg;split
 ·rfl
 ·exact e
theorem Inv.Sy (I:Inv X pins σ H s) (e:H a=some (cy C dx a)) (hd:∀d,dx=some d -> ∃fs,H d=some (gF d fs)):∃ox od t,InstAt s.heap a ox C od/\ox={ cls:= .ref C,dict:=dx,data:= .fields #[.ref t,.none,.none,.none,.bool false,.none] }:=by
 obtain⟨t,at_⟩:=I.excAt e;cases dx with
 |none=>exact⟨_,none,t,⟨at_,rfl,rfl,True.intro⟩,rfl⟩
 |some d =>
  obtain⟨fs,ed⟩:=hd d rfl;obtain⟨_,mA,n,r,_⟩:=I.AA ed;obtain⟨od,iI,_⟩:=vA n;exact⟨_,some od,t,⟨at_,rfl,rfl,iI⟩,rfl⟩
theorem Inv.hidden (I:Inv X pins σ H s) (hx:X.ex = []) (hs:X.stack=X.env::X.outer) (hf:X.env.frame=some X.env.locals) (ha:H a=some (cy C dx a)) (h0:X.iR a=none)
  (k:(hideAll s.heap (a::d9 X.stack)).StaysIn h') (up:s.heap.UpToSlots h'):Un X.fs [] X.iR (jg H a) X.cT.heap h'/\b3 X.prog X.w (jg H a) h':=by
 have ub:Un X.fs [] X.iR H X.cT.heap s.heap:=by have:=I.base;rw[hx]at this;exact this
 have JW:∀b,b∈d9 X.stack->b=X.env.locals\/b∈X.fs:=fun b hb=>by
  have:=I.we b hb;rcases b9.mp this with z|z
  ·exact .inl z
  ·exact .inr z
 have nA:∀ {b:Addr},H b=none->b≠a:=fun e z=>by subst z;rw[ha]at e;cases e
 have get:∀b o,s.heap.get? b=some o->b≠a->b ∉ d9 X.stack->h'.get? b=some o:=fun b o e n m=>k b o (hideAll_get _ e fun z=>by
  rcases b9.mp z with z|z
  ·exact n z
  ·exact m z)
 have JX:∀b o,X.cT.heap.get? b=some o->b≠X.env.locals:=fun b o e z=>by
  have h1:=bq e;have h2:=I.ok.above;subst z;exact absurd h1 (Nat.not_lt.mpr h2)
 have Jj:∀b o,b∈X.fs->s.heap.get? b=some o -> ∃sl,h'.get? b=some { o with slots:=sl }:=fun b o m e=>by
  obtain⟨_,o',e',nf⟩:=(I.gD).mem m;rw[e]at e';cases e'
  exact up b o e nf
 refine⟨⟨fun b o e n m _=>?_,fun b o e n m _=>?_,fun b o e n _=>PZ (ub.free b o e n (by simp)),fun b o e _=>?_,fun b xs e=>?_,fun b o u e=>?_,fun b ps e=>?_⟩,fun b o e=>?_⟩
 ·have e1:=ub.keep b o e n m (by simp)
  refine get b o e1 (nA (ub.free b o e n (by simp))) fun z=>?_
  rcases JW b z with z|z
  ·exact JX b o e z
  ·exact m z
 ·obtain⟨sl,e1⟩:=ub.slot b o e n m (by simp)
  obtain⟨CY,e2⟩:=Jj b _ m e1;exact⟨CY,e2⟩
 ·obtain⟨o',e1⟩:=ub.there b o e (by simp)
  by_cases m:b∈X.fs
  ·obtain⟨sl,e2⟩:=Jj b _ m e1
   exact⟨_,e2⟩
  ·refine⟨o',get b o' e1 (fun z=>?_) fun z=>?_⟩
   ·subst z
    have:=ub.free b o e h0 (by simp)
    rw[ha]at this;cases this
   ·rcases JW b z with z|z
    ·exact JX b o e z
    ·exact m z
 ·have e1:=ub.gC b xs e
  rw[pH (aS e1 ha (by intro z;cases z))];exact e1
 ·have e1:=ub.gW b o u e
  rw[pH (aS e1 ha (by intro z;cases z))];exact e1
 ·obtain⟨mo,e1⟩:=ub.ib b ps e
  exact⟨mo,by rw[pH (aS e1 ha (by intro z;cases z))];exact e1⟩
 ·obtain⟨n,e1⟩:=PY e
  have wW:∀ {c:Addr}{u:HO},H c=some u->c ∉ d9 X.stack:=fun q m=>by
   have:=I.Aw _ m;rw[q]at this;cases this
  refine(I.aj b o e1).eK (fun c u hc q=>?_) (fun c q=>?_) fun c xs q=>?_
  ·rcases hc with rfl|q1
   ·exact get _ u q n (wW e1)
   ·exact get c u q (aS q1 ha (by intro z;cases z)) (wW q1)
  ·rw[pH (aS q ha (by intro z;cases z))];exact q
  ·rw[pH (aS q ha (by intro z;cases z))];exact q
def Cx.nC (X:Cx) (a:Addr):Cx:={ X with A:=X.A.mark (some (.ref a)),calm:=false,xe:=fun _ _=>False }
theorem Inv.nC (I:Inv X pins σ H s) (a:Addr):Inv (X.nC a) pins σ H s:=
 ⟨⟨I.ok.mod,I.ok.kind,I.ok.glob,I.ok.blt,I.ok.above,I.ok.inj,I.ok.has,I.ok.lY,(fun z=>Bool.noConfusion (show false=true from z)),I.ok.frames,I.ok.oh,I.ok.kJ,I.ok.bs,I.ok.jj,I.ok.lN,I.ok.kE,I.ok.gD,I.ok.jQ⟩,I.os,I.bare,I.base,I.loc,I.cell,I.free,I.fY,I.pin,I.aj,I.len⟩
theorem Inv.uncaught {Y:Cx} (ok:X.Ok) (I:Inv (X.nC a) pins σ H s):Inv X pins σ H s:=
 ⟨ok,I.os,I.bare,I.base,I.loc,I.cell,I.free,I.fY,I.pin,I.aj,I.len⟩
theorem Rt {its:Array Value} (tr:Nat->Bool) (hh:A.in1.handled=none) (bC:l≠it) (hl:g.IsList l its)
  (ht:∀i v,its[i]? = some v -> ∃a ws,v = .ref a/\a≠it/\IsTup g a ws/\ws.size<=sizeLine/\tr i = !ws.isEmpty):∀ (k i:Nat) (s:Shared),its.size - i=k->i<=its.size->(∀b o,b≠it->g.get? b=some o->s.heap.get? b=some o)->s.heap.IsListIter it l i ->
  (∀h' tk,(∀b o,b≠it->g.get? b=some o->h'.get? b=some o)->R (.ok (.ret (.bool (((List.range its.size).drop i).any tr)))) { s with heap:=h',toks:=tk }) ->
  codeAny (model P w) A (.builtin "any.loop" ⟨[.ref it],[]⟩) R s:=by
 intro k
 induction k with
 |zero =>
  intro i s hk hi kp hit hR;obtain rfl:i=its.size:=by omega
  refine vh F.entry_any_loop (?_:wpAny _ _ _ _ _ _);rw[show A.under (.builtin "any.loop" ⟨[.ref it],[]⟩)=A.in1 from vi Fq _];show wpAny _ _ (pyNext (.ref it) >>= _) _ _ s;have Dl:s.heap.IsList l its:=hl.at fun o e=>kp l o bC e;refine af (wpAny_pyNext_list_end hh hit Dl (by simp) fun h' ex=>af (vj (ax ?_)))
  have:=hR h' s.toks fun b o n e=>ex b o n (kp b o n e);rw[afs (by simp)]at this
  exact this
 |succ k ih =>
  intro i s hk hi kp hit hR;have aZ:i < its.size:=by omega
  have hd:(List.range its.size).drop i=i::(List.range its.size).drop (i+1):=by rw[rn (by simpa using aZ),List.getElem_range]
  refine vh F.entry_any_loop (?_:wpAny _ _ _ _ _ _);rw[show A.under (.builtin "any.loop" ⟨[.ref it],[]⟩)=A.in1 from vi Fq _];show wpAny _ _ (pyNext (.ref it) >>= _) _ _ s;have Dl:s.heap.IsList l its:=hl.at fun o e=>kp l o bC e;have hx:its[i]? = some its[i]:=by simp[aZ]
  obtain⟨a,ws,ea,na,WR,hz,Zr⟩:=ht i _ hx;refine af (wpAny_pyNext_list_item hit Dl hx fun h' WS sb=>?_);have jo:∀b o,b≠it->g.get? b=some o->h'.get? b=some o:=fun b o n e=>sb.extBut b o n (kp b o n e);have Vk:IsTup h' a ws:=by
   obtain⟨o,ho,r⟩:=WR;exact⟨o,jo a o na ho,r⟩
  rw[ea];refine af (gw (truthy_tuple (s:={ s with heap:=h' }) Vk (by rw[aT]at hz;omega) (af (wpAny_letGo ?_))))
  rw[<-Zr];cases hb:tr i with
  |false =>
   refine ax ⟨zw Fq _,ih (i+1) _ (by omega) aZ jo WS fun h2 Zs k2=>?_⟩
   have:=hR h2 Zs k2;rw[hd,o3,hb,Oj]at this;exact this
  |true =>
   refine af (vj (ax ?_));have:=hR h' (s.toks+1+1) jo;rw[hd,o3,hb,Bool.true_or]at this;exact this
theorem Qw (hc:X.calm=true):dZ X (.builtin "any") (fun xs H Q=>∃ (p:Addr) (ys:List V) (rs:List (List V)),xs = [.ref p]/\ai X.K H p ys/\Paired (fun y r=>∃a,y=V.ref a/\aG X.K H a r) ys rs/\Q (.bl (rs.any fun r=>!r.isEmpty)) H):=by
 intro pins s σ H xs us Q I r h;obtain⟨p,ys,rs,rfl,hq,pr,q⟩:=h;obtain⟨u,rfl,rx⟩:=vals1 r;cases rx
 obtain⟨its,rv,pl,hz⟩:=I.list hq;have hlen:=rv.length;have all:∀i v,its[i]? = some v -> ∃a ws,v = .ref a/\IsTup s.heap a ws/\ws.size<=sizeLine/\(rs.map fun r=>!r.isEmpty).getD i false = !ws.isEmpty:=by
  intro i v e;clear q hq pl hz r
  induction rv generalizing rs i with
  |nil=>simp at e
  |cons r1 rt ih =>
   cases pr with
   |cons p1 pt =>
    cases i with
    |zero =>
     simp at e;subst e;obtain⟨a,rfl,ha⟩:=p1;cases r1
     obtain⟨ws,r2,ht,Lz⟩:=I.tuple ha;have qy:=r2.length;exact⟨a,_,rfl,ht,by rw[cf];omega,by rw[zP r2];rfl⟩
    |succ i=>exact ih _ pt (by simpa using hlen) i (by simpa using e)
 have hsz:its.toArray.size=rs.length:=by rw[cf,<-hlen];exact eu pr
 have fin:(List.range its.toArray.size).any (fun i=>(rs.map fun r=>!r.isEmpty).getD i false)=rs.any fun r=>!r.isEmpty:=by
  rw[hsz]
  apply rb.mpr
  simp only[vm,mS]
  constructor
  ·rintro⟨i,hi,e⟩
   refine⟨rs[i],mV hi,?_⟩
   simpa [List.getD,hi] using e
  ·rintro⟨r,hr,e⟩
   obtain⟨i,hi,rfl⟩:=Fs hr;exact⟨i,hi,by simpa [List.getD,hi] using e⟩
 refine call_function_tree F.kind_any F.plain_any F.entry_any (F.args_any1 (.ref p)) (?_:wpAny _ _ _ _ _ _);unfold Builtin.«any»;refine af (m:=oneArg "any" _) (ax (af (E5 pl.isList ?_)));have new:∀b o,s.heap.get? b=some o->b≠s.heap.objs.size:=fun b o e=>bX (bq e);obtain⟨ol,mq,_⟩:=id pl.isList;refine ax ⟨zw Fq _,Rt (g:=s.heap) (fun i=>(rs.map fun r=>!r.isEmpty).getD i false) (I.ok.hd hc) (new p ol mq) pl.isList (fun i v e=>?_) _ 0 _ rfl (bw _) (fun b o n e=>bj _ e) ⟨_,cK _ rfl,rfl,rfl⟩ fun h' tk kp=>?_⟩
 ·obtain⟨a,ws,ea,ht,Lz,e2⟩:=all i v (by simpa using e)
  obtain⟨o,ho,_⟩:=id ht;exact⟨a,ws,ea,new a o ho,ht,Lz,e2⟩
 ·rw[Ft,fin]
  exact⟨.bl _,H,I.kept (t':=tk) fun b o e=>kp b o (new b o e) e,rfl,q⟩
theorem GZ (hc:X.calm=true):dZ X (.builtin "all") (fun xs H Q=>∃ (p:Addr) (bs:List Bool),xs = [.ref p]/\ai X.K H p (bs.map V.bl)/\Q (.bl (bs.all id)) H):=by
 intro pins s σ H xs us Q I r h;obtain⟨p,bs,rfl,hq,q⟩:=h;obtain⟨u,rfl,rx⟩:=vals1 r;cases rx
 obtain⟨its,rv,pl,hz⟩:=I.list hq;have hlen:=rv.length;have vals:its=bs.map Value.bool:=by
  clear q hq pl hz r hlen
  induction bs generalizing its with
  |nil=>cases rv;rfl
  |cons b bs ih =>
   cases rv with
   |cons r1 rt=>cases r1;rw[ih _ rt];rfl
 have new:∀b o,s.heap.get? b=some o->b≠s.heap.objs.size:=fun b o e=>bX (bq e);obtain⟨ol,mq,_⟩:=id pl.isList;refine call_all_walk (E5 pl.isList ?_);refine⟨s.heap.objs.size,_,_,_,_,_,fun i=>bs.getD i true,rfl,Walks.list (A:=X.A.in1) (I.ok.hd hc) s.heap.objs.size p (new p ol mq) its.toArray,⟨⟨_,cK _ rfl,rfl,rfl⟩,pl.isList.at fun o e=>bj _ e⟩,fun i v s2 Q2 E2 hv jq=>?_,fun h' tk kp=>?_⟩
 ·rw[vals]at hv
  have:bs[i]?.map Value.bool=some v:=by simpa using hv
  obtain⟨b,hb,rfl⟩:=lj.mp this;refine j7 ?_;have e:bs.getD i true=b:=by rw[iy,hb];rfl
  exact e ▸ jq
 ·have fin:(List.range its.toArray.size).all (fun i=>bs.getD i true)=bs.all id:=by
   have hs:its.toArray.size=bs.length:=by rw[vals];simp
   rw[hs]
   apply rb.mpr
   simp only[vg,mS]
   constructor
   ·intro h b hb
    obtain⟨i,hi,rfl⟩:=Fs hb
    simpa [List.getD,hi] using h i hi
   ·intro h i hi
    simpa [List.getD,hi] using h bs[i] (mV hi)
  rw[fin];exact⟨.bl _,H,I.kept (t':=tk) fun b o e=>kp b o (by simpa using new b o e) (bj _ e),rfl,q⟩
def SA:V->List V->Hp->VK->Prop:=fun x vs H Q=>∃ (l:Addr) (ys:List Str) (y:Str) (j:Nat),x = .ref l/\vs = [.str y]/\H l=some (.lst (ys.map V.str))/\ys[j]? = some y/\(∀m,m < j->ys[m]? ≠ some y)/\Q (.int j) H
theorem Ru:yc X "list.index" SA:=by
 intro pins s σ H x vs v us Q I rx rv h;obtain⟨l,ys,y,j,rfl,rfl,hH,hj,eR,q⟩:=h;cases rx
 obtain⟨u,rfl,t,rfl⟩:=rv.one;obtain⟨z,its,n,r,hl,e⟩:=I.sS hH;have b7:j < its.length:=by
  have:=(b4.mp hj).1;rw[<-hl,aJ];exact this
 have at_:∀m (hm:m < its.length),∃ (w:Str) (t':Tok),ys[m]? = some w/\its[m] = .str w t':=fun m hm=>by
  have jV:m < ys.length:=by rw[<-hl,aJ]at hm;exact hm
  obtain⟨u,hu,t',ht⟩:=r.get (i:=m) (x:= .str ys[m]) (by rw[gS,bK jV];rfl)
  rw[bK hm]at hu;exact⟨ys[m],t',bK jV,by rw[eF hu];exact ht⟩
 have fl:(ys.map V.str).all jH=true:=mZ ys;refine vd F.slot_list_index ⟨_,e,rfl⟩ F.entry_list_index (F.args_list_index_2 _ _) (SeqAt.list_indexAt l its.toArray n none #[] (.str y t) (f' (.str y)) j (by simpa using b7) ?_ ?_ ?_) ⟨e,?_,?_⟩
 ·rw[aT]at z;have:=hl;omega
 ·obtain⟨w,t',hw,ew⟩:=at_ j b7
  rw[hj]at hw;cases hw;show f' (.str y) (its.toArray[j])=true;rw[aft,ew,wj (y:= .str y) ⟨t',rfl⟩ rfl];show decide _=true;exact gj rfl
 ·intro m hm Zt
  have jV:m < its.length:=by simpa using hm
  obtain⟨w,t',hw,ew⟩:=at_ m jV;show f' (.str y) (its.toArray[m])=false;rw[aft,ew,wj (y:= .str w) ⟨t',rfl⟩ rfl];have ne:=eR m Zt;rw[hw]at ne;show decide _=false;exact iO fun z=>ne (by rw[z])
 ·intro u hu
  exact pF (x:= .str y) ⟨t,rfl⟩ rfl r fl u (by simpa using hu)
 ·exact⟨.int j,H,I.tok _,⟨_,rfl⟩,q⟩
end L2
namespace L2
open PySem PySem.Spec PyProof.Rows
section
variable{κ:Type} [DecidableEq κ]
def a7 (kvs:List (κ×V)) (k:κ):Option V:=(kvs.find? fun kv=>decide (kv.1=k)).map (·.2)
def putK (kvs:List (κ×V)) (k:κ) (v:V):List (κ×V):=
 if (kvs.any fun kv=>decide (kv.1=k))=true then kvs.map (fun kv=>if kv.1=k then (kv.1,v) else kv) else kvs ++ [(k,v)]
theorem gT {p:κ×V}{r:List (κ×V)}{k:κ} (e:p.1=k):a7 (p::r) k=some p.2:=by simp[a7,vn,e]
theorem gA {p:κ×V}{r:List (κ×V)}{k:κ} (e : ¬ p.1=k):a7 (p::r) k=a7 r k:=by simp[a7,vn,e]
theorem lE (k:κ):∀kvs:List (κ×V),(kvs.any fun kv=>decide (kv.1=k))=(a7 kvs k).isSome
 |[]=>rfl
 |p::r=>by
  rw[o3]
  by_cases e:p.1=k
  ·simp only[gT e,gj e,Bool.true_or,Option.isSome_some]
  ·rw[gA e,iO e,Oj];exact lE k r
theorem HC (k j:κ) (y:V):∀kvs:List (κ×V),a7 (kvs.map fun kv=>if kv.1=k then (kv.1,y) else kv) j=(a7 kvs j).map fun x=>if j=k then y else x
 |[]=>rfl
 |p::r=>by
  have ih:=HC k j y r;rw[cA]
  by_cases h:p.1=k
  ·rw[aB h]
   by_cases e:p.1=j
   ·rw[gT (p:=(p.1,y)) e,gT e,zo,aB (e.symm.trans h)]
   ·rw[gA (p:=(p.1,y)) e,gA e,ih]
  ·rw[ar h]
   by_cases e:p.1=j
   ·rw[gT (p:=p) e,gT e,zo,ar (fun z=>h (e.trans z))]
   ·rw[gA (p:=p) e,gA e,ih]
theorem G0 (k j:κ) (y:V):∀kvs:List (κ×V),a7 kvs k=none->a7 (kvs ++ [(k,y)]) j=if j=k then some y else a7 kvs j
 |[],_=>by
  by_cases e:k=j
  ·rw[aB e.symm];exact gT (p:=(k,y)) e
  ·rw[ar (fun z=>e z.symm)];exact gA (p:=(k,y)) e
 |p::r,hn=>by
  rw[List.cons_append];have hk : ¬ p.1=k:=fun z=>by rw[gT z]at hn;cases hn
  rw[gA hk]at hn;have ih:=G0 k j y r hn
  by_cases e:p.1=j
  ·rw[gT e,gT e,ar (fun z=>hk (e.trans z))]
  ·rw[gA e,gA e,ih]
theorem m5 (kvs:List (κ×V)) (k j:κ) (y:V):a7 (putK kvs k y) j=if j=k then some y else a7 kvs j:=by
 unfold putK
 by_cases a:(kvs.any fun kv=>decide (kv.1=k))=true
 ·rw[aB a,HC]
  rw[lE]at a
  by_cases e:j=k
  ·obtain⟨x,hx⟩:=E9.mp a
   rw[aB e,e,hx,zo,aB rfl]
  ·rw[ar e]
   cases a7 kvs j with
   |none=>rfl
   |some x=>rw[zo,ar e]
 ·rw[ar a]
  refine G0 k j y kvs ?_;rw[lE]at a;cases q:a7 kvs k with
  |none=>rfl
  |some x=>rw[q]at a;exact(a rfl).elim
theorem rE (kvs:List (κ×V)) (k:κ) (v:V):(putK kvs k v).length<=kvs.length+1:=by
 unfold putK;split
 ·rw[aJ];omega
 ·rw[e7,gi,jx];omega
theorem rQ {kvs:List (κ×V)}{k:κ} (v:V) (h:a7 kvs k=none):putK kvs k v=kvs ++ [(k,v)]:=by
 unfold putK;rw[lE,h];exact ar (by decide)
theorem eJ.rL {o:Option V}{u:Option Value} (r:eJ o u):o.isSome=u.isSome:=by
 cases o with
 |none=>cases u with
  |none=>rfl
  |some _=>exact(show False from r).elim
 |some _=>cases u with
  |none=>exact(show False from r).elim
  |some _=>rfl
theorem KV.val {kvs:List (κ×V)}{vs:List (κ×Value)} (r:KV kvs vs) (k:κ):eJ (a7 kvs k) (valueAt vs k):=by
 unfold KV at r
 induction r with
 |nil=>exact True.intro
 |@cons p q ps qs h t ih =>
  obtain⟨h1,h2⟩:=h
  by_cases e:p.1=k
  ·have e':q.1=k:=h1.symm.trans e
   have b:valueAt (q::qs) k=some q.2:=by simp[valueAt,vn,e']
   rw[gT e,b];exact h2
  ·have e' : ¬ q.1=k:=fun z=>e (h1.trans z)
   have b:valueAt (q::qs) k=valueAt qs k:=by simp[valueAt,vn,e']
   rw[gA e,b];exact ih
theorem KV.any {kvs:List (κ×V)}{vs:List (κ×Value)} (r:KV kvs vs) (k:κ):(kvs.any fun kv=>decide (kv.1=k))=vs.any fun kv=>decide (kv.1=k):=by
 unfold KV at r
 induction r with
 |nil=>rfl
 |cons h t ih=>rw[o3,o3,ih,h.1]
theorem KV.BJ {kvs:List (κ×V)}{vs:List (κ×Value)} (r:KV kvs vs) (k:κ) (ry:RelV y u) :
  KV (kvs.map fun kv=>if kv.1=k then (kv.1,y) else kv) (vs.map fun kv=>if kv.1=k then (kv.1,u) else kv):=by
 unfold KV at r ⊢
 induction r with
 |nil=>exact .nil
 |@cons p q ps qs h t ih =>
  rw[cA,cA];refine .cons ?_ ih;obtain⟨h1,h2⟩:=h
  by_cases e:p.1=k
  ·rw[aB e,aB (h1.symm.trans e)];exact⟨h1,ry⟩
  ·rw[ar e,ar (fun z=>e (h1.trans z))];exact⟨h1,h2⟩
theorem KV.put {kvs:List (κ×V)}{vs:List (κ×Value)} (r:KV kvs vs) (k:κ) (ry:RelV y u):KV (putK kvs k y) (stored vs k u):=by
 unfold putK stored;rw[r.any k]
 by_cases e:(vs.any fun kv=>decide (kv.1=k))=true
 ·rw[aB e,aB e];exact r.BJ k ry
 ·rw[ar e,ar e];exact lq r ⟨rfl,ry⟩
theorem KV.keys {kvs:List (κ×V)}{vs:List (κ×Value)} (r:KV kvs vs):kvs.map (·.1)=vs.map (·.1):=by
 unfold KV at r
 induction r with
 |nil=>rfl
 |cons h t ih=>rw[cA,cA,ih,h.1]
theorem KV.length {kvs:List (κ×V)}{vs:List (κ×Value)} (r:KV kvs vs):kvs.length=vs.length:=eu r
end
theorem pX {k:Key} (r:RelV (kV k) u):(bY P w).is k u=true:=by
 cases k with
 |inl i=>obtain⟨t,e⟩:=(show ∃t,u=Value.int i t from r);subst e;exact O7 P w i t
 |inr x=>obtain⟨t,e⟩:=(show ∃t,u=Value.str x t from r);subst e;exact O8 P w x t
theorem Ha {P:Program}{w:World}:∀ {ks:List Key}{us:List Value},Vals (ks.map kV) us->ItemsAre (bY P w) ks us
 |[],_,r=>by rw[List.map_nil]at r;cases r;exact .nil
 |k::ks,_,r=>by
  rw[cA]at r;cases r with
  |cons h t=>exact .cons (pX h) (Ha t)
abbrev KT (H:Hp):List (List Key×V)->List (List Key×Addr×Value)->Prop:=Paired fun p q=>p.1=q.1/\H q.2.1=some (.tup (p.1.map kV))/\RelV p.2 q.2.2
theorem KT.val {kvs:List (List Key×V)}{xs:List (List Key×Addr×Value)} (r:KT H kvs xs) (k:List Key):eJ (a7 kvs k) ((atKey xs k).map (·.2)):=by
 induction r with
 |nil=>exact True.intro
 |@cons p q ps qs h t ih =>
  obtain⟨h1,_,h2⟩:=h
  by_cases e:p.1=k
  ·have e':q.1=k:=h1.symm.trans e
   have b:atKey (q::qs) k=some q.2:=by simp[atKey,vn,e']
   rw[gT e,b];exact h2
  ·have e' : ¬ q.1=k:=fun z=>e (h1.trans z)
   have b:atKey (q::qs) k=atKey qs k:=by simp[atKey,vn,e']
   rw[gA e,b];exact ih
theorem KT.BJ {kvs:List (List Key×V)}{xs:List (List Key×Addr×Value)} (r:KT H kvs xs) (k:List Key) (ry:RelV y u) :
  KT H (kvs.map fun kv=>if kv.1=k then (kv.1,y) else kv) (xs.map (putAt k u)):=by
 induction r with
 |nil=>exact .nil
 |@cons p q ps qs h t ih =>
  rw[cA,cA];refine .cons ?_ ih;obtain⟨h1,h2,h3⟩:=h;unfold putAt
  by_cases e:p.1=k
  ·rw[aB e,aB (h1.symm.trans e)];exact⟨h1,h2,ry⟩
  ·rw[ar e,ar (fun z=>e (h1.trans z))];exact⟨h1,h2,h3⟩
theorem KT.put {kvs:List (List Key×V)}{xs:List (List Key×Addr×Value)} (r:KT H kvs xs) (k:List Key) (hb:H b=some (.tup (k.map kV))) (ry:RelV y u) :
  KT H (putK kvs k y) (storedH xs k b u):=by
 have e:(kvs.any fun kv=>decide (kv.1=k))=(atKey xs k).isSome:=by
  rw[lE,(r.val k).rL,zx]
 unfold putK storedH;rw[e]
 by_cases q:(atKey xs k).isSome=true
 ·rw[aB q,aB q];exact r.BJ k ry
 ·rw[ar q,ar q];exact lq r ⟨rfl,hb,ry⟩
theorem KT.keeps {kvs:List (List Key×V)}{xs:List (List Key×Addr×Value)} (r:KT H kvs xs) (ht:∀b ys,H b=some (.tup ys)->H' b=some (.tup ys)):KT H' kvs xs:=
 Paired.wV r fun _ _ z=>⟨z.1,ht _ _ z.2.1,z.2.2⟩
theorem Jk {u:HO} (ok:b3 P w H h) (e:Rd H a u):a9 P w H h a u:=e.ok ok
theorem nI (ok:b3 P w H h) (e:Rd H a (.dK kvs)):kvs.length<=sizeLine/\(a==sysModules)=false /\ ∃vs,KV kvs vs/\h.DictOf (bY P w) a vs:=
 show a9 P w H h a (.dK kvs) from Jk ok e
theorem Be (ok:b3 P w H h) (e:H a=some (.dK kvs)):kvs.length<=sizeLine/\(a==sysModules)=false /\ ∃vs,KV kvs vs/\h.DictOf (bY P w) a vs:=nI ok (.inl e)
theorem pO {ks:List Key} (ok:b3 P w H h) (e:H a=some (.tup (ks.map kV))):(tupleKind (bY P w)).is h ks a:=by
 obtain⟨_,its,r,o,h1,h2,n,h3,_⟩:=(show a9 P w H h a (.tup (ks.map kV)) from ok a _ e);exact⟨o,its.toArray,n,h1,h2,h3,by simpa using Ha r⟩
theorem sC {kvs:List (List Key×V)} (ok:b3 P w H h) (e:Rd H a (.dT kvs)):kvs.length<=sizeLine/\(a==sysModules)=false /\
  ∃xs,KT H kvs xs/\h.DictOfH (tupleKind (bY P w)) a xs:=by
 obtain⟨z,y,xs,r,o,es,ep,h1,h2,h3,h4,h5⟩:=(show a9 P w H h a (.dT kvs) from Jk ok e);refine⟨z,y,xs,r,o,es,ep,h1,h2,h3,h4,fun x hx=>?_,h5⟩;have all:∀ {l:List (List Key×V)}{m:List (List Key×Addr×Value)},KT H l m -> ∀x∈m,(tupleKind (bY P w)).is h x.1 x.2.1:=by
  intro l m q
  induction q with
  |nil=>intro x hx;exact nomatch hx
  |@cons p q ps qs hq t ih =>
   intro x hx;rcases b9.mp hx with e|hx
   ·subst e
    exact pO ok (by rw[<-hq.1];exact hq.2.1)
   ·exact ih x hx
 exact all r x hx
theorem Jl {kvs:List (List Key×V)} (ok:b3 P w H h) (e:H a=some (.dT kvs)):kvs.length<=sizeLine/\(a==sysModules)=false /\
  ∃xs,KT H kvs xs/\h.DictOfH (tupleKind (bY P w)) a xs:=sC ok (.inl e)
def cp (H:Hp) (a:Addr) (y:V) (r:Option V):Prop:=
 (∃kvs k,Rd H a (.dK kvs)/\y=kV k/\r=a7 kvs k) \/ ∃kvs k b,Rd H a (.dT kvs)/\y = .ref b/\H b=some (.tup (k.map kV))/\r=a7 kvs k
def gY (H:Hp) (a:Addr) (y v:V) (H':Hp):Prop:=
 (∃kvs k,H a=some (.dK kvs)/\y=kV k/\kvs.length < sizeLine/\H'=upd H a (.dK (putK kvs k v))) \/
 ∃kvs k b,H a=some (.dT kvs)/\y = .ref b/\H b=some (.tup (k.map kV))/\kvs.length < sizeLine/\H'=upd H a (.dT (putK kvs k v))
theorem cp.k {k:Key} (e:H a=some (.dK kvs)):cp H a (kV k) (a7 kvs k):= .inl ⟨kvs,k,.inl e,rfl,rfl⟩
theorem cp.t {kvs:List (List Key×V)}{k:List Key} (e:H a=some (.dT kvs)) (eb:H b=some (.tup (k.map kV))):cp H a (.ref b) (a7 kvs k):= .inr ⟨kvs,k,b,.inl e,rfl,eb,rfl⟩
theorem gY.k {k:Key} (e:H a=some (.dK kvs)) (hl:kvs.length < sizeLine):gY H a (kV k) v (upd H a (.dK (putK kvs k v))):= .inl ⟨kvs,k,e,rfl,hl,rfl⟩
theorem gY.t {kvs:List (List Key×V)}{k:List Key} (e:H a=some (.dT kvs)) (eb:H b=some (.tup (k.map kV))) (hl:kvs.length < sizeLine) :
  gY H a (.ref b) v (upd H a (.dT (putK kvs k v))):= .inr ⟨kvs,k,b,e,rfl,eb,hl,rfl⟩
section
variable{r:Value}{o:Option V}
theorem Inv.big (I:Inv X pins σ H s):sysModules < s.heap.objs.size:=by
 have h:mainGlobals < s.heap.objs.size:=(I.mod.glob.keeps I.bk).lt;exact rm (by decide) h
theorem Qx (hu:A.units+1 < cLine) (I:Inv X pins σ H s) (g:cp H a y (some v)) (ry:RelV y u) (h:∀w' s',Inv X pins σ H s'->RelV v w'->Q w' s') :
  wpAny (model X.prog X.w) A (getItem (.ref a) u) Q E s:=by
 rcases g with⟨kvs,k,e,ey,l⟩|⟨kvs,k,b,e,ey,eb,l⟩
 ·subst ey
  obtain⟨z,hd,vs,rel,dd⟩:=nI I.aj e;obtain⟨w',hw,iq⟩:=eJ.some_of (v:=v) (o:=valueAt vs k) (by rw[l];exact rel.val k)
  exact wpAny_getItem_of (pX ry) dd.mapOf hw (h w' _ (I.tok _) iq)
 ·subst ey
  cases (show u=Value.ref b from ry)
  obtain⟨z,hd,xs,rel,dd⟩:=sC I.aj e;obtain⟨w',hw,iq⟩:=eJ.some_of (v:=v) (o:=(atKey xs k).map (·.2)) (by rw[l];exact rel.val k)
  obtain⟨p,hp,iJ⟩:=lj.mp hw;refine wpAny_getItem_heap (Fu hu) (pO I.aj eb) dd hp ?_;rw[iJ];exact h w' _ (I.tok _) iq
theorem WT (hu:A.units+1 < cLine) (I:Inv X pins σ H s) (g:cp H a y o) (ry:RelV y u) (h:∀s',Inv X pins σ H s'->Q (.bool o.isSome) s') :
  wpAny (model X.prog X.w) A (compareOp .In u (.ref a)) Q E s:=by
 rcases g with⟨kvs,k,e,ey,l⟩|⟨kvs,k,b,e,ey,eb,l⟩
 ·subst ey
  obtain⟨z,hd,vs,rel,dd⟩:=nI I.aj e;refine wpAny_in_of (pX ry) hd dd.mapOf ?_;rw[<-(rel.val k).rL,<-l];exact h _ (I.tok _)
 ·subst ey
  cases (show u=Value.ref b from ry)
  obtain⟨z,hd,xs,rel,dd⟩:=sC I.aj e;refine wpAny_in_heap (Fu hu) (pO I.aj eb) hd dd ?_;have q:=(rel.val k).rL;rw[zx]at q;rw[<-q,<-l];exact h _ (I.tok _)
theorem SE (hu:A.units+1 < cLine) (I:Inv X pins σ H s) (g:cp H a y o) (ry:RelV y u) (h:∀s',Inv X pins σ H s'->Q (.bool (!o.isSome)) s') :
  wpAny (model X.prog X.w) A (compareOp .NotIn u (.ref a)) Q E s:=by
 rcases g with⟨kvs,k,e,ey,l⟩|⟨kvs,k,b,e,ey,eb,l⟩
 ·subst ey
  obtain⟨z,hd,vs,rel,dd⟩:=nI I.aj e;refine wpAny_notIn_of (pX ry) hd dd.mapOf ?_;rw[<-(rel.val k).rL,<-l];exact h _ (I.tok _)
 ·subst ey
  cases (show u=Value.ref b from ry)
  obtain⟨z,hd,xs,rel,dd⟩:=sC I.aj e;refine wpAny_notIn_heap (Fu hu) (pO I.aj eb) hd dd ?_;have q:=(rel.val k).rL;rw[zx]at q;rw[<-q,<-l];exact h _ (I.tok _)
theorem AB {ob:HO} (I:Inv X pins σ H s) (mu:tH (H a)) (hs:Heap.SameBut a s.heap h') (he:∃q,h'.get? a=some q) (new:a9 X.prog X.w (upd H a ob) h' a ob) :
  Inv X pins σ (upd H a ob) { s with heap:=h',toks:=t' }:=
 I.write (x:=a) (e:=a) mu (.inl rfl) (fun b q hb z=>(hs.2 b hb).trans z) he new
theorem IP {vs:List (Key×Value)} (z:kvs.length<=sizeLine) (hd:(a==sysModules)=false) (rel:KV kvs vs) (dd:h'.DictOf (bY P w) a vs) :
  a9 P w H' h' a (.dK kvs):=⟨z,hd,vs,rel,dd⟩
theorem Qy {Q:Unit->Shared->Prop} (hu:A.units+1 < cLine) (I:Inv X pins σ H s) (g:gY H a y v H') (ry:RelV y u) (rv:RelV v r) (h:∀s',Inv X pins σ H' s'->Q () s') :
  wpAny (model X.prog X.w) A (setItem (.ref a) u r) Q E s:=by
 rcases g with⟨kvs,k,e,ey,l,eH⟩|⟨kvs,k,b,e,ey,eb,l,eH⟩
 ·subst ey eH
  obtain⟨z,hd,vs,rel,dd⟩:=Be I.aj e;have hz:vs.length<=sizeLine:=by rw[<-rel.length];exact z
  have hl:(putK kvs k v).length<=sizeLine:=by have:=rE kvs k v;omega
  refine wpAny_setItem_pairs (hsz:=hz) (pX ry) dd fun h' iK hs=>h _ ?_;have he:∃q,h'.get? a=some q:=let ⟨q,_,_,hq,_⟩:=iK;⟨q,hq⟩;exact AB I (by rw[e];exact True.intro) hs he (IP hl hd (rel.put k rv) iK)
 ·subst ey eH
  cases (show u=Value.ref b from ry)
  obtain⟨z,hd,xs,rel,dd⟩:=Jl I.aj e;have hz:xs.length<=sizeLine:=by rw[<-eu rel];exact z
  have hl:(putK kvs k v).length<=sizeLine:=by have:=rE kvs k v;omega
  refine wpAny_setItem_heap (hsz:=hz) (Fu hu) (pO I.aj eb) dd fun h' iK hs=>h _ ?_;obtain⟨q,es,ep,hq,h2,h3,h4,_,h5⟩:=iK;refine AB I (by rw[e];exact True.intro) hs ⟨q,hq⟩ ⟨hl,hd,_,(rel.put k eb rv).keeps fun c ys ec=>?_,q,es,ep,hq,h2,h3,h4,h5⟩
  rw[ae (aS ec e (fun z=>nomatch z))];exact ec
end
section
variable{k:Key}
theorem Vl (I:Inv X pins σ H s) (e:Rd H a (.dK kvs)) (h:∀t s',Inv X pins σ H s'->Q (.int kvs.length t) s'):wpAny (model X.prog X.w) A (call (.builtin "len") [.ref a]) Q E s:=by
 obtain⟨z,hd,vs,rel,dd⟩:=nI I.aj e;refine call_len_dict hd dd (by rw[<-rel.length];rw[aT]at z;omega) ?_
 rw[<-rel.length];exact h _ _ (I.tok _)
end
def JY (i:Expr):Prop:= ∀ov iv,subscripted i false ov iv=operate [ov,iv] (getItem ov iv)
theorem SF {slice:Expr}{id:String}
  (hl:typeLookup (.type T) "__getitem__" = pure (some (.builtin id))) (hs:JY slice)
  (h:wpAny (model prog w) A (eval value env) (fun o bp=>wpAny (model prog w) A (eval slice env) (fun i lP=>lP.TypeIs o T/\wpAny (model prog w) A (getItem o i) Q E lP) E bp) E s) :
  wpAny (model prog w) A (eval (.Subscript value slice pos) env) Q E s:=by
 refine Subscript_ (j6 h (fun o bp jL=>j6 jL (fun i lP kF=>?_) fun _ _ x=>x) fun _ _ x=>x);obtain⟨hT,kF⟩:=kF;unfold subscriptTail;refine af ?_;rw[getitemInPython_of_ne hT.not_modules];refine af (wpAny_specialOf hT hl ?_);have fin:wpAny (model prog w) A (subscripted slice false o i) (fun r JZ=>wpAny (model prog w) A (letTemporaryGo value o r >>= fun _=>pure r) Q E JZ) E lP:=by
  rw[hs o i];exact wpAny_operating (j6 kF (fun r JZ sU=>af (wpAny_letTemporaryGo (ax sU))) fun _ _ x=>x)
 first
  |exact ax (af fin)
  |exact af (ax (af fin))
  |exact af fin
theorem Pe {o:Option V} (I:Inv X pins σ H s) (g:cp H a y o):s.TypeIs (.ref a) "dict" :=by
 rcases g with⟨kvs,k,e,_,_⟩|⟨kvs,k,b,e,_,_,_⟩
 ·obtain⟨_,_,vs,_,dd⟩:=nI I.aj e
  exact dd.typeIs
 ·obtain⟨_,_,xs,_,dd⟩:=sC I.aj e
  exact dd.typeIs
def Bf (td ty:TE):TE:=fun σ H Q=>td σ H fun x H1=>ty σ H1 fun y H2=>∃a v,x = .ref a/\cp H2 a y (some v)/\Q v H2
def J0 (ty td:TE):TE:=fun σ H Q=>ty σ H fun y H1=>td σ H1 fun x H2=>∃a o,x = .ref a/\cp H2 a y o/\Q (.bl o.isSome) H2
def SH (ty td:TE):TE:=fun σ H Q=>ty σ H fun y H1=>td σ H1 fun x H2=>∃a o,x = .ref a/\cp H2 a y o/\Q (.bl (!o.isSome)) H2
def Vm (td ty tv:TE):TS:=fun D σ H=>tv σ H fun v H1=>td σ H1 fun x H2=>ty σ H2 fun y H3=>∃a H4,x = .ref a/\gY H3 a y v H4/\D.nx σ H4
section
variable{o i:Expr}{BE:Pos}{td ty:TE}
theorem gm (hu:X.A.units+1 < cLine) (ho:PE X o td) (hi:PE X i ty) (hs:JY i):PE X (.Subscript o i pos) (Bf td ty):=by
 intro pins s σ H Q I h;refine SF PySem.F.slot_dict_getitem.lookup hs (ao (ho pins s σ H _ I h) fun u s1 ⟨x,H1,I1,rx,q1⟩=>ao (hi pins s1 σ H1 _ I1 q1) fun iv s2 ⟨y,H2,I2,ry,a,v,ex,g,q2⟩=>?_);subst ex;obtain rfl:u=Value.ref a:=rx;exact⟨Pe I2 g,Qx hu I2 g ry fun w' s3 I3 iq=>⟨v,H2,I3,iq,q2⟩⟩
theorem pP (hu:X.A.units+1 < cLine) (hi:PE X i ty) (ho:PE X o td):PC X .In i o (J0 ty td):=by
 intro pins s σ H Q I h;refine ao (hi pins s σ H _ I h) fun iv s1 ⟨y,H1,I1,ry,q1⟩=>ao (ho pins s1 σ H1 _ I1 q1) fun u s2 ⟨x,H2,I2,rx,a,ov,ex,g,q2⟩=>?_;subst ex;obtain rfl:u=Value.ref a:=rx;exact WT hu I2 g ry fun s3 I3=>⟨.bl ov.isSome,H2,I3,rfl,q2⟩
theorem Hb (hu:X.A.units+1 < cLine) (hi:PE X i ty) (ho:PE X o td):PC X .NotIn i o (SH ty td):=by
 intro pins s σ H Q I h;refine ao (hi pins s σ H _ I h) fun iv s1 ⟨y,H1,I1,ry,q1⟩=>ao (ho pins s1 σ H1 _ I1 q1) fun u s2 ⟨x,H2,I2,rx,a,ov,ex,g,q2⟩=>?_;subst ex;obtain rfl:u=Value.ref a:=rx;exact SE hu I2 g ry fun s3 I3=>⟨.bl (!ov.isSome),H2,I3,rfl,q2⟩
theorem kf (hu:X.A.units+1 < cLine) (ho:PE X o td) (hi:PE X i ty) (hv:PE X value tv) (hs:swapsWith value (some (.Subscript o i pos')) pos.line X.env=pure false) :
  PS X (.Assign [.Subscript o i pos'] value pos) (Vm td ty tv):=by
 intro pins s σ H D I h;refine wpAny_Assign_Subscript (ao (hv pins s σ H _ I h) fun r s1 ⟨v,H1,I1,rv,q1⟩=>ao (ho pins s1 σ H1 _ I1 q1) fun u s2 ⟨x,H2,I2,rx,q2⟩=>ao (hi pins s2 σ H2 _ I2 q2) fun iv s3 ⟨y,H3,I3,ry,a,H4,ex,g,q3⟩=>?_) hs;subst ex;obtain rfl:u=Value.ref a:=rx;exact Qy hu I3 g ry rv fun s4 I4=>⟨σ,H4,I4,q3⟩
end
theorem Rv (h:Heap) (hb:sysModules < h.objs.size):a9 P w H (h.push { cls:= .type "dict",data:= .dict #[] }) h.objs.size (.dK []):=
 ⟨bw _,j4.mpr (aV (bX hb)),[],.nil,Heap.DictOf.new h⟩
theorem HD (h:Heap) (hb:sysModules < h.objs.size):a9 P w H (h.push { cls:= .type "dict",data:= .dict #[] }) h.objs.size (.dT []):=
 ⟨bw _,j4.mpr (aV (bX hb)),[],.nil,_,#[],0,cK _ rfl,⟨rfl,rfl,rfl⟩,rfl,rfl,lu⟩
def Ut:TE:=fun _ H Q=>∀p,H p=none->Q (.ref p) (upd H p (.dK []))
def Uu:TE:=fun _ H Q=>∀p,H p=none->Q (.ref p) (upd H p (.dT []))
theorem rR:PE X (.Dict [] [] pos) Ut:=fun pins s σ H Q I h =>
 wpAny_Dict_empty ⟨.ref s.heap.objs.size,_,I.laid (a:=s.heap.objs.size) (o:= .dK []) (t':=s.toks) (fun _ _ q=>bj _ q) (aO _) (Rv s.heap I.big),rfl,h _ (I.aj.fresh (aO _))⟩
theorem Ah:PE X (.Dict [] [] pos) Uu:=fun pins s σ H Q I h =>
 wpAny_Dict_empty ⟨.ref s.heap.objs.size,_,I.laid (a:=s.heap.objs.size) (o:= .dT []) (t':=s.toks) (fun _ _ q=>bj _ q) (aO _) (HD s.heap I.big),rfl,h _ (I.aj.fresh (aO _))⟩
end L2
namespace HT
open PySem PyProof.Rows
theorem ON {t:Addr}{lo:Option Int} (ht:IsTup s.heap t items) (hs:s.heap.IsSliceOf sl vl vu .none) (pl:IsPart vl lo) (pu:IsPart vu hi)
  (h0:aY items.size 0 lo=0) (h1:aY items.size items.size hi=items.size) (h:Q (.ref t) s):wpAny (model prog w) A (getItem (.ref t) (.ref sl)) Q E s:=by
 obtain⟨os,oz,ya,tQ⟩:=id hs;have C7:s.TypeIs (.ref sl) "slice" :=⟨os,oz,ya⟩;unfold getItem
 try with_reducible refine gw ?_
 first|refine af (ax ?_)|skip
 refine af (wpAny_sequenceKey ht.typeIs (by decide) ?_)
 refine af (Fc (name:=Str.ofString "__getitem__") ht.typeIs vc
  (rh vc ht.typeIs entry_tuple_getitem ?_ (args_tuple_getitem _ _)))
 show wpAny _ _ (Builtin.Tuple.tupleItemsOf (.ref t) >>= _) _ _ s;refine af (tupleItemsOf_ ht ?_);refine af (oZ C7 ?_);rw[aB (by decide)]
 refine af (FK hs pl pu ?_);rw[h0,h1];have WU:((((0:Nat):Int)==0 && (1:Int)==1 && (items.size - 0)==items.size)=true):=by simp
 show wpAny _ _ (if ((((0:Nat):Int)==0 && (1:Int)==1 && (items.size - 0)==items.size)=true) then _ else _) _ _ s;rw[aB WU];refine af (af (oZ ht.typeIs (ax ?_)));rw[aB (by decide)]
 exact af (vj (ax ⟨_,rfl,ax h⟩))
theorem Rw {t:Addr}{ws:List Value} (ht:IsTup s.heap t ([]:List Value).toArray) (hb:IsTup s.heap b ws.toArray) (h:Q (.ref b) s):wpAny (model prog w) A (binaryOp .Add (.ref t) (.ref b)) Q E s:=by
 obtain⟨⟨cls,dd,data,sl⟩,ho,hc,n,hd⟩:=id ht;obtain⟨⟨JJ,x8,data2,x9⟩,ip,gI,n2,hd2⟩:=id hb;obtain rfl:cls = .type "tuple" :=hc;obtain rfl:data = .seq #[] n:=hd;obtain rfl:JJ = .type "tuple" :=gI;obtain rfl:data2 = .seq ws.toArray n2:=hd2;exact concat_meets ⟨_,ho,rfl⟩ ⟨_,ip,rfl⟩ N6 N7 N8 N9 (Oa _ _) (tuple_addW0 t b #[] ws.toArray n n2 dd x8 sl x9 rfl) ⟨ho,ip,h⟩
end HT
namespace L2
open PySem PySem.Spec PyProof.Rows PySem.W
theorem HE {o:HO} (hq:H q=none):aw H (upd H q o):=fun b u e=>by rw[ae (au e hq)];exact e
def WV:V->Option Int->Option Int->Hp->VK->Prop:=fun x lo hi H Q=>∃a xs,x = .ref a/\H a=some (.tup xs) /\ ∀p H',aw H H'->H' p=some (.tup (gX xs lo hi))->Q (.ref p) H'
theorem Io:qw X WV:=by
 intro pins s σ H x v vl vu lo hi sl Q I rx hs pl pu h;obtain⟨a,xs,rfl,hx,q⟩:=h
 by_cases hw:HT.aY xs.length 0 lo=0/\HT.aY xs.length xs.length hi=xs.length
 ·cases rx
  obtain⟨its,r,ht,hz⟩:=I.tuple (aG.of hx);have hlen:its.toArray.size=xs.length:=by rw[cf];exact r.length.symm
  refine⟨"tuple",_,vc.lookup,ht.typeIs,HT.ON ht hs pl pu (by rw[hlen];exact hw.1) (by rw[hlen];exact hw.2) ?_⟩
  refine⟨.ref a,H,I,rfl,q a H (aw.refl _) ?_⟩;unfold gX;rw[hw.1,hw.2,Ft,Ol,dc];exact hx
 ·exact Ud pins s σ H (.ref a) v vl vu lo hi sl Q I rx hs pl pu ⟨a,xs,rfl,aG.of hx,hw,fun p hp=>q p _ (HE hp) ag⟩
def Vn:R2:=fun x y H Q=>∃a b xs ys,x = .ref a/\y = .ref b/\H a=some (.tup xs)/\H b=some (.tup ys)/\xs.length+ys.length<=sizeLine /\ ∀p H',aw H H'->H' p=some (.tup (xs++ys))->Q (.ref p) H'
theorem Ip:b6 X (binaryOp .Add) Vn:=by
 intro pins s σ H x y v u Q I rx ry h;obtain⟨a,b,xs,ys,rfl,rfl,ha,hb,hz,q⟩:=h;cases xs with
 |nil =>
  cases rx
  cases ry
  obtain⟨its,r1,p1,_⟩:=I.tuple (aG.of ha);obtain⟨wZ,r2,p2,_⟩:=I.tuple (aG.of hb);cases r1
  exact HT.Rw p1 p2 ⟨.ref b,H,I,rfl,q b H (aw.refl _) hb⟩
 |cons z xs=>exact R' pins s σ H (.ref a) (.ref b) v u Q I rx ry ⟨a,b,_,ys,rfl,rfl,aG.of ha,aG.of hb,by simp,hz,fun e=>q a H (aw.refl _) (by rw[e,iw];exact ha),fun _ p hp=>q p _ (HE hp) ag⟩
theorem AD {k:Key} (h:(bY P w).is k u=true):RelV (kV k) u:=by
 cases k with
 |inl i=>exact Value.isInt_shape (show Value.isInt i u=true from h)
 |inr x=>exact Value.isStrOf_shape (show Value.isStrOf x u=true from h)
theorem Iq:∀ {xs:List V}{us:List Value},xs.length=us.length->(∀ (i:Nat) x u,xs[i]? = some x->us[i]? = some u->RelV x u)->Vals xs us
 |[],[],_,_=>.nil
 |[],_::_,h,_=>by simp at h
 |_::_,[],h,_=>by simp at h
 |x::xs,u::us,h,f=>.cons (f 0 x u rfl rfl) (Iq (by simpa using h) fun i y v a b=>f (i+1) y v (by simpa using a) (by simpa using b))
theorem zR (hc:X.calm=true):dZ X (.type "list") (fun xs H Q=>∃d kvs,xs = [.ref d]/\H d=some (.dK kvs) /\ ∀l,H l=none->Q (.ref l) (upd H l (.lst (kvs.map fun kv=>kV kv.1)))):=by
 intro pins s σ H xs us Q I r h;obtain⟨d,kvs,rfl,hd,q⟩:=h;obtain⟨u,rfl,rx⟩:=vals1 r;cases rx
 obtain⟨hz,lo,vs,kv,dd⟩:=Be I.aj hd;obtain⟨ep,da⟩:=dd.dictAt;have hlen:kvs.length=vs.length:=kv.length;refine kdl_call (kdl_dict (kvs:=vs) (ep:=ep) lo) (I.ok.hd hc) da (by rw[<-hlen];exact hz) fun h' tk acc c kp e it=>?_
 refine⟨.ref s.heap.objs.size,_,I.laid (t':=tk) kp (aO _) (show a9 X.prog X.w _ h' _ (.lst (kvs.map fun kv=>kV kv.1)) from⟨by rw[aJ];exact hz,acc.toList,c,?_,by rw[Array.toArray_toList];exact e⟩),rfl,q _ (I.aj.fresh (aO _))⟩
 refine Iq (by rw[aJ,E4];exact hlen.trans it.1.symm) fun i x v hx hv=>?_
 obtain⟨k,y,hk,hi⟩:=it.2 i v (by rw[<-afl];exact hv)
 obtain⟨yj,d5,rfl⟩:=lj.mp (by rw[<-gS];exact hx)
 have e:yj.1=k:=by
  clear it hx hv hlen da dd q hz hd
  induction kv generalizing i with
  |nil=>simp at d5
  |cons p _ ih =>
   cases i with
   |zero =>
    simp at d5 hk;subst d5;rw[p.1,hk]
   |succ i=>exact ih i (by simpa using hk) (by simpa using d5)
 rw[e];exact AD hi
end L2
namespace HT
open PySem PyProof.Rows
section
open PySem.SeqAt
open PySem.AutoSeq1 (wpAny_loadPart')
open PySem.MeetsSeq PySem.MeetsSeq2 PySem.MeetsSeq3
end
end HT
namespace L2
open PySem PySem.Spec PyProof.Rows PySem.W HT
theorem pK {α β:Type}{F:α->β->Prop}:∀ {l:List α}{m:List β}{i:Nat}{x:α},Paired F l m->l[i]? = some x -> ∃y,m[i]? = some y/\F x y
 |_,_,i,x,.nil,e=>by simp at e
 |_,_,0,x,.cons p _,e=>by simp at e;subst e;exact⟨_,rfl,p⟩
 |_,_,i+1,x,.cons _ t,e=>by simpa using pK (i:=i) t (by simpa using e)
end L2
namespace HT
open PySem PyProof.Rows
open PySem.AutoSeq1 (wpAny_loadPart')
end HT
namespace L2
open PySem PySem.Spec PyProof.Rows PySem.W HT
end L2
namespace HT
open PySem PyProof.Rows
end HT
namespace HT
open PySem PyProof.Rows PySem.W
end HT
namespace HT
open PySem PyProof.Rows PySem.W L2
theorem vE:plainId "dict.update.loop" = true:=by decide +kernel
theorem Hc:entryFor table "dict.update.loop" = some Builtin.«dict.update.loop» :=entryFor_of_fast (by kernel_rfl)
theorem stored_new {K:Type} [DecidableEq K] {kvs:List (K×Value)}{k:K}{v:Value} (h:k ∉ kvs.map (·.1)):stored kvs k v=kvs ++ [(k,v)]:=by
 unfold stored;rw[ar];intro z;obtain⟨p,hp,e⟩:=vm.mp z;exact h (bt.mpr ⟨p,hp,by simpa using e⟩)
end HT
namespace HT
open PySem PyProof.Rows
section
open PySem.SeqAt
open PySem.AutoSeq1 (wpAny_loadPart')
open PySem.MeetsSeq PySem.MeetsSeq2 PySem.MeetsSeq3
end
end HT
namespace L2
open PySem PySem.Spec PyProof.Rows PySem.W HT
theorem fg {qz:Scope} (h:(sc.names.map (·.1)).Nodup/\N'.Nodup/\BI N N' bH sc=true /\ ∀p∈sc.names,p.2 = .free->qz.names.lookup p.1=some .cell\/qz.names.lookup p.1=some .free) (a:sc.kind = .function:=by rfl) (b:bH.length=N'.length:=by rfl):cg N qz N' bH sc:=⟨a,h.1,h.2.1,b,Ji h.2.2.1,h.2.2.2⟩
theorem bS {P:List Str} (h:N.Nodup/\(∀x∈P,sc.names.lookup x=some .local\/sc.names.lookup x=some .cell) /\ ∀y∈sc.names,y.2 ≠ .free) (a:sc.kind = .function:=by rfl) (b:sc.isCoroutine=false:=by rfl) (c:sc.isGenerator=false:=by rfl) (d:N.take P.length=P:=by rfl):bx N P sc:=⟨a,b,c,h.1,d,h.2.1,h.2.2⟩
theorem A1 {xs:List Str} (h:(xs.map V.str)[i]? = some v):i < (xs.map V.str).length /\ ∃hl:i < xs.length,V.str xs[i]=v/\xs.take (i+1)=xs.take i ++ [xs[i]]:=by
 have h1:=(b4.mp h).1;have h2:i < xs.length:=by simpa using h1
 exact⟨h1,h2,by simpa [h2] using h,by rw[dj,bK h2];rfl⟩
theorem ie {n:Nat} (h:n+64 < cLine):n+1 < cLine:=by omega
theorem kR:3<=sizeLine:=by rw[aT];decide
theorem eT:2<=sizeLine:=Nat.le_of_succ_le kR
theorem mr:1<=sizeLine:=Nat.le_of_succ_le eT
end L2
namespace L2
open PySem PySem.W
structure b8 (P:Program) (w:World) (K:Frag) (mg:Str->Option Value) (base:Heap) (CX:iG) (k:Nat) (f:Addr) (fd:FuncData) (ps:List Str) (sp:Sp) (x:Str):Prop where
 G:aU P w K mg base CX k f fd ps sp
 k:keepIn K (.ref f)=true
 b:Binds K fd ps []
 m:mg x=some (.ref f)
section
variable{k:Nat}{p:Pos}{t:TA}
theorem bA (C:b8 X.prog X.w X.K X.mg X.base aQ k f fd ps sp x) (hr:aX k X.A) (ha:PA X (e::es) t) (hg:Gl X x:=by rfl) (cq:(x==("__debug__" : Str))=false:=by decide) (he:starEach (e::es) X.env=(false,eval e X.env)::starEach es X.env:=by rfl) (cF:(backTo pos (starEach es X.env)).any (·.1)=false:=by rfl):PE X (.Call (.Name x p) (e::es) [] pos) (Bc sp [] E0 t):=gU C.G hr hg C.m C.k C.b .nil ff ha cq he cF
end
end L2
namespace L2
open PySem PySem.Spec PyProof.Rows PySem.W HT
theorem Rx {h0:ExceptHandler}{hs:List ExceptHandler}{t:TS} (h:dH X body t) (hx:X.xe=fun _ _=>False):PS X (.Try body (h0::hs) [] [] pos) t:=by
 intro pins s σ H D I hw;have nr:∀ {α:Type}{tt:Sem α}{Q:α->Shared->Prop}{E:Value->Shared->Prop}{s':Shared},wpAny (model X.prog X.w) X.A tt Q X.xe s'->wpAny (model X.prog X.w) X.A tt Q E s':=fun z=>by rw[hx]at z;exact Ff z
 refine wpAny_Try_except (ao (nr (h pins s σ H D I hw)) fun f s1 z=>?_);cases f with
 |next=>exact va z
 |brk=>exact z
 |cont=>exact z
 |ret u=>exact z
theorem Hd (hc:X.calm=true):dZ X (.builtin "any") (fun xs H Q=>∃ (p:Addr) (bs:List Bool),xs = [.ref p]/\ai X.K H p (bs.map V.bl)/\Q (.bl (bs.any id)) H):=by
 intro pins s σ H xs us Q I r h;obtain⟨p,bs,rfl,hq,q⟩:=h;obtain⟨u,rfl,rx⟩:=vals1 r;cases rx
 obtain⟨its,rv,pl,hz⟩:=I.list hq;have hlen:=rv.length;have vals:its=bs.map Value.bool:=by
  clear q hq pl hz r hlen
  induction bs generalizing its with
  |nil=>cases rv;rfl
  |cons b bs ih =>
   cases rv with
   |cons r1 rt=>cases r1;rw[ih _ rt];rfl
 have new:∀b o,s.heap.get? b=some o->b≠s.heap.objs.size:=fun b o e=>bX (bq e);obtain⟨ol,mq,_⟩:=id pl.isList;refine call_any_walk (E5 pl.isList ?_);refine⟨s.heap.objs.size,_,_,_,_,_,fun i=>bs.getD i false,rfl,Walks.list (A:=X.A.in1) (I.ok.hd hc) s.heap.objs.size p (new p ol mq) its.toArray,⟨⟨_,cK _ rfl,rfl,rfl⟩,pl.isList.at fun o e=>bj _ e⟩,fun i v s2 Q2 E2 hv jq=>?_,fun h' tk kp=>?_⟩
 ·rw[vals]at hv
  have:bs[i]?.map Value.bool=some v:=by simpa using hv
  obtain⟨b,hb,rfl⟩:=lj.mp this;refine j7 ?_;have e:bs.getD i false=b:=by rw[iy,hb];rfl
  exact e ▸ jq
 ·have fin:(List.range its.toArray.size).any (fun i=>bs.getD i false)=bs.any id:=by
   have hs:its.toArray.size=bs.length:=by rw[vals];simp
   rw[hs]
   apply rb.mpr
   simp only[vm,mS]
   constructor
   ·rintro⟨i,hi,e⟩
    exact⟨bs[i],mV hi,by simpa [List.getD,hi] using e⟩
   ·rintro⟨b,hb,e⟩
    obtain⟨i,hi,rfl⟩:=Fs hb;exact⟨i,hi,by simpa [List.getD,hi] using e⟩
  rw[fin];exact⟨.bl _,H,I.kept (t':=tk) fun b o e=>kp b o (by simpa using new b o e) (bj _ e),rfl,q⟩
def Dm (x:Str):It:=⟨fun i _=>i < x.cps.size,fun i H v H'=>H'=H /\ ∃c,x.cps[i]? = some c/\v = .str ⟨#[c]⟩,fun i _=>x.cps.size<=i⟩
theorem HF (it:Addr) (x:Str) (t:Tok) (T:String) (hT : ["enumerate","zip","dict_itemiterator","dict_reverseitemiterator","odict_iterator","itertools.zip_longest","itertools.pairwise"].contains T=false)
  (W:∀A':Around,A'.handled=none->Walks P w A' it [it] [it] x.cps.size (SignAt x) (fun i h=>h.IsStrIter it T x t i))
  (hs:∀ (A:Around) (i:Nat) (s:Shared) (Q:Value->Shared->Prop) (E:Value->Shared->Prop),s.heap.IsStrIter it T x t i->Q (.ref it) s->wpAny (model P w) A (pyIter (.ref it)) Q E s):Turn P w K tg (Dm x) [it] it (fun i h=>i<=x.cps.size/\h.IsStrIter it T x t i) where
 mem:=by simp
 obj:=fun i h st b hb=>by
  obtain rfl:b=it:=by simpa using hb
  obtain⟨_,o,e,c,d⟩:=st;exact⟨o,e,fun v z=>by rw[d]at z;cases z⟩
 keep:=fun i h h' st k=>by
  obtain⟨l,o,e,r⟩:=st;exact⟨l,o,k it (by simp) _ e,r⟩
 item:=by
  intro X hP hw hK hc i pins s σ H E I hf st hg;subst hP hw hK;obtain⟨f0,f1,f2,f3,f4,f5⟩:=hf it (by simp)
  refine(W X.A (I.ok.hd hc)).item i s _ _ hg st.2 fun v h' tk hv il kk=>?_;obtain⟨c,u,Zu,rfl⟩:=hv;have I1:Inv X pins σ H { s with heap:=h',toks:=tk }:=I.turned (fun b o hb e=>kk b o (by simpa using hb) e) f0 f1 f3 f4 f5
  obtain⟨o,e,cl,d⟩:=id il;exact⟨_,rfl,sv (s:={ s with heap:=h',toks:=tk }) e cl d hT ⟨.str ⟨#[c]⟩,H,I1,⟨u,rfl⟩,⟨rfl,c,Zu,rfl⟩,⟨hg,il⟩,fun b hb=>(hf b hb).1⟩⟩
 done:=by
  intro X hP hw hK hc i pins s σ H E I hf st hg;subst hP hw hK;obtain⟨f0,f1,f2,f3,f4,f5⟩:=hf it (by simp)
  have ei:i=x.cps.size:=Om st.1 hg;subst ei;exact(W X.A (I.ok.hd hc)).done s _ _ st.2 fun h' tk kk=>⟨rfl,I.turned (fun b o hb e=>kk b o (by simpa using hb) e) f0 f1 f3 f4 f5⟩
 self:=fun A i s Q E st h=>hs A i s Q E st.2 h
def WW (te:TE):TI:=fun σ H R=>te σ H fun v H1=>∃x,v = .str x/\R (Dm x) H1
theorem Uv (he:PE X e te):PI X tg e (WW te):=by
 intro pins s σ H R I h;refine ao (he pins s σ H _ I h) fun v s1 ⟨y,H1,I1,r1,x,ey,q⟩=>?_;subst ey;obtain⟨t,rfl⟩:=r1;have I2:∀o:Obj,Inv X pins σ H1 { s1 with heap:=s1.heap.push o }:=fun o=>I1.kept (t':=s1.toks) fun b ob z=>bj _ z;have fp:∀b ∈ [s1.heap.objs.size],gE X pins H1 b:=fun b hb=>by
  obtain rfl:b=s1.heap.objs.size:=by simpa using hb
  exact I1.iS (aO _) (I1.aj.fresh (aO _))
 cases ha:x.cps.all (· < 128)
 ·refine wpAny_pyIter_wide ha ?_
  exact⟨s1.heap.objs.size,[s1.heap.objs.size],_,_,H1,rfl,I2 _,HF s1.heap.objs.size x t "str_iterator" (by decide) (fun A' hA=>Walks.strWide hA _ x t) (fun _ _ _ _ _ st h=>wpAny_pyIter_striter_wide st h),⟨bw _,_,cK _ rfl,rfl,rfl⟩,fp,q⟩
 ·refine wpAny_pyIter_ascii ha ?_
  exact⟨s1.heap.objs.size,[s1.heap.objs.size],_,_,H1,rfl,I2 _,HF s1.heap.objs.size x t "str_ascii_iterator" (by decide) (fun A' hA=>Walks.strAscii hA _ x t) (fun _ _ _ _ _ st h=>wpAny_pyIter_striter_ascii st h),⟨bw _,_,cK _ rfl,rfl,rfl⟩,fp,q⟩
theorem Ry {g:TG}{Q:VK} (Pv:Nat->List V->St->Hp->Prop) (h0:Pv 0 [] gH (upd H1 p (.lst []))) (hl:∀i ys τ H,Pv i ys τ H->H p=some (.lst ys))
  (hs:∀i c ys τ H,x.cps[i]? = some c->Pv i ys τ H->g (.str ⟨#[c]⟩) τ H fun bV H4=>ti bV H4 fun b H5=>if b=true then te bV H5 fun y H6=>H6 p=some (.lst ys)/\ys.length < sizeLine /\ ∃m',m' < x.cps.size - i/\CW Pv x.cps.size (i+1) m' (ys ++ [y]) bV (upd H6 p (.lst (ys ++ [y]))) else ∃m',m' < x.cps.size - i/\CW Pv x.cps.size (i+1) m' ys bV H5)
  (hd:∀ys τ H,Pv x.cps.size ys τ H->Q (.ref p) H):jI (Dm x) g ti te gH Q p H1:=by
 refine⟨CW Pv x.cps.size,⟨x.cps.size,by simp,bw _,h0⟩,?_⟩
 rintro i m ys τ H ⟨rfl,hi,pv⟩;refine⟨hl i ys τ H pv,?_⟩
 by_cases aZ:i < x.cps.size
 ·refine .inr ⟨aZ,fun v H3 y3=>?_⟩
  obtain⟨e3,c,hc,rfl⟩:=y3;subst e3;exact hs i c ys τ _ hc pv
 ·have e:i=x.cps.size:=by omega
  subst e;exact .inl ⟨aO _,hd ys τ H pv⟩
end L2
namespace HT
open PySem PyProof.Rows PySem.W L2
theorem OR (a:Addr) (vs:Array Value) (n:Nat) (u:Tok) (sl:Array (Option Value)) :
  Meets (Builtin.«object.__getattribute__» ⟨[.ref a,.str "keys" u],[]⟩) (fun A R s=>s.heap.get? a=some { cls:= .type "tuple",dict:=none,data:= .seq vs n,slots:=sl }/\raisesAttr (.ref a) "keys" A R s):=
 meets_getattribute_miss_tuple a vs n sl "keys" u (by rw[typeLookup_type,builtinLookup_eq_fast];kernel_rfl) (by decide +kernel) (by rw[aT];decide +kernel)
theorem Rz {vs:Array Value}{n:Nat}{sl:Array (Option Value)}{Q:Option Value->Shared->Prop} (hx:s.heap.get? a=some { cls:= .type "tuple",dict:=none,data:= .seq vs n,slots:=sl }) (hA:A.handled=none)
  (h:∀h' tk,(∀b o,s.heap.get? b=some o->h'.get? b=some o)->Q none { s with heap:=h',toks:=tk }):wpAny (model prog w) A (getAttr? (.ref a) "keys") Q E s:=by
 obtain⟨hp,g,d,tk,os⟩:=s;have hT:∀oG,(⟨hp,g,d,oG,os⟩:Shared).TypeIs (.ref a) "tuple" :=fun _=>⟨_,hx,rfl⟩;have f1:=sub_AttributeError;have f3:=Oo.lookup;have f4:=Oo.bind (.ref a);have f5:=am_tuple_getattr_none;unfold getAttr? getAttrBy? getAttrBy
 repeat (any_goals (first|assumption|exact hT _|((with_reducible show wpAny _ _ (call (Value.builtin "tuple.__getattribute__") _ _) _ _ _);refine vd Oo (hT _) am_entry_tuple_getattribute (F.args_tuple_getattribute_2 _ _) (OR a vs n _ sl) ⟨hx,hA,fun h' oG e dJ=>?_⟩)|wp_step))
 obtain⟨t',u',he⟩:=dJ.there;show wpAny _ _ (getattributeRaised _ _ _ _ _ _ _) _ _ _;unfold getattributeRaised
 repeat (any_goals (first|assumption|wp_step))
 exact h h' oG dJ.keeps
section
variable{t:Addr}{vs:Array Value}
theorem RA {Q:Unit->Shared->Prop}{T:Addr}{x y:Value}{k:Key}{kvs:List (Key×Value)}{i:Int} (hT:IsTup s.heap T #[x,y]) (hk:(bY prog w).is k x=true) (hd:s.heap.DictOf (bY prog w) d kvs) (new:k ∉ kvs.map (·.1)) (hz:kvs.length<=sizeLine)
  (q:∀h' tk,h'.DictOf (bY prog w) d (kvs ++ [(k,y)])->Heap.SameBut d s.heap h'->Q () { s with heap:=h',toks:=tk }) :
  wpAny (model prog w) A (holding [Value.ref T] (do
   let pair <- (Builtin.Dict.pairItems (.ref T)).tryCatch fun e=>do
    if !(<- isInstance e (.type "TypeError")) then throw e
    rule "dict.update.element-no-sequence"
    raiseError "TypeError" s!"cannot convert dictionary update sequence element #{i} to a sequence"
   match pair with
   |[k,v]=>holding [k,v] (dictSet d k v)
   |l =>
    rule "dict.update.element-length"
    raiseError "ValueError" s!"dictionary update sequence element #{i} has length {l.length}; 2 is required")) Q E s:=by
 refine gw (af (wpAny_tryCatch ?_));unfold Builtin.Dict.pairItems;refine af (oZ hT.typeIs ?_);rw[aB (by decide)]
 obtain⟨o,ho,_,n,eU⟩:=hT;refine af (wpAny_seqItems ho eU (ax ?_));show wpAny _ _ (holding [x,y] (dictSet d x y)) _ _ _;refine gw (wpAny_dictSet_pairs (hsz:=hz) hk hd fun h' dd sb=>?_);rw[stored_new new]at dd;exact q h' _ dd sb
theorem SI (hh:A.in1.handled=none) (Dn:d≠it) (qD:d≠t) (LA:t≠it) (ps:List (Key×Value)) (nd:(ps.map (·.1)).Nodup) (hz:ps.length<=sizeLine) (hsz:vs.size=ps.length) (hv:IsTup g t vs)
  (Dp:∀ (i:Nat) p,ps[i]? = some p -> ∃a x,vs[i]? = some (.ref a)/\a≠it/\a≠d/\IsTup g a #[x,p.2]/\(bY prog w).is p.1 x=true) :
  ∀ (m k:Nat) (s:Shared),ps.length - k=m->k<=ps.length->IsTupIter s.heap it t k->s.heap.DictOf (bY prog w) d (ps.take k) ->
   (∀b o,b≠it->b≠d->g.get? b=some o->s.heap.get? b=some o) ->
   (∀h' tk,h'.DictOf (bY prog w) d ps->(∀b o,b≠it->b≠d->g.get? b=some o->h'.get? b=some o)->R (.ok (.ret .none)) { s with heap:=h',toks:=tk }) ->
   codeAny (model prog w) A (.builtin "dict.update.loop" ⟨[.ref d,.ref it,rawInt k,.none],[]⟩) R s:=by
 have up:∀ {b:Addr}{us:Array Value}{h:Heap},b≠it->b≠d->(∀b o,b≠it->b≠d->g.get? b=some o->h.get? b=some o)->IsTup g b us->IsTup h b us:=fun n1 n2 kp ⟨o,ho,r⟩=>⟨o,kp _ _ n1 n2 ho,r⟩;intro m
 induction m with
 |zero =>
  intro k s hm hk t1 dd kp hR;have ek:k=ps.length:=by omega
  refine vh Hc (?_:wpAny _ _ _ _ _ _);rw[vi vE _];show wpAny _ A.in1 (pyNext (.ref it) >>= _) _ _ s;refine af (next_tuple_end hh t1 (up LA qD.symm kp hv) (by simp;omega) fun h' k'=>?_)
  refine af (m:=Builtin.Dict.addKeywords d []) (ax (ax ?_));have iK:h'.DictOf (bY prog w) d (ps.take k):=dd.at fun o e=>k' d o Dn e;rw[ek,dc]at iK;exact hR h' s.toks iK fun b o a1 a2 e=>k' b o a1 (kp b o a1 a2 e)
 |succ m ih =>
  intro k s hm hk t1 dd kp hR;have aZ:k < ps.length:=by omega
  have hp:ps[k]? = some ps[k]:=bK aZ;obtain⟨a,x,Zv,yk,Zw,Vo,BD⟩:=Dp k _ hp;have Zx:ps.take (k+1)=ps.take k ++ [ps[k]]:=by rw[dj,hp];rfl
  have new:ps[k].1 ∉ (ps.take k).map (·.1):=fun w=>by
   have e:ps.map (·.1)=(ps.take k).map (·.1)++(ps.drop k).map (·.1):=by rw[<-bQ,Oq]
   rw[e,jy]at nd;refine nd.2.2 _ w _ ?_ rfl;rw[rn aZ];exact br
  refine vh Hc (?_:wpAny _ _ _ _ _ _);rw[vi vE _];show wpAny _ A.in1 (pyNext (.ref it) >>= _) _ _ s;refine af (next_tuple_item t1 (up LA qD.symm kp hv) Zv fun h' Zy sb=>?_);have jo:∀b o,b≠it->b≠d->g.get? b=some o->h'.get? b=some o:=fun b o a1 a2 e=>sb.extBut b o a1 (kp b o a1 a2 e);have iK:h'.DictOf (bY prog w) d (ps.take k):=dd.at fun o e=>sb.extBut d o Dn e;refine af (RA (s:={ s with heap:=h' }) (k:=ps[k].1) (up yk Zw jo Vo) BD iK new (by rw[c8];omega) fun gL tk WX LB=>?_)
  rw[show((k:Int)+1)=((k+1:Nat):Int) from rfl];exact ax ⟨zw vE _,ih (k+1) _ (by omega) aZ (Zy.extBut LB.extBut Dn.symm) (by rw[Zx];exact WX) (fun b o a1 a2 e=>LB.extBut b o a2 (jo b o a1 a2 e)) hR⟩
theorem OX (hh:A.handled=none) (ps:List (Key×Value)) (nd:(ps.map (·.1)).Nodup) (hz:ps.length<=sizeLine) (hsz:vs.size=ps.length) {n:Nat}{sl:Array (Option Value)}
  (hv:s.heap.get? t=some { cls:= .type "tuple",dict:=none,data:= .seq vs n,slots:=sl })
  (Dp:∀ (i:Nat) p,ps[i]? = some p -> ∃a x,vs[i]? = some (.ref a)/\IsTup s.heap a #[x,p.2]/\(bY prog w).is p.1 x=true)
  (q:∀d h' tk,s.heap.objs.size<=d->h'.DictOf (bY prog w) d ps->(∀b o,s.heap.get? b=some o->h'.get? b=some o)->Q (.ref d) { s with heap:=h',toks:=tk }) :
  wpAny (model prog w) A (call (.type "dict") [.ref t]) Q E s:=by
 refine callType_codes (Q₁:=fun obj bp=>obj = .ref s.heap.objs.size/\bp={ s with heap:=s.heap.push { cls:= .type "dict",data:= .dict #[] } }) F.kt_called_dict (F.kt_typeCall_dict_1 _) F.entry_dict_init (kt_code_dict_new _ ⟨rfl,rfl⟩) ?_;rintro obj bp ⟨rfl,rfl⟩;have dn:(s.heap.push { cls:= .type "dict",data:= .dict #[] }).DictOf (bY prog w) s.heap.objs.size []:=Heap.DictOf.new s.heap;have k2:∀b o,s.heap.get? b=some o->(s.heap.push { cls:= .type "dict",data:= .dict #[] }).get? b=some o:=fun b o e=>bj _ e;generalize s.heap.push { cls:= .type "dict",data:= .dict #[] }=h2 at dn k2 ⊢;refine⟨dn.typeIs,F.args_dict_init_2 _ _,?_⟩;unfold Builtin.«dict.__init__»;refine af ?_;unfold Builtin.Dict.selfAndRest;refine af (wpAny_notOrdered_dict dn.typeIs ?_);refine(ax ?_:wpAny _ _ (pure (s.heap.objs.size,[Value.ref t])) _ _ _);show wpAny _ _ (Builtin.Dict.updateFrom "dict.__init__" s.heap.objs.size (.ref t) [] .none) _ _ _;unfold Builtin.Dict.updateFrom;have v2:=k2 _ _ hv;refine af (oZ (T:= "tuple") ⟨_,v2,rfl⟩ ?_);rw[aB (by decide)]
 refine af (Rz v2 hh fun h3 tk3 k3=>?_);rw[aB (by decide)]
 have Zz:IsTup h3 t vs:=⟨_,k3 _ _ v2,rfl,n,rfl⟩;refine af (vj (af (iter_tuple Zz ?_)));refine ax ⟨zw vE _,?_⟩;have up:∀b o,s.heap.get? b=some o->h3.get? b=some o:=fun b o e=>k3 b o (k2 b o e);have ym:s.heap.objs.size < h3.objs.size:=by
  obtain⟨o,_,_,ho,_⟩:=dn;exact bq (k3 _ _ ho)
 have ZA:h3.DictOf (bY prog w) s.heap.objs.size []:=dn.at fun o e=>k3 _ o e;have lt:∀ {b:Addr}{o:Obj},s.heap.get? b=some o->b < s.heap.objs.size:=fun e=>bq e;refine SI (A:=A.in1) (g:=s.heap) (it:=h3.objs.size) hh (bX ym) (oU (lt hv)) (bX (rm (lt hv) ym)) ps nd hz hsz ⟨_,hv,rfl,n,rfl⟩ (fun i p hp=>?_) _ 0 _ rfl (bw _) ⟨_,cK _ rfl,rfl,rfl⟩ (ZA.at fun o e=>bj _ e) (fun b o _ _ e=>bj _ (up b o e)) fun h' tk dd kp=>?_
 ·obtain⟨a,x,h1,t6,ZC⟩:=Dp i p hp
  obtain⟨o,ho,_⟩:=id t6;exact⟨a,x,h1,bX (rm (lt ho) ym),bX (lt ho),t6,ZC⟩
 ·exact⟨rfl,q _ h' tk (aO _) dd fun b o e=>kp b o (bX (rm (lt e) ym)) (bX (lt e)) e⟩
end
end HT
namespace L2
open PySem PySem.Spec PyProof.Rows PySem.W HT
theorem He:b6 X (compareOp .LtE) (fun x y H Q=>∃i j,x = .str i/\y = .str j/\Q (.bl (!decide (j.cps.toList < i.cps.toList))) H):=by
 intro pins s σ H x y v u Q I rx ry ⟨i,j,ex,ey,q⟩;subst ex ey;obtain⟨t,rfl⟩:=rx;obtain⟨t',rfl⟩:=ry;exact P.le_str (cu I q rfl)
def nD (H:Hp) (vs:List V) (kvs:List (Str×V)):Prop:=Paired (fun y p=>∃a,y=V.ref a/\H a=some (.tup [.str p.1,p.2])) vs kvs
def hX (kvs:List (Str×V)):List (Key×V):=kvs.map fun p=>(Sum.inr p.1,p.2)
theorem Ir:∀ (kvs:List (Str×V)) (ys:List Value),ys.length=kvs.length->(∀ (i:Nat) (hi:i < kvs.length),∃y,ys[i]? = some y/\RelV kvs[i].2 y)->KV (hX kvs) ((kvs.map fun p=>(Sum.inr p.1:Key)).zip ys)
 |[],ys,h,_=>.nil
 |p::kvs,[],h,_=>by simp at h
 |p::kvs,y::ys,h,f=>by
  obtain⟨y',e,r⟩:=f 0 (by simp)
  obtain rfl:y=y':=by simpa using e
  exact .cons ⟨rfl,r⟩ (Ir kvs ys (by simpa using h) fun i hi=>by
   obtain⟨y2,e2,r2⟩:=f (i+1) (Nat.succ_lt_succ hi);exact⟨y2,by simpa using e2,r2⟩)
theorem OS:dZ X (.type "tuple") (fun xs H Q=>∃p ys,xs = [.ref p]/\ai X.K H p ys /\ ∀l o,H l=none->o.dict=none->Q (.ref l) (upd H l (.a6 o (.tup ys)))):=by
 intro pins s σ H xs us Q I r ⟨p,ys,ex,hq,q⟩;subst ex;obtain⟨u,rfl,rx⟩:=vals1 r;cases rx
 obtain⟨its,r',pl,hz⟩:=I.list hq;have hlen:=r'.length;refine call_tuple_list pl.isList (fun h' kp=>?_) (by simp only[cf] <;> omega)
 have I1:Inv X pins σ H { s with heap:=h' }:=I.kept (t':=s.toks) kp;refine⟨.ref h'.objs.size,_,I1.laid (o:= .a6 { cls:= .type "tuple",data:= .seq its.toArray } (.tup ys)) (t':=s.toks) (fun b o e=>bj _ e) (aO _) ⟨cK _ rfl,hz,its,r',kB.new _ _⟩,rfl,q _ _ (I1.aj.fresh (aO _)) rfl⟩
end L2
namespace L2
open PySem PySem.W
def Vp (_ j:Int):Prop:=0 < j/\j < 4611686018427387904
theorem RB:b6 X (binaryOp .FloorDiv) (rI Vp fun i j=>.int (i / j)):=tN fun i j _ _ _ _ _ hc q=>by
 have h1:(0:Int) < j:=hc.1;have h2:j < 4611686018427387904:=hc.2;refine PyProof.Rows.floordiv_int (by omega) (by rw[ae8 i (by omega)];exact q) (.inl (PyProof.noPylong_of_log2 ?_))
 have h3:j.natAbs < 2 ^ 62:=by omega
 have h4:j.natAbs.log2 < 62:=(Nat.log2_lt (by omega)).mpr h3
 omega
end L2
namespace L2
open PySem PySem.W PySem.Calls PyProof.Rows
section
variable{α β:Type}{n:Nat}
def Pm (n:Nat) (p:Array Nat):Prop:=p.toList.Perm (List.range n)
theorem Pm.lt {p:Array Nat} (h:Pm n p) (hn:0 < n) (i:Nat):p.getD i 0 < n:=by
 rw[j'];cases e:p[i]? with
 |none=>exact hn
 |some x =>
  have:x∈p.toList:=Array.mem_def.mp (afw e);exact mS.mp (h.mem_iff.mp this)
theorem Pm.rev {p:Array Nat} (h:Pm n p) (i j:Nat):Pm n (kas_rev p i j):=(afx.mp (mirror_perm p i j _)).trans h
theorem Pm.ZD {p:Array Nat} (h:Pm n p) (i j:Nat):Pm n (bubble p i j):=(afx.mp (bubble_perm p i j)).trans h
theorem IQ {γ:Type}{p:Array Nat}{vs:List γ} (d:γ) (h:Pm vs.length p):(p.toList.map fun i=>vs.getD i d).Perm vs:=by
 have h1:=List.Perm.map (fun i=>vs.getD i d) h;refine h1.trans (List.Perm.of_eq ?_)
 apply List.ext_getElem
 ·simp
 ·intro i h1 h2
  simp[List.getD,h2]
end
theorem zN {α β:Type}{F:α->β->Prop}{l l':List α} (h:l'.Perm l):∀ {m:List β},Paired F l m -> ∃m',m'.Perm m/\Paired F l' m':=by
 induction h with
 |nil=>intro m p;exact⟨m,.refl _,p⟩
 |cons x _ ih =>
  intro m p;cases p with
  |cons q t =>
   obtain⟨m',e,r⟩:=ih t;exact⟨_::m',e.cons _,.cons q r⟩
 |swap x y l =>
  intro m p;cases p with
  |cons q t =>
   cases t with
   |cons q2 t=>exact⟨_,List.Perm.swap _ _ _,.cons q2 (.cons q t)⟩
 |trans _ _ ZE ZF =>
  intro m p;obtain⟨m2,e2,p2⟩:=ZF p;obtain⟨m1,e1,p1⟩:=ZE p2;exact⟨m1,e1.trans e2,p1⟩
theorem Uw {o:HO} (x:a9 P w H h a o):∃q,h.get? a=some q:=by
 cases o with
 |lst xs=>obtain⟨_,_,_,_,e⟩:=x;exact⟨_,e⟩
 |tup xs=>obtain⟨_,_,_,q,e,_⟩:=x;exact⟨q,e⟩
 |dK kvs=>obtain⟨_,_,_,_,o,_,_,e,_⟩:=x;exact⟨o,e⟩
 |dT kvs=>obtain⟨_,_,_,_,o,_,_,e,_⟩:=x;exact⟨o,e⟩
 |set S n=>obtain⟨o,_,_,_,e,_⟩:=x;exact⟨o,e⟩
 |ins C dx fs=>obtain⟨_,_,_,e,_⟩:=x;exact⟨_,e⟩
 |own y=>exact x
 |xd fs=>obtain⟨_,⟨o,_,_,e,_⟩,_⟩:=x;exact⟨o,e⟩
 |tG lo hi=>obtain⟨_,_,_,e⟩:=x;exact⟨_,e⟩
 |a6 q u=>exact⟨q,x.1⟩
 |kI ps=>exact⟨_,x⟩
 |met f y=>exact⟨_,x⟩
 |ext φ=>exact x.2.1
theorem Inv.sorted {σ:List (Option V)}{m:Str->Option Value}{D:Addr}{out:List Value}{c:Nat} (I:Inv X pins σ H s) (hm:s.heap.Ns X.env.locals m) (jV:h'.Ns X.env.locals m)
  (k:∀b o,b≠X.env.locals->s.heap.get? b=some o->h'.get? b=some o) (hD:∀b o,s.heap.get? b=some o->b≠D) (new:h'.get? D=some (listOf out.toArray c)) (r:Vals ys out) (hz:ys.length<=sizeLine) :
  H D=none/\Inv X pins σ (upd H D (.lst ys)) { s with heap:=h',toks:=t' }:=by
 have there:∀b u,H b=some u -> ∃o,s.heap.get? b=some o:=fun b u e=>Uw (I.aj b u e);have hn:H D=none:=by
  cases q:H D with
  |none=>rfl
  |some u =>
   obtain⟨o,e⟩:=there D u q;exact absurd rfl (hD D o e)
 have t7:∀b u,H b=some u->b≠D:=fun b u e z=>by rw[z,hn]at e;cases e
 have tJ:∀b u,H b=some u->b≠X.env.locals:=fun b u e z=>by rw[z,I.free]at e;cases e
 refine⟨hn,I.step (g':=s.gens) (d':=s.drawn) (ch:= []) (fun _ z=>nomatch z) (fun b o hL _ _ e _=>k b o hL e) (fun b o hL _ _ e _=>⟨o.slots,k b o hL e⟩) (fun b o _ e n=>by rw[ae (hD b o e)];exact n) (fun b o _ e=>?_)
  (fun b xs e=>by rw[ae (t7 b _ e)];exact e) (fun b o u e=>by rw[ae (t7 b _ e)];exact e) (fun b ps e=>⟨#[],by rw[ae (t7 b _ e),e];simp⟩) (fun m' q=>?_) (fun b u e=>?_) I.bare⟩
 ·by_cases hb:b=X.env.locals
  ·obtain⟨o',es,ep,ho,_⟩:=jV
   exact⟨o',by rw[hb];exact ho⟩
  ·exact⟨o,k b o hb e⟩
 ·obtain⟨o,es,ep,ho,hd,hs,hf⟩:=hm
  obtain⟨o2,es2,ep2,ip,hd2,qv,Dq⟩:=q;rw[ho]at ip;cases ip;rw[hd]at hd2;cases hd2;have:m'=m:=funext fun x=>(Dq x).symm.trans (hf x);rw[this];exact jV
 ·by_cases hb:b=D
  ·subst hb
   rw[ag]at e;cases e;exact⟨hz,out,c,r,new⟩
  ·rw[ae hb]at e
   refine(I.aj b u e).eK (fun a v hc q=>k a v ?_ q) (fun a q=>by rw[ae (t7 a _ q)];exact q) fun a xs q=>by rw[ae (t7 a _ q)];exact q
   rcases hc with z|z
   ·rw[z];exact tJ b u e
   ·exact tJ a _ z
theorem Qz {B:Around}{n:Nat}{R:PySem.Fin->Shared->Prop} (at_:s.heap.get? a=some (seqObj "list" us.toArray n)) (a8:us.length < 2)
  (k:∀c g,(∀b o,b≠a->s.heap.get? b=some o->g.get? b=some o)->g.get? a=some (listOf us.toArray c)->R (.done (.ret .none)) { s with heap:=g }):wpAny (model P w) B (Builtin.«list.sort» ⟨[.ref a],[]⟩) R E s:=by
 obtain⟨ep,gone⟩:∃ep,(s.heap.update a (Obj.mapSeq fun _=>(#[]:Array Value))).get? a=some (seqObj "list" #[] ep):=⟨_,get?_update_seq at_ fun _=>#[]⟩;have fits:us.toArray.size<=sizeLine:=by rw[aT,cf];omega
 have small:us.toArray.size < 2:=by simpa using a8
 rw[list_sort_plain];refine af (listItems_at at_ rfl (af (listUpdate_at at_ rfl (af (seqEpoch_at gone rfl (af (wpAny_newTuple (af (Ou (gw ?_) (bw _))) (by simpa using fits))))) fits (bw _))))
 have two:∀b o,(s.heap.update a (Obj.mapSeq fun _=>(#[]:Array Value))).get? b=some o->(((s.heap.update a (Obj.mapSeq fun _=>(#[]:Array Value))).push (seqObj "tuple" us.toArray 0)).push (seqObj "list" #[] 0)).get? b=some o:=fun b o q=>bj _ (bj _ q)
 change wpAny (model P w) B _ R E { s with heap:=((s.heap.update a (Obj.mapSeq fun _=>(#[]:Array Value))).push (seqObj "tuple" us.toArray 0)).push (seqObj "list" #[] 0) }
 have wF:=two _ _ gone;have others:∀b o,b≠a->s.heap.get? b=some o->(((s.heap.update a (Obj.mapSeq fun _=>(#[]:Array Value))).push (seqObj "tuple" us.toArray 0)).push (seqObj "list" #[] 0)).get? b=some o:=fun b o nb q=>two b o (((Ov s.heap a _).2 b nb).trans q);generalize (((s.heap.update a (Obj.mapSeq fun _=>(#[]:Array Value))).push (seqObj "tuple" us.toArray 0)).push (seqObj "list" #[] 0))=g at wF others ⊢
 dsimp only
 rw[aB small,aB small];refine af (ax (af (ax ?_)));have same:(arrOf (SortSt.mk' general' (us.toArray.zip us.toArray) #[] 7 none)).map (·.2)=us.toArray:=Fn.mp (by show((us.toArray.zip us.toArray).map (·.2)).toList=_;simp[List.map_snd_zip])
 dsimp only
 rw[same];refine af (seqEpoch_at wF rfl (af (listUpdate_at wF rfl ?_ (bw _) (Ow fits))));obtain⟨c,back⟩:∃c,(g.update a (Obj.mapSeq fun _=>us.toArray)).get? a=some (seqObj "list" us.toArray c):=⟨_,get?_update_seq wF fun _=>us.toArray⟩;simp only[bne_self_eq_false,oX,Od];exact ax (k c _ (fun b o nb q=>((Ov g a _).2 b nb).trans (others b o nb q)) back)
theorem Hf {γ:Type}{f:γ->V}{g:γ->Value} (h:∀x,RelV (f x) (g x)):∀l:List γ,Vals (l.map f) (l.map g)
 |[]=>.nil
 |x::l=>.cons (h x) (Hf h l)
end L2
namespace L2
open PySem PySem.W PySem.Spec PyProof.Rows
def qE (d:Addr) (o:Obj) (kvs:List (Key×V)):It:=⟨fun i H=>H d=some (.a6 o (.dK kvs))/\i < kvs.length,fun i H v H'=>H'=H /\ ∃kv,kvs[i]? = some kv/\v=kV kv.1,fun i H=>H d=some (.a6 o (.dK kvs))/\kvs.length<=i⟩
theorem Hg (d it:Addr) (bC:d≠it) (o:Obj) (kvs:List (Key×V)) (vs:List (Key×Value)) (ep:Nat) (rk:KV kvs vs) (hD:∀h:Heap,h.get? d=some o->h.DictAt (bY P w) d vs ep) :
  Turn P w K tg (qE d o kvs) [it] it (fun i h=>i<=kvs.length/\h.IsKeyIter it d i vs.length ep) where
 mem:=by simp
 obj:=fun i h st b hb=>by
  obtain rfl:b=it:=by simpa using hb
  obtain⟨_,o,e,c,d⟩:=st;exact⟨o,e,fun v z=>by rw[d]at z;cases z⟩
 keep:=fun i h h' st k=>by
  obtain⟨l,o,e,r⟩:=st;exact⟨l,o,k it (by simp) _ e,r⟩
 item:=by
  intro X hP hw hK hc i pins s σ H E I hf st hg;subst hP hw hK;obtain⟨f0,f1,f2,f3,f4,f5⟩:=hf it (by simp)
  have hl:kvs.length=vs.length:=rk.length;have hd:=hD s.heap (show a9 X.prog X.w H s.heap d (.a6 o (.dK kvs)) from I.aj d _ hg.1).1;refine(Walks.dictKeys (knd:=bY X.prog X.w) (I.ok.hd hc) it d bC vs ep).item i s _ _ (by have:=hg.2;omega) ⟨st.2,hd⟩ fun v h' tk hv il kk=>?_
  obtain⟨k,x,hx,hk⟩:=hv;have I1:Inv X pins σ H { s with heap:=h',toks:=tk }:=I.turned (fun b o hb e=>kk b o (by simpa using hb) e) f0 f1 f3 f4 f5
  obtain⟨ob,e,cl,dt⟩:=id il.1;have ck:i < kvs.length:=hg.2;have t8:kvs[i]? = some kvs[i]:=bK ck;have ek:kvs[i].1=k:=by
   have h1:=d7 (fun l=>l[i]?) rk.keys;simp only[gS,t8,hx]at h1;exact eF h1
  exact⟨_,rfl,sv (s:={ s with heap:=h',toks:=tk }) e cl dt (by decide) ⟨kV k,H,I1,AD hk,⟨rfl,kvs[i],t8,by rw[ek]⟩,⟨hg.2,il.1⟩,fun b hb=>(hf b hb).1⟩⟩
 done:=by
  intro X hP hw hK hc i pins s σ H E I hf st hg;subst hP hw hK;obtain⟨f0,f1,f2,f3,f4,f5⟩:=hf it (by simp)
  have ei:i=kvs.length:=Om st.1 hg.2;have hl:kvs.length=vs.length:=rk.length;have hd:=hD s.heap (show a9 X.prog X.w H s.heap d (.a6 o (.dK kvs)) from I.aj d _ hg.1).1;have jS:=st.2;rw[ei,hl]at jS;exact(Walks.dictKeys (knd:=bY X.prog X.w) (I.ok.hd hc) it d bC vs ep).done s _ _ ⟨jS,hd⟩ fun h' tk kk=>⟨rfl,I.turned (fun b o hb e=>kk b o (by simpa using hb) e) f0 f1 f3 f4 f5⟩
 self:=fun A i s Q E st h=>wpAny_pyIter_keyiter st.2 h
theorem Inv.freeze {σ:List (Option V)} (I:Inv X pins σ H s) (hd:H d=some (.dK kvs)) (ho:s.heap.get? d=some o):Inv X pins σ (upd H d (.a6 o (.dK kvs))) s:=by
 have ok:a9 X.prog X.w H s.heap d (.dK kvs):=I.aj d _ hd;have nd:∀ {b:Addr}{u:HO},H b=some u->u ≠ .dK kvs->b≠d:=fun e n z=>by rw[z,hd]at e;exact n (eF e).symm
 refine I.un (h':=s.heap) (t':=s.toks) ⟨fun b ob q _ _ _=>q,fun b ob q _ _ _=>⟨ob.slots,q⟩,fun b ob q n _=>?_,fun b ob q _=>⟨ob,q⟩,fun b xs e=>?_,fun b ob u e=>?_,fun b ps e=>⟨#[],?_⟩⟩ fun b u e=>?_
 ·rw[ae (fun z=>by rw[z,hd]at n;cases n)];exact n
 ·rw[ae (nd e (by intro z;cases z))];exact e
 ·rw[ae (nd e (by intro z;cases z))];exact e
 ·rw[ae (nd e (by intro z;cases z)),e];simp
 ·by_cases hb:b=d
  ·subst hb
   rw[ag]at e;cases e
   exact⟨ho,ok.eK (fun _ _ _ q=>q) (fun c q=>by rw[ae (nd q (by intro z;cases z))];exact q) fun c xs q=>by rw[ae (nd q (by intro z;cases z))];exact q⟩
  ·rw[ae hb]at e
   exact(I.aj b u e).eK (fun _ _ _ q=>q) (fun c q=>by rw[ae (nd q (by intro z;cases z))];exact q) fun c xs q=>by rw[ae (nd q (by intro z;cases z))];exact q
def Vq (te:TE):TI:=fun σ H R=>te σ H fun v H1=>∃d kvs,v = .ref d/\((H1 d=some (.dK kvs) /\ ∀o,R (qE d o kvs) (upd H1 d (.a6 o (.dK kvs)))) \/ ∃o,H1 d=some (.a6 o (.dK kvs))/\R (qE d o kvs) H1)
theorem SJ (he:PE X e te):PI X tg e (Vq te):=by
 intro pins s σ H R I h;refine ao (he pins s σ H _ I h) fun v s1 ⟨y,H1,I1,r1,d,kvs,ey,q⟩=>?_;subst ey;cases r1
 have rd:Rd H1 d (.dK kvs):=by
  rcases q with⟨e,_⟩|⟨o,e,_⟩
  ·exact .inl e
  ·exact .inr ⟨o,e⟩
 obtain⟨hz,hs,vs,rk,oH⟩:=nI I1.aj rd;obtain⟨o,es,ep,ho,hx,eU,hk,hp,hn⟩:=id oH;refine wpAny_pyIter_dict (knd:=bY X.prog X.w) (kvs:=vs) (ep:=ep) hs ⟨o,es,ho,hx,eU,hk,hp,hn⟩ ?_;have bC:d≠s1.heap.objs.size:=bX (bq ho);have hD:∀h:Heap,h.get? d=some o->h.DictAt (bY X.prog X.w) d vs ep:=fun h e=>⟨o,es,e,hx,eU,hk,hp,hn⟩;have I2:Inv X pins σ H1 { s1 with heap:=s1.heap.push { cls:= .type "dict_keyiterator",data:= .fields #[.ref d,.int 0 0,.int vs.length 0,.int ep 0] } }:=I1.kept (t':=s1.toks) fun b ob z=>bj _ z;have st:0<=kvs.length/\Heap.IsKeyIter (s1.heap.push { cls:= .type "dict_keyiterator",data:= .fields #[.ref d,.int 0 0,.int vs.length 0,.int ep 0] }) s1.heap.objs.size d 0 vs.length ep:=⟨bw _,_,cK _ rfl,rfl,rfl⟩;have yn:H1 s1.heap.objs.size=none:=I1.aj.fresh (aO _);rcases q with⟨e,q⟩|⟨o',e,q⟩
 ·refine⟨s1.heap.objs.size,[s1.heap.objs.size],_,_,_,rfl,I2.freeze e (bj _ ho),Hg d s1.heap.objs.size bC o kvs vs ep rk hD,st,fun b hb=>?_,q o⟩
  obtain rfl:b=s1.heap.objs.size:=by simpa using hb
  exact I1.iS (aO _) (by rw[ae (aV bC)];exact yn)
 ·obtain rfl:o'=o:=by
   have:=(show a9 X.prog X.w H1 s1.heap d (.a6 o' (.dK kvs)) from I1.aj d _ e).1;rw[ho]at this;exact(eF this).symm
  refine⟨s1.heap.objs.size,[s1.heap.objs.size],_,_,H1,rfl,I2,Hg d s1.heap.objs.size bC o' kvs vs ep rk hD,st,fun b hb=>?_,q⟩;obtain rfl:b=s1.heap.objs.size:=by simpa using hb
  exact I1.iS (aO _) yn
theorem RC {g:TG} (Pv:Nat->St->Hp->Prop) (h0:Pv 0 σ H) (hl:∀i σ H,i<=kvs.length->Pv i σ H->H d=some (.a6 o (.dK kvs)))
  (hs:∀i kv σ H,kvs[i]? = some kv->Pv i σ H->g (kV kv.1) σ H fun eM H2=>tb { D with nx:=Pv (i+1),ct:=Pv (i+1),bk:=D.nx } eM H2) (hd:∀σ H,Pv kvs.length σ H->D.nx σ H) :
  ∃W:Nat->Nat->St->Hp->Prop,(∃m,W 0 m σ H) /\ ∀i m σ H,W i m σ H ->
   ((qE d o kvs).stop i H/\D.nx σ H)\/((qE d o kvs).go i H /\ ∃N:St->Hp->Prop,(∀aI H',N aI H' -> ∃m',m' < m/\W (i+1) m' aI H') /\ ∀x H',(qE d o kvs).kM i H x H'->g x σ H' fun eM H2=>tb { D with nx:=N,ct:=N,bk:=D.nx } eM H2):=by
 refine⟨fun i m σ H=>m=kvs.length - i/\i<=kvs.length/\Pv i σ H,⟨kvs.length,by simp,bw _,h0⟩,?_⟩
 rintro i m σ H ⟨rfl,hi,p⟩;have q:=hl i σ H hi p
 by_cases aZ:i < kvs.length
 ·refine .inr ⟨⟨q,aZ⟩,Pv (i+1),fun aI H' p'=>⟨kvs.length - (i+1),by omega,rfl,aZ,p'⟩,fun x H' y=>?_⟩
  obtain⟨e,kv,d5,ex⟩:=y;subst e;subst ex;exact hs i kv σ _ d5 p
 ·have e:i=kvs.length:=by omega
  subst e;exact .inl ⟨⟨q,aO _⟩,hd σ H p⟩
def LC (a b:Str):Prop:=a.cps.toList<=b.cps.toList
theorem RE {a b:Str} (h1:LC a b) (h2:LC b a):a=b:=by
 have e:a.cps.toList=b.cps.toList:=List.le_antisymm h1 h2;cases a;cases b
 exact d7 Str.mk (Fn.mp e)
end L2
namespace HS
open PySem PySem.Spec PyProof.Rows
section
variable{xs:List Str}
theorem HG {vs:List Value}{ys:List Str} (h:StrsAre vs ys):vs.length=ys.length:=by
 induction h with
 |nil=>rfl
 |cons _ _ _ ih=>rw[gi,gi,ih]
end
end HS
namespace HS
open PySem PySem.Spec PyProof.Rows PySem.W
end HS
namespace L2
open PySem PySem.Spec PyProof.Rows PySem.W HS
theorem Iu:∀ {vs:List Value}{ys:List Str},StrsAre vs ys -> ∀ (i:Nat) (v:Value),vs[i]? = some v -> ∃t,v = .str (ys.getD i "") t
 |_,_,.nil,i,v,h=>by simp at h
 |_,_,.cons y t r,0,v,h=>by simp at h;exact⟨t,by rw[<-h];rfl⟩
 |_,_,.cons y t r,i+1,v,h=>by
  obtain⟨t',e⟩:=Iu r i v (by simpa using h)
  exact⟨t',by rw[e];rfl⟩
end L2
namespace L2
open PySem PySem.W PySem.Calls PyProof.Rows
section
variable{α β:Type}{n:Nat}{lt:Nat->Nat->Bool}
def jr (lt:Nat->Nat->Bool) (p:Array Nat) (k:Nat):Prop:= ∀i j,i < j->j < k->lt (p.getD i 0) (p.getD j 0)=true
def mw (lt:Nat->Nat->Bool) (p:Array Nat) (k:Nat):Prop:= ∀i j,i < j->j < k->lt (p.getD j 0) (p.getD i 0)=true
theorem Pm.size {p:Array Nat} (h:Pm n p):p.size=n:=by have:=h.length_eq;simpa using this
theorem Pm.ne {p:Array Nat} (h:Pm n p) (hi:i < n) (hj:j < n) (e:i≠j):p.getD i 0≠p.getD j 0:=by
 have hs:=h.size;have nd:p.toList.Nodup:=h.nodup_iff.mpr List.nodup_range;intro z;rw[j',j',Fv (by omega),Fv (by omega)]at z
 have z2:p.toList[i]'(by simp;omega)=p.toList[j]'(by simp;omega):=by simpa using z
 exact e ((List.getElem_inj nd).mp z2)
theorem HH {p:Array Nat} (hm:m<=p.size) (k:Nat) (hk:k < m):(kas_rev p 0 m).getD k 0=p.getD (m - 1 - k) 0:=by
 unfold kas_rev;rw[j',getElem?_mirror_all hm,aB ⟨bw _,hk⟩,j',Nat.zero_add]
theorem mw.rev {p:Array Nat} (hm:m<=p.size) (a:mw lt p m):jr lt (kas_rev p 0 m) m:=fun i j gM hj=>by
 rw[HH hm i (by omega),HH hm j hj]
 exact a _ _ (by omega) (by omega)
theorem HI {p:Array Nat}{k l:Nat} (hk:k < p.size) (hl:l<=k) (i:Nat):(bubble p k (k - l)).getD i 0=if i=l then p.getD k 0 else if l < i/\i<=k then p.getD (i - 1) 0 else p.getD i 0:=by
 rw[j',getElem?_bubble hk (k - l) (by omega)]
 have:k - (k - l)=l:=by omega
 rw[this]
 by_cases c1:i=l
 ·rw[aB c1,aB c1];exact(j' ..).symm
 ·rw[ar c1,ar c1]
  by_cases c2:l < i/\i<=k
  ·rw[aB c2,aB c2];exact(j' ..).symm
  ·rw[ar c2,ar c2];exact(j' ..).symm
end
def jW (p q:Str):Bool:=decide (p.cps.toList < q.cps.toList)
theorem HJ (p:Str):jW p p=false:=iO (List.lt_irrefl _)
theorem Ux {p q r:Str} (h1:jW p q=true) (h2:jW q r=true):jW p r=true:=gj (List.lt_trans (iP h1) (iP h2))
theorem SK {p q:Str} (h:p≠q) (f:jW p q=false):jW q p=true:=by
 refine gj ?_;have h1 : ¬ p.cps.toList < q.cps.toList:=of_decide_eq_false f;have h2:q.cps.toList<=p.cps.toList:=List.not_lt.mp h1
 by_cases z:q.cps.toList < p.cps.toList
 ·exact z
 ·exact absurd (RE (a:=p) (b:=q) (List.not_lt.mp z) h2) h
theorem QA {α β:Type}{F:α->β->Prop}{l:List α}{m:List β} (h:Paired F l m) (dl:α) (dm:β) (i:Nat) (hi:i < l.length):F (l.getD i dl) (m.getD i dm):=by
 induction h generalizing i with
 |nil=>exact absurd hi (Ox _)
 |cons p _ ih =>
  cases i with
  |zero=>exact p
  |succ i=>exact ih i (afB hi)
theorem Ge {α β γ:Type}{F:α->β->Prop}{f:γ->α}{g:γ->β}:∀ {l:List γ},(∀x∈l,F (f x) (g x))->Paired F (l.map f) (l.map g)
 |[],_=>.nil
 |x::l,h=>.cons (h x br) (Ge fun y hy=>h y (bU _ hy))
theorem Uy {lt:Nat->Nat->Bool}{p:Array Nat}{n:Nat} (hs:p.size=n) (a:jr lt p n):p.toList.Pairwise fun i j=>lt i j=true:=by
 rw[List.pairwise_iff_getElem];intro i j hi hj gM;have h1:i < p.size:=by simpa using hi
 have h2:j < p.size:=by simpa using hj
 have:=a i j gM (by omega)
 rw[j',j',Fv h1,Fv h2]at this
 simpa using this
end L2
namespace HS
open PySem PySem.Spec PyProof.Rows PySem.W
theorem Pf {vs:List Value}{Q:List Value->Shared->Prop} (ht:IsTup s.heap l vs.toArray) (hz:vs.length<=sizeLine) (q:∀h',(∀b o,s.heap.get? b=some o->h'.get? b=some o)->Q vs { s with heap:=h' }) :
  wpAny (model P w) A (collect (.ref l)) Q E s:=by
 obtain⟨o,ho,hc,n,hd⟩:=id ht;unfold collect;refine af (wpAny_runValue (vh PySem.F.entry_proto_collect ?_));rw[vi PySem.F.plain_proto_collect _];show wpAny _ A.in1 (newList [] >>= fun z=>again (.builtin "list.__iadd__" ⟨[z,.ref l],[]⟩)) _ _ s;refine af (Ou (ax ⟨zw afC _,vh PySem.F.entry_list_iadd ?_⟩));rw[vi afC _];show wpAny _ _ (Builtin.List.listExtendWith (.ref s.heap.objs.size) (.ref l) (.ref s.heap.objs.size)) _ _ { s with heap:=s.heap.push (seqObj "list" #[] 0) };unfold Builtin.List.listExtendWith;have ip:(s.heap.push (seqObj "list" #[] 0)).get? l=some o:=bj _ ho;refine af (oZ (T:= "tuple") ⟨o,ip,hc⟩ ?_);have t1:(Value.type "tuple" == Value.type "tuple")=true:=by rfl
 rw[aB (by rw[t1];simp)]
 refine af (listItems_at ip hd (af (listItems_at (xs:= #[]) (n:=0) (cK _ rfl) rfl ?_)));rw[ar (by simp)]
 refine af (listUpdate_at (xs:= #[]) (n:=0) (cK _ rfl) rfl (ax ?_) (bw _) (by show(#[]++vs.toArray).size<=sizeLine+1;simp only[Fo,cf,jx];omega))
 show wpAny (model P w) A (load s.heap.objs.size >>= _) Q E { s with heap:=(s.heap.push (seqObj "list" #[] 0)).update s.heap.objs.size (Obj.mapSeq (· ++ vs.toArray)) };refine af (wpAny_load (get?_update_seq (cK _ rfl) _) ?_);show wpAny _ _ (pure ((#[]:Array Value)++vs.toArray).toList) Q E _;rw[show((#[]:Array Value)++vs.toArray).toList=vs by simp]
 refine ax (q _ fun b ob e=>?_);exact(rj _ _ (oU (bq e))).trans (bj _ e)
end HS
namespace L2
open PySem PySem.Spec PyProof.Rows PySem.W HS
end L2
namespace L2
open PySem PySem.W PySem.Calls PyProof.Rows
structure ji (n:Nat) (lt:Nat->Nat->Bool):Prop where
 tr:∀i j k,i < n->j < n->k < n->lt i j=true->lt j k=true->lt i k=true
 ZG:∀i j,i < n->j < n->i≠j->lt i j=false->lt j i=true
def cM {α:Type} (n:Nat) (lt:Nat->Nat->Bool) (φ:α->Prop):KasT α->Prop
 |.ret a=>φ a
 |.ask i j k=>i < n/\j < n/\i≠j/\cM n lt φ (k (lt i j))
section
variable{α β:Type}{n:Nat}{lt:Nat->Nat->Bool}
theorem cM.bind {φ:α->Prop}{ψ:β->Prop}{f:α->KasT β} (g:∀a,φ a->cM n lt ψ (f a)):∀ {t:KasT α},cM n lt φ t->cM n lt ψ (t.bind f)
 |.ret a,h=>g a h
 |.ask _ _ _,h=>⟨h.1,h.2.1,h.2.2.1,cM.bind g h.2.2.2⟩
theorem cM.wp {φ:α->Prop}{cmp:Nat->Nat->(Bool->Shared->Prop)->Shared->Prop}{Q:α->Shared->Prop}{s:Shared} (hc:∀i j C,i < n->j < n->i≠j->C (lt i j) s->cmp i j C s):∀ {t:KasT α},cM n lt φ t->(∀a,φ a->Q a s)->t.kasWp cmp Q s
 |.ret a,h,q=>q a h
 |.ask _ _ _,h,q=>hc _ _ _ h.1 h.2.1 h.2.2.1 (cM.wp hc h.2.2.2 q)
theorem cM.mono {φ ψ:α->Prop} (g:∀a,φ a->ψ a):∀ {t:KasT α},cM n lt φ t->cM n lt ψ t
 |.ret a,h=>g a h
 |.ask _ _ _,h=>⟨h.1,h.2.1,h.2.2.1,cM.mono g h.2.2.2⟩
theorem Bg {p:Array Nat} (O:ji n lt) (h:Pm n p) (hi:i < n) (hj:j < n) (e:i≠j) (f:lt (p.getD i 0) (p.getD j 0)=false):lt (p.getD j 0) (p.getD i 0)=true:=
 O.ZG _ _ (h.lt (by omega) i) (h.lt (by omega) j) (h.ne hi hj e) f
theorem QB {p:Array Nat} (O:ji n lt) (h:Pm n p) (h1:1<=m) (hm:m < n) (a:jr lt p m) (l:lt (p.getD (m - 1) 0) (p.getD m 0)=true):jr lt p (m+1):=fun i j gM hj=>by
 by_cases e:j < m
 ·exact a i j gM e
 ·obtain rfl:j=m:=by omega
  by_cases e2:i=j - 1
  ·rw[e2];exact l
  ·exact O.tr _ _ _ (h.lt (by omega) _) (h.lt (by omega) _) (h.lt (by omega) _) (a i (j - 1) (by omega) (by omega)) l
theorem QC {p:Array Nat} (O:ji n lt) (h:Pm n p) (h1:1<=m) (hm:m < n) (a:mw lt p m) (l:lt (p.getD m 0) (p.getD (m - 1) 0)=true):mw lt p (m+1):=fun i j gM hj=>by
 by_cases e:j < m
 ·exact a i j gM e
 ·obtain rfl:j=m:=by omega
  by_cases e2:i=j - 1
  ·rw[e2];exact l
  ·exact O.tr _ _ _ (h.lt (by omega) _) (h.lt (by omega) _) (h.lt (by omega) _) l (a i (j - 1) (by omega) (by omega))
theorem Ai {p:Array Nat} (O:ji n lt) (h:Pm n p):∀ (f m:Nat),1<=m->m+f<=n->jr lt p m->cM n lt (fun r=>m<=r/\r<=m+f/\jr lt p r/\(r < m+f->lt (p.getD r 0) (p.getD (r - 1) 0)=true)) (kas_asc p f m)
 |0,m,h1,h2,a=>⟨aO _,aO _,a,fun z=>absurd z (by omega)⟩
 |f+1,m,h1,h2,a=>⟨h.lt (by omega) _,h.lt (by omega) _,h.ne (by omega) (by omega) (by omega),by
  cases c:lt (p.getD m 0) (p.getD (m - 1) 0) with
  |true=>exact⟨aO _,by omega,a,fun _=>c⟩
  |false =>
   refine cM.mono (fun r hr=>?_) (Ai O h f (m+1) (by omega) (by omega) (QB O h h1 (by omega) a (Bg O h (by omega) (by omega) (by omega) c)))
   exact⟨by omega,by omega,hr.2.2.1,fun z=>hr.2.2.2 (by omega)⟩⟩
theorem Hh {p:Array Nat} (O:ji n lt) (h:Pm n p):∀ (f m:Nat),1<=m->m+f<=n->mw lt p m->cM n lt (fun r:Array Nat×Nat×Nat=>r.1=p/\r.2.2=0/\m<=r.2.1/\r.2.1<=m+f/\mw lt p r.2.1) (kas_desc f p m 0)
 |0,m,h1,h2,a=>⟨rfl,rfl,aO _,aO _,a⟩
 |f+1,m,h1,h2,a=>⟨h.lt (by omega) _,h.lt (by omega) _,h.ne (by omega) (by omega) (by omega),by
  cases c:lt (p.getD m 0) (p.getD (m - 1) 0) with
  |true =>
   show cM n lt _ (if 0 > 0 then kas_desc f (kas_rev p (m - (0+1)) m) (m+1) 0 else kas_desc f p (m+1) 0);rw[ar (by omega)]
   refine cM.mono (fun r hr=>?_) (Hh O h f (m+1) (by omega) (by omega) (QC O h h1 (by omega) a c))
   exact⟨hr.1,hr.2.1,by omega,by omega,hr.2.2.2.2⟩
  |false =>
   refine⟨h.lt (by omega) _,h.lt (by omega) _,h.ne (by omega) (by omega) (by omega),?_⟩
   rw[Bg O h (by omega) (by omega) (by omega) c]
   exact⟨rfl,rfl,aO _,Nat.le_add_right _ _,a⟩⟩
def w9 (n:Nat) (lt:Nat->Nat->Bool) (r:Nat×Array Nat):Prop:=Pm n r.2/\jr lt r.2 r.1/\1<=r.1/\r.1<=n
theorem P6 {p:Array Nat} (O:ji n lt) (h:Pm n p) (h1:1<=m) (h2:m<=n) (a:mw lt p m):cM n lt (w9 n lt) (kas_tail3 m n p):=
 cM.bind (ψ:=w9 n lt) (f:=fun k=>.ret (k,kas_rev p 0 m)) (fun r hr=>(show w9 n lt (r,kas_rev p 0 m) from⟨h.rev _ _,hr.2.2.1,gQ h1 hr.1,by have:=hr.2.1;show r<=n;omega⟩)) (Ai O (h.rev 0 m) (n - m) m h1 (by omega) (a.rev (by rw[h.size];exact h2)))
theorem P7 {p:Array Nat} (O:ji n lt) (hn:2<=n) (h:Pm n p):cM n lt (w9 n lt) (kas_count n p):=
 (Ai O h (n - 1) 1 (aO _) (by omega) (fun i j gM hj=>absurd hj (by omega))).bind fun m hm=>by
  obtain⟨m1,m2,ma,ml⟩:=hm;show cM n lt _ (if (m==n)=true then _ else if m > 1 then _ else _);split
  ·rename_i e
   have:m=n:=by simpa using e
   subst this;exact⟨h,ma,m1,aO _⟩
  ·rename_i e
   have ne:m≠n:=by simpa using e
   split
   ·rename_i g
    refine⟨h.lt (by omega) _,h.lt (by omega) _,h.ne (by omega) (by omega) (by omega),?_⟩
    rw[ma 0 (m - 1) (by omega) (by omega)]
    exact⟨h,ma,m1,by omega⟩
   ·obtain rfl:m=1:=by omega
    have l:=ml (by omega)
    have d2:mw lt p 2:=fun i j gM hj=>by
     obtain rfl:j=1:=by omega
     obtain rfl:i=0:=by omega
     exact l
    refine cM.bind (fun r hr=>?_) (Hh O h (n - (1+1)) (1+1) (by omega) (by omega) d2)
    obtain⟨r1,r2,r3,r4,r5⟩:=hr;show cM n lt _ (if r.2.2 > 0 then _ else _);rw[ar (by omega),r1]
    exact P6 O h (by omega) (by omega) r5
theorem zS {p:Array Nat} (O:ji n lt) (h:Pm n p) {k:Nat} (hk:k < n) (a:jr lt p k):∀ (f l r:Nat),r - l<=f->l<=r->r<=k->(∀i,i < l->lt (p.getD i 0) (p.getD k 0)=true)->(∀i,r<=i->i < k->lt (p.getD k 0) (p.getD i 0)=true) ->
  cM n lt (fun m=>m<=k/\(∀i,i < m->lt (p.getD i 0) (p.getD k 0)=true) /\ ∀i,m<=i->i < k->lt (p.getD k 0) (p.getD i 0)=true) (kas_place p k f l r)
 |0,l,r,hf,hl,hr,lo,hi=>by
  obtain rfl:l=r:=by omega
  exact⟨hr,lo,hi⟩
 |f+1,l,r,hf,hl,hr,lo,hi=>by
  show cM n lt _ (if l ≥ r then _ else _);split
  ·obtain rfl:l=r:=by omega
   exact⟨hr,lo,hi⟩
  ·refine⟨h.lt (by omega) _,h.lt (by omega) _,h.ne (by omega) (by omega) (by omega),?_⟩
   cases c:lt (p.getD k 0) (p.getD ((l+r) / 2) 0) with
   |true =>
    refine zS O h hk a f l ((l+r) / 2) (by omega) (by omega) (by omega) lo fun i t9 ZH=>?_
    by_cases e:i=(l+r) / 2
    ·rw[e];exact c
    ·exact O.tr _ _ _ (h.lt (by omega) _) (h.lt (by omega) _) (h.lt (by omega) _) c (a _ i (by omega) ZH)
   |false =>
    have c2:=Bg O h (i:=k) (j:=(l+r) / 2) hk (by omega) (by omega) c
    refine zS O h hk a f ((l+r) / 2+1) r (by omega) (by omega) hr (fun i t9=>?_) hi
    by_cases e:i=(l+r) / 2
    ·rw[e];exact c2
    ·exact O.tr _ _ _ (h.lt (by omega) _) (h.lt (by omega) _) (h.lt (by omega) _) (a i _ (by omega) (by omega)) c2
theorem HK (O:ji n lt):∀ (f:Nat) (p:Array Nat) (k:Nat),k+f=n->Pm n p->jr lt p k->cM n lt (fun r=>Pm n r/\jr lt r n) (kas_bin f p k)
 |0,p,k,e,h,a=>by
  obtain rfl:k=n:=by omega
  exact⟨h,a⟩
 |f+1,p,k,e,h,a=>(zS O h (by omega) a k 0 k (by omega) (bw _) (aO _) (fun i hi=>absurd hi (Ox _)) (fun i h1 h2=>absurd h2 (by omega))).bind fun l hl=>by
  obtain⟨l1,l2,l3⟩:=hl;refine HK O f _ _ (by omega) (h.ZD _ _) fun i j gM hj=>?_
  have hsz:=h.size;rw[HI (by omega) l1 i,HI (by omega) l1 j]
  by_cases i1:i=l
  ·rw[aB i1,ar (by omega),aB (by omega)]
   exact l3 _ (by omega) (by omega)
  ·rw[ar i1]
   by_cases i2:l < i/\i<=k
   ·rw[aB i2,ar (by omega),aB (by omega)]
    exact a _ _ (by omega) (by omega)
   ·rw[ar i2]
    by_cases j1:j=l
    ·rw[aB j1];exact l2 i (by omega)
    ·rw[ar j1]
     by_cases j2:l < j/\j<=k
     ·rw[aB j2]
      exact a _ _ (by omega) (by omega)
     ·rw[ar j2]
      exact a _ _ gM (by omega)
theorem QD (O:ji n lt) (hn:2<=n):cM n lt (fun r=>Pm n r/\jr lt r n) (kas_sort n):=
 (P7 O hn (Fw _)).bind fun r hr=>by
  obtain⟨r1,r2,r3,r4⟩:=hr;show cM n lt _ (if r.1 < n then _ else _);split
  ·refine HK O _ _ _ (by omega) r1 ?_
   rw[show max r.1 1=r.1 by omega];exact r2
  ·obtain e:r.1=n:=by omega
   rw[e]at r2;exact⟨r1,r2⟩
end
end L2
namespace L2
open PySem PySem.W PySem.Calls PyProof.Rows HS
def gb:List Str->List Str->Bool
 |a::as,b::bs=>if a=b then gb as bs else jW a b
 |_,_=>false
theorem IS:∀ {a b c:List Str},a.length=b.length->b.length=c.length->gb a b=true->gb b c=true->gb a c=true
 |[],_,_,h1,_,h,_=>by unfold gb at h;cases h
 |a::as,[],_,h1,_,_,_=>by simp at h1
 |a::as,b::bs,[],_,h2,_,_=>by simp at h2
 |a::as,b::bs,c::cs,h1,h2,h3,h4=>by
  unfold gb at h3 h4 ⊢
  by_cases e1:a=b
  ·rw[aB e1]at h3
   subst e1
   by_cases e2:a=c
   ·rw[aB e2]at h4 ⊢;exact IS (by simpa using h1) (by simpa using h2) h3 h4
   ·rw[ar e2]at h4 ⊢;exact h4
  ·rw[ar e1]at h3
   by_cases e2:b=c
   ·subst e2
    rw[ar e1];exact h3
   ·rw[ar e2]at h4
    have t:=Ux h3 h4
    by_cases e3:a=c
    ·subst e3;rw[HJ]at t;cases t
    ·rw[ar e3];exact t
theorem Iv:∀ {a b:List Str},a.length=b.length->a≠b->gb a b=false->gb b a=true
 |[],[],_,h,_=>absurd rfl h
 |[],b::bs,h,_,_=>by simp at h
 |a::as,[],h,_,_=>by simp at h
 |a::as,b::bs,h1,h2,h3=>by
  unfold gb at h3 ⊢
  by_cases e:a=b
  ·subst e
   rw[aB rfl]at h3 ⊢;exact Iv (by simpa using h1) (fun z=>h2 (by rw[z])) h3
  ·rw[ar e]at h3;rw[ar (aV e)]
   exact SK e h3
theorem SM (a b:Str):gb [a] [b]=jW a b:=by
 unfold gb
 by_cases e:a=b
 ·rw[aB e,e,HJ];rfl
 ·rw[ar e]
theorem QE {a b:Str}{t u:Tok}{c:Bool}{Q:Bool->Shared->Prop} (h:Q (jW a b) s):wpAny (model P w) A (oneLt' c (.str a t) (.str b u)) Q E s:=by
 cases c with
 |true=>exact oneLt_str h
 |false =>
  rw[oneLt'_eq];simp only[Od,oX];exact af (PyProof.Rows.lt_str (j7 h))
theorem Hi {b fin:Bool}{Q:Bool->Shared->Prop}:∀ {as bs:List Str}{us vs:List Value}{ru rv:List Value} (i:Nat),StrsAre us as->StrsAre vs bs->as.length=bs.length->as≠bs->Q (gb as bs) s->KatLex P w A b fin Q ((us++ru).zip (vs++rv)) i s
 |[],[],_,_,_,_,_,_,_,_,h,_=>absurd rfl h
 |[],_::_,_,_,_,_,_,_,_,h,_,_=>by simp at h
 |_::_,[],_,_,_,_,_,_,_,h,_,_=>by simp at h
 |a::as,b'::bs,_,_,ru,rv,i,.cons _ t h1,.cons _ u h2,hl,bC,q=>by
  unfold gb at q;refine kat_cons (NX ?_)
  by_cases e:a=b'
  ·rw[gj e]
   rw[aB e]at q;exact kat_yes (Hi (i+1) h1 h2 (by simpa using hl) (fun z=>bC (by rw[e,z])) q)
  ·rw[iO e]
   rw[ar e]at q;exact kat_no (QE q)
def jF (H:Hp) (m:Nat) (vs:List V) (kvs:List (List Str×List V)):Prop:=Paired (fun y p=>∃a,y=V.ref a/\H a=some (.tup (p.1.map V.str++p.2))/\p.1.length=m) vs kvs
theorem Gf {H:Hp}:∀ {ks:List Str}{rest:List V}{its:List Value},Vals (ks.map V.str++rest) its -> ∃us ru,its=us++ru/\StrsAre us ks
 |[],rest,its,h=>⟨[],its,rfl,.nil⟩
 |k::ks,rest,its,h=>by
  cases h with
  |cons r t =>
   obtain⟨tk,rfl⟩:=r;obtain⟨us,ru,e,st⟩:=Gf (H:=H) t;exact⟨.str k tk::us,ru,by rw[e];rfl,.cons k tk st⟩
theorem Hj {σ:List (Option V)}{Q:VK}
  (col:∀ (A:Around) (E:Value->Shared->Prop) (Q':List Value->Shared->Prop),(X.A.handled=none->A.handled=none)->(∀ (its:List Value) (s1:Shared) (H:Hp) (ys:List V) (kvs:List (List Str×List V)) (mm:Nat),Inv X pins σ H s1->Vals ys its->jF H mm ys kvs->1<=mm->(kvs.map (·.1)).Nodup->ys.length<=63 ->
   (∀D cP cU,H D=none->cP.Perm ys->jF H mm cP cU->cU.Perm kvs->(cU.map (·.1)).Pairwise (fun a b=>gb a b=true)->Q (.ref D) (upd H D (.lst cP)))->Q' its s1)->wpAny (model X.prog X.w) A (collect (.ref p)) Q' E s) :
  wpAny (model X.prog X.w) X.A (call (.builtin "sorted") [.ref p]) (EP X pins σ Q) X.xe s:=by
 refine Calls.call_function_entry kind_sorted plain_sorted entry_sorted (args_sorted1 _) ?_;unfold Builtin.«sorted»;refine af (m:=checkCount "sorted" 1 1 _) (ax (af (col _ _ _ (fun h=>by simpa using h) fun its s H ys kvs mm I rv pr Dr nd yo q=>?_)))
 have hz:ys.length<=sizeLine:=by rw[aT];omega
 have mx:ys.length=kvs.length:=eu pr;have qy:=rv.length;have at_:∀ (i:Nat),i < its.length -> ∃ (ks:List Str) (a:Addr) (tu ru:List Value),(kvs.map (·.1))[i]? = some ks/\its[i]? = some (.ref a)/\a≠X.env.locals/\IsTup s.heap a (tu++ru).toArray/\StrsAre tu ks/\ks.length=mm:=by
  intro i hi;have Ds:i < ys.length:=by omega
  obtain⟨p',iY,a,ey,ha,Du⟩:=pK pr (show ys[i]? = some ys[i] from bK Ds);obtain⟨u,hu,ru⟩:=rv.get (show ys[i]? = some (V.ref a) by rw[bK Ds,ey])
  cases ru
  obtain⟨i2,r2,t2,_⟩:=I.tuple (aG.of ha);obtain⟨tu,ru,e,st⟩:=Gf (H:=H) r2;rw[e]at t2;exact⟨p'.1,a,tu,ru,by rw[gS,iY];rfl,hu,(fun z=>by rw[z,I.free]at ha;cases ha),t2,st,Du⟩
 obtain⟨m,hm,_⟩:=id I.loc
 let lt:Nat->Nat->Bool:=fun i j=>gb ((kvs.map (·.1)).getD i []) ((kvs.map (·.1)).getD j [])
 have kl:(kvs.map (·.1)).length=its.length:=by rw[aJ];omega
 have qf:∀i,i < its.length->((kvs.map (·.1)).getD i []).length=mm:=fun i hi=>by
  obtain⟨ks,_,_,_,h1,_,_,_,_,h2⟩:=at_ i hi;rw[iy,h1];exact h2
 have yp:∀i j,i < its.length->j < its.length->i≠j->(kvs.map (·.1)).getD i []≠(kvs.map (·.1)).getD j []:=fun i j hi hj gM e=>gM ((List.getElem?_inj (by omega) nd).mp (by
  rw[iy,iy,bK (by omega),bK (by omega)]at e
  rw[bK (by omega),bK (by omega)]
  exact d7 some e))
 have O:ji its.length lt:=⟨fun i j k hi hj hk h1 h2=>IS ((qf i hi).trans (qf j hj).symm) ((qf j hj).trans (qf k hk).symm) h1 h2,fun i j hi hj gM f=>Iv ((qf i hi).trans (qf j hj).symm) (yp i j hi hj gM) f⟩;have fin:∀ (h':Heap) (D:Addr) (c:Nat) (pa:Array Nat),(∀b o,b≠X.env.locals->s.heap.get? b=some o->h'.get? b=some o)->h'.Ns X.env.locals m->(∀b o,s.heap.get? b=some o->b≠D)->Pm its.length pa->(pa.toList.Pairwise fun i j=>lt i j=true) ->
   h'.get? D=some (listOf (pa.toList.map fun i=>its.getD i Value.none).toArray c) -> ∃v H',Inv X pins σ H' { s with heap:=h' }/\RelV v (.ref D)/\Q v H':=by
  intro h' D c pa k jV hD hp yq new;have LD:∀i∈pa.toList,i < its.length:=fun i hi=>mS.mp (hp.mem_iff.mp hi);have py:(pa.toList.map fun i=>ys.getD i V.aH).Perm ys:=IQ V.aH (by rw[qy];exact hp)
  have Dv:Pm kvs.length pa:=by rw[<-mx,qy];exact hp
  have pk:(pa.toList.map fun i=>kvs.getD i (([],[]):List Str×List V)).Perm kvs:=IQ _ Dv;have pp:jF H mm (pa.toList.map fun i=>ys.getD i V.aH) (pa.toList.map fun i=>kvs.getD i ([],[])):=Ge fun i hi=>QA pr V.aH ([],[]) i (by have:=LD i hi;omega)
  have ek:(pa.toList.map fun i=>kvs.getD i ([],[])).map (·.1)=pa.toList.map fun i=>(kvs.map (·.1)).getD i []:=by
   rw[dY];refine rq fun i hi=>?_;have:i < kvs.length:=by have:=LD i hi;omega
   show(kvs.getD i ([],[])).1=_;rw[iy,iy,gS,bK this];rfl
  have rel:Vals (pa.toList.map fun i=>ys.getD i V.aH) (pa.toList.map fun i=>its.getD i Value.none):=Hf (fun i=>by
   by_cases hi:i < ys.length
   ·obtain⟨u,hu,ru⟩:=rv.get (show ys[i]? = some ys[i] from bK hi)
    rw[iy,iy,hu,bK hi];exact ru
   ·rw[iy,iy,Fx (by omega),Fx (by omega)];trivial) pa.toList
  obtain⟨hn,I'⟩:=Inv.sorted (t':=s.toks) I hm jV k hD new rel (by rw[py.length_eq];exact hz)
  refine⟨.ref D,_,I',rfl,q D _ _ hn py pp pk ?_⟩;rw[ek,rA];exact yq
 refine af (Ou ?_ (by rw[aT];omega))
 have mj:(s.heap.push (seqObj "list" its.toArray 0)).get? s.heap.objs.size=some (seqObj "list" its.toArray 0):=cK _ rfl;have hD:∀b o,s.heap.get? b=some o->b≠s.heap.objs.size:=fun b o e=>bX (bq e);refine af (gw (rh slot_list_sort ⟨_,mj,rfl⟩ entry_list_sort ?_ (args_list_sort _)));have keep:∀b o,s.heap.get? b=some o->(s.heap.push (seqObj "list" its.toArray 0)).get? b=some o:=fun b o e=>bj _ e
 by_cases h2:its.length < 2
 ·refine Qz mj h2 fun c g kg new=>⟨_,rfl,ax ⟨_,rfl,?_⟩⟩
  refine fin g _ c (List.range its.length).toArray (fun b o _ e=>kg b o (hD b o e) (keep b o e)) (hm.at' fun o e=>kg _ o (hD _ o e) (keep _ o e)) hD (Fw _) ?_ ?_
  ·show(List.range its.length).Pairwise _
   have:its.length=0\/its.length=1:=by omega
   rcases this with z|z <;> rw[z]
   ·exact List.Pairwise.nil
   ·exact List.pairwise_singleton _ _
  ·have:(List.range its.length).map (fun i=>its.getD i Value.none)=its:=by
    apply List.ext_getElem
    ·simp
    ·intro i h1 h2;simp[List.getD,h2]
   show g.get? s.heap.objs.size=some (listOf ((List.range its.length).map fun i=>its.getD i Value.none).toArray c);rw[this];exact new
 ·have h2:2<=its.length:=by omega
  obtain⟨g0,ZI,yr⟩:∃g0:Heap,g0.objs.size=0 /\ ∀b,g0.get? b=none:=⟨{ s.heap with objs:= #[] },rfl,fun b=>zp (bw _)⟩;have F:Fr g0 X.env.locals s.heap m:=⟨hm,fun b o e=>(by rw[yr]at e;cases e),by rw[ZI];exact bw _⟩
  have N:=Q4 (g:=g0) (L:=X.env.locals) (h:=s.heap);have ZJ:∃o,s.heap.get? X.env.locals=some o:=let ⟨o,_,_,e,_⟩:=hm;⟨o,e⟩;obtain⟨oL,eL⟩:=ZJ;refine kat_list_sort (s:={ s with heap:=s.heap.push (seqObj "list" its.toArray 0) }) (F.kept keep) (N.grown keep) mj (aV (hD _ _ eL)) (yr _) (fun p hp=>hD p.1 p.2 (zF hp).2.2) h2 (by omega) fun e1 h' F' N'=>?_
  have kp:∀b o,b≠X.env.locals->s.heap.get? b=some o->h'.get? b=some o:=fun b o n e=>(N' (b,o) (bU _ (FV n (yr b) e))).1;have tk:∀ {a:Addr}{zs:Array Value},a≠X.env.locals->IsTup s.heap a zs->IsTup h' a zs:=fun n ⟨o,ho,r⟩=>⟨o,kp _ o n ho,r⟩;have ft:∀ (vs:List Value),(∀v∈vs,∃a tu ru ks,v=Value.ref a/\IsTup h' a (tu++ru).toArray/\StrsAre tu ks/\ks.length=mm) -> ∃fs,fs.length=vs.length/\KatTups h' vs fs /\ ∀f∈fs,∃k t,f=Value.str k t:=by
   intro vs
   induction vs with
   |nil=>intro _;exact⟨[],rfl,KatTups.nil,fun f hf=>(by cases hf)⟩
   |cons v vs ih =>
    intro hv;obtain⟨fs,f1,f2,f3⟩:=ih fun v' h'=>hv v' (bU _ h');obtain⟨a,tu,ru,ks,rfl,⟨o,ho,hc,n,hd⟩,st,ZK⟩:=hv v br;cases st with
    |nil=>simp at ZK;omega
    |cons k t r =>
     refine⟨.str k t::fs,by rw[gi,gi,f1],KatTups.cons ho hc hd (by simp) f2,fun f hf=>?_⟩
     rcases b9.mp hf with z|z
     ·exact⟨k,t,z⟩
     ·exact f3 f z
  obtain⟨fs,hf1,Dq,gq⟩:=ft its fun v hv=>by
   obtain⟨i,hi,rfl⟩:=Fs hv;obtain⟨ks,a,tu,ru,_,g2,g3,g4,g5,g6⟩:=at_ i hi;rw[bK hi]at g2;exact⟨a,tu,ru,ks,eF g2,tk g3 g4,g5,g6⟩
  refine kat_kind (T:= .type "str") Dq (by omega) (fun f hf=>?_) (by decide) ?_
  ·obtain⟨k,t,rfl⟩:=gq f hf
   exact Looks.of_pure rfl
  ·refine(QD O h2).wp (fun i j C hi hj gM hC=>?_) fun pa hp=>?_
   ·obtain⟨k,a,tu,ru,g1,g2,g3,g4,g5,g6⟩:=at_ i hi
    obtain⟨k',a',tu',ru',ZL,ZM,ZN,ZO,ZP,ZQ⟩:=at_ j hj;unfold kas_ask;rw[iy,iy,g2,ZM];have ei:(kvs.map (·.1)).getD i []=k:=by rw[iy,g1];rfl
    have ej:(kvs.map (·.1)).getD j []=k':=by rw[iy,ZL];rfl
    have el:lt i j=gb k k':=by show gb ((kvs.map (·.1)).getD i []) ((kvs.map (·.1)).getD j [])=_;rw[ei,ej]
    have ne:=yp i j hi hj gM;rw[ei,ej]at ne;rw[el]at hC;obtain⟨ox,hx,_,nx,dx⟩:=tk g3 g4;obtain⟨oy,hy,_,ny,dy⟩:=tk ZN ZO;exact kat_lt hx dx hy dy (Hi 0 g5 ZP (g6.trans ZQ.symm) ne hC)
   ·refine KasFin.intro F' N' (UpdF.head fun p hp=>?_) fun gL c ZR LF=>?_
    ·exact hD p.1 p.2 (zF hp).2.2
    ·refine⟨_,rfl,ax ⟨_,rfl,?_⟩⟩
     exact fin gL _ c pa (fun b o n e=>(LF (b,o) (bU _ (FV n (yr b) e))).1) ZR.ns hD hp.1 (Uy hp.1.size hp.2) (LF _ br).1
theorem zJ:dZ X (.builtin "sorted") (fun xs H Q=>∃ (p:Addr) (ys:List V) (kvs:List (List Str×List V)) (m:Nat),xs = [.ref p]/\(ai X.K H p ys\/aG X.K H p ys)/\jF H m ys kvs/\1<=m/\(kvs.map (·.1)).Nodup/\ys.length<=63 /\
  ∀D cP cU,H D=none->cP.Perm ys->jF H m cP cU->cU.Perm kvs->(cU.map (·.1)).Pairwise (fun a b=>gb a b=true)->Q (.ref D) (upd H D (.lst cP))):=by
 intro pins s σ H xs us Q I r ⟨p,ys,kvs,mm,ex,hq,pr,Dr,nd,yo,q⟩;subst ex;obtain⟨u,rfl,rx⟩:=vals1 r;cases rx
 refine Hj fun A E Q' _ q'=>?_;rcases hq with hq|hq
 ·obtain⟨its,rv,pl,hz⟩:=I.list hq
  have:=rv.length;exact collect_list pl.isList (q' its _ H ys kvs mm (I.kept (t':=s.toks) fun b o e=>(rj _ _ (oU (bq e))).trans (bj _ e)) rv pr Dr nd yo q) (by rw[aT];omega)
 ·obtain⟨its,rv,pl,hz⟩:=I.tuple hq
  have:=rv.length;exact Pf pl (by rw[aT];omega) fun h' k=>q' its _ H ys kvs mm (I.kept (t':=s.toks) k) rv pr Dr nd yo q
end L2
namespace L2
open PySem PySem.Spec PyProof.Rows PySem.W
mutual
inductive Dt (p:Addr) (H:Hp):V->PyData->Prop where
 |aH:Dt p H .aH .none
 |bl (b:Bool):Dt p H (.bl b) (.bool b)
 |int (i:Int):Dt p H (.int i) (.int i)
 |str (x:Str):Dt p H (.str x) (.str x)
 |lst {a:Addr}{xs:List V}{ds:List PyData}:a≠p->H a=some (.lst xs)->cG p H xs ds->Dt p H (.ref a) (.list ds)
 |tup {a:Addr}{xs:List V}{ds:List PyData}:a≠p->H a=some (.tup xs)->cG p H xs ds->Dt p H (.ref a) (.tuple ds)
 |my {a:Addr}:a≠p->H a=some (.dK [])->Dt p H (.ref a) (.dict [])
inductive cG (p:Addr) (H:Hp):List V->List PyData->Prop where
 |nil:cG p H [] []
 |cons {x:V}{d:PyData}{xs:List V}{ds:List PyData}:Dt p H x d->cG p H xs ds->cG p H (x::xs) (d::ds)
end
section
mutual
theorem Dt.keep (k:∀b o,H b=some o->b≠p->H' b=some o):∀ {v:V}{d:PyData},Dt p H v d->Dt p H' v d
 |_,_,.aH=>.aH
 |_,_,.bl b=>.bl b
 |_,_,.int i=>.int i
 |_,_,.str x=>.str x
 |_,_,.lst n e rs=>.lst n (k _ _ e n) (cG.keep k rs)
 |_,_,.tup n e rs=>.tup n (k _ _ e n) (cG.keep k rs)
 |_,_,.my n e=>.my n (k _ _ e n)
theorem cG.keep (k:∀b o,H b=some o->b≠p->H' b=some o):∀ {vs:List V}{ds:List PyData},cG p H vs ds->cG p H' vs ds
 |_,_,.nil=>.nil
 |_,_,.cons r rs=>.cons (Dt.keep k r) (cG.keep k rs)
end
end
end L2
namespace HT
open PySem PyProof.Rows
section
open PySem.SeqAt
open PySem.AutoSeq1 (wpAny_loadPart')
open PySem.MeetsSeq PySem.MeetsSeq2 PySem.MeetsSeq3
end
end HT
namespace L2
open PySem PySem.Spec PyProof.Rows PySem.W HT
section
mutual
theorem Dt.reads (I:Inv X pins σ H s):∀ {v:V}{d:PyData}{u:Value},Dt p H v d->RelV v u -> ∃as,Reads s.heap u d as
 |_,_,_,.aH,r=>by cases r;exact⟨_,.none⟩
 |_,_,_,.bl b,r=>by cases r;exact⟨_,.bool b⟩
 |_,_,_,.int i,r=>by obtain⟨t,rfl⟩:=r;exact⟨_,.int i t⟩
 |_,_,_,.str x,r=>by obtain⟨t,rfl⟩:=r;exact⟨_,.str x t⟩
 |_,_,_,.lst (a:=a) (xs:=xs) _ e rs,r=>by
  cases r
  obtain⟨_,its,n,rv,at_⟩:=(show a9 X.prog X.w H s.heap a (.lst xs) from I.aj a _ e);obtain⟨as,ra⟩:=cG.reads I rs rv;exact⟨_,.list at_ rfl rfl ra⟩
 |_,_,_,.tup (a:=a) (xs:=xs) _ e rs,r=>by
  cases r
  obtain⟨_,its,rv,ob,at_,hc,n,hd,_⟩:=(show a9 X.prog X.w H s.heap a (.tup xs) from I.aj a _ e);obtain⟨as,ra⟩:=cG.reads I rs rv;exact⟨_,.tuple at_ hc hd ra⟩
 |_,_,_,.my (a:=a) _ e,r=>by
  cases r
  obtain⟨_,_,vs,kv,o,es,ep,g1,g2,g3,_,g4,_⟩:=(show a9 X.prog X.w H s.heap a (.dK []) from I.aj a _ e);cases kv
  have e0:es.toList = []:=by cases h:es.toList with
   |nil=>rfl
   |cons a b=>rw[h]at g4;cases g4
  exact⟨_,.dict (kvs:= []) g1 g2.1 g3 (by rw[e0];exact .nil) (by rw[e0];exact .nil)⟩
theorem cG.reads (I:Inv X pins σ H s):∀ {vs:List V}{ds:List PyData}{us:List Value},cG p H vs ds->Vals vs us -> ∃as,ReadsAll s.heap us ds as
 |_,_,_,.nil,r=>by cases r;exact⟨_,.nil⟩
 |_,_,_,.cons r rs,rv=>by
  cases rv with
  |cons q qs =>
   obtain⟨as,h1⟩:=Dt.reads I r q;obtain⟨bs,h2⟩:=cG.reads I rs qs;exact⟨_,.cons h1 h2⟩
end
mutual
theorem Dt.sD (I:Inv X pins σ H s):∀ {v:V}{d:PyData}{u:Value},Dt p H v d->RelV v u->d.showable=true->d.shown.length<=sizeLine -> ∃bs,ReadAtMost s.heap d.depth bs/\ReprK X.prog X.w bs s.heap d.depth u d.shown
 |_,_,_,.aH,r,_,_=>by cases r;exact⟨[],(fun _ h=>nomatch h),by simp only[PyData.shown];exact .of_is ReprIs.none _ _ _⟩
 |_,_,_,.bl b,r,_,_=>by cases r;exact⟨[],(fun _ h=>nomatch h),by simp only[PyData.shown];exact .of_is (ReprIs.bool b) _ _ _⟩
 |_,_,_,.int i,r,hs,_=>by obtain⟨t,rfl⟩:=r;exact⟨[],(fun _ h=>nomatch h),by simp only[PyData.shown];exact .of_is (ReprIs.int t (by simpa [PyData.showable] using hs)) _ _ _⟩
 |_,_,_,.str x,r,_,hz=>by obtain⟨t,rfl⟩:=r;exact⟨[],(fun _ h=>nomatch h),by simp only[PyData.shown];exact .of_is (ReprIs.str x t (by simpa only [PyData.shown] using hz)) _ _ _⟩
 |_,_,_,.lst (a:=a) (xs:=xs) (ds:=ds) n e rs,r,hs,hz=>by
  cases r
  obtain⟨_,its,n',rv,h1⟩:=(show a9 X.prog X.w H s.heap a (.lst xs) from I.aj a _ e);have yt:(listText (PyData.shownAll ds)).length<=sizeLine:=by simpa only [PyData.shown] using hz
  obtain⟨bs,hb,hk⟩:=cG.sD I rs rv (by simpa [PyData.showable] using hs) (fun t ht=>gQ (listText_mem_le ht) yt)
  obtain⟨as,ra⟩:=cG.reads I rs rv;have r:Reads s.heap (.ref a) (.list ds) _:= .list h1 rfl rfl ra;have Dw:a ∉ bs:=not_mem_of_deeper r (by simp only[PyData.depth];omega) hb
  refine⟨a::bs,Oy r (by simp only[PyData.depth];omega) hb,?_⟩
  simp only[PyData.depth,PyData.shown];cases its with
  |nil =>
   cases ra
   simp only[PyData.shownAll,listText_nil];exact ReprK.listEmpty h1 rfl rfl
  |cons x l=>exact ReprK.list h1 rfl rfl Dw (by simpa using hk.length_eq) (fun i y e=>hk.item i y (by simpa using e))
 |_,_,_,.tup (a:=a) (xs:=xs) (ds:=ds) n e rs,r,hs,hz=>by
  cases r
  obtain⟨_,its,rv,ob,h1,h2,n',h3,_⟩:=(show a9 X.prog X.w H s.heap a (.tup xs) from I.aj a _ e);have yt:(tupleText (PyData.shownAll ds)).length<=sizeLine:=by simpa only [PyData.shown] using hz
  obtain⟨bs,hb,hk⟩:=cG.sD I rs rv (by simpa [PyData.showable] using hs) (fun t ht=>gQ (tupleText_mem_le ht) yt)
  obtain⟨as,ra⟩:=cG.reads I rs rv;have r:Reads s.heap (.ref a) (.tuple ds) _:= .tuple h1 h2 h3 ra;have Dw:a ∉ bs:=not_mem_of_deeper r (by simp only[PyData.depth];omega) hb
  refine⟨a::bs,Oy r (by simp only[PyData.depth];omega) hb,?_⟩
  simp only[PyData.depth,PyData.shown];exact ReprK.tuple h1 h2 h3 Dw hk
 |_,_,_,.my (a:=a) n e,r,hs,hz=>by
  cases r
  obtain⟨as,rd⟩:=Dt.reads I (.my n e) (rfl:RelV (.ref a) (.ref a));obtain⟨_,ns,vs,kv,o,es,ep,g1,g2,g3,_,g4,_⟩:=(show a9 X.prog X.w H s.heap a (.dK []) from I.aj a _ e);cases kv
  have e0:es.toList = []:=by cases h:es.toList with
   |nil=>rfl
   |cons a b=>rw[h]at g4;cases g4
  refine⟨a :: [],Oy rd (bw _) (fun _ h=>nomatch h),?_⟩;exact ReprK.dict (as:= []) (d:=0) (ps:= []) g1 g2.1 g3 ns (by simp) (by rw[e0];exact .nil)
theorem cG.sD (I:Inv X pins σ H s):∀ {vs:List V}{ds:List PyData}{us:List Value},cG p H vs ds->Vals vs us->PyData.showableAll ds=true->(∀t∈PyData.shownAll ds,t.length<=sizeLine) ->
  ∃bs,ReadAtMost s.heap (PyData.depthAll ds) bs/\ReprAllK X.prog X.w bs s.heap (PyData.depthAll ds) us (PyData.shownAll ds)
 |_,_,_,.nil,r,_,_=>by cases r;exact⟨[],(fun _ h=>nomatch h),by simp only[PyData.shownAll];exact .nil⟩
 |_,_,_,.cons (d:=d) (ds:=ds) r rs,rv,hs,hz=>by
  cases rv with
  |cons q qs =>
   have mi:d.showable=true/\PyData.showableAll ds=true:=by simpa [PyData.showableAll] using hs
   obtain⟨b1,ir,k1⟩:=Dt.sD I r q mi.1 (hz _ (by simp only[PyData.shownAll];exact br ..))
   obtain⟨b2,Dd,k2⟩:=cG.sD I rs qs mi.2 (fun t ht=>hz t (by simp only[PyData.shownAll];exact bU _ ht))
   refine⟨b1++b2,?_,?_⟩
   ·simp only[PyData.depthAll]
    exact(ir.mono (Nat.le_max_left _ _)).append (Dd.mono (Nat.le_max_right _ _))
   ·simp only[PyData.depthAll,PyData.shownAll]
    exact .cons ((k1.more fun b hb=>j5 _ hb).level_le (Nat.le_max_left _ _)) (k2.more_le (fun b hb=>eZ _ hb) (Nat.le_max_right _ _))
end
end
end L2
namespace HS
open PySem PySem.Spec PyProof.Rows PySem.W
theorem HL {vs:List Value}{ys:List Str}{y:Str}{t:Tok}{j:Nat}{Q:Option PySem.Fin×Unit->Shared->Prop} (st:StrsAre vs ys) (hj:ys[j]? = some y) (eR:∀m,m < j->ys[m]? ≠ some y) (q:∀tk,Q (some (.done (.ret (.int j tk))),()) { s with toks:=s.toks+1 }) :
  ∀ (k i:Nat),i<=j->j < i+k->wpAny (model P w) A (forIn (m:=Sem) (List.range' i k) ((none,()):Option PySem.Fin×Unit) fun(i:Nat) __s=>match vs.toArray[i]? with
      |some y'=>do
       let b <- eqBool y' (.str y t)
       if b=true then do
         let r <- retInt (i:Int)
         pure (ForInStep.done (some r,()))
        else pure (ForInStep.yield (none,()))
      |_=>pure (ForInStep.yield (none,()))) Q E s
 |0,i,h1,h2=>absurd h2 (by omega)
 |k+1,i,h1,h2=>by
  rw[List.range'_succ,List.forIn_cons];have hlen:=HG st;have b7:j < ys.length:=(b4.mp hj).1;have hi:i < vs.length:=by omega
  obtain⟨tk,ev⟩:=L2.Iu st i vs[i] (bK hi);have Dx:i < ys.length:=by omega
  have e1:vs.toArray[i]? = some (.str ys[i] tk):=by
   rw[List.getElem?_toArray,bK hi,ev];simp[Dx]
  rw[e1]
  dsimp only
  refine af (af (NX ?_))
  by_cases e:ys[i]=y
  ·rw[gj e,aB rfl]
   have:i=j:=by
    by_cases z:i < j
    ·exact absurd (by rw[bK Dx,e]) (eR i z)
    ·omega
   subst this;refine af ?_;unfold retInt;exact af (wpAny_mkInt (ax (ax (ax (q _)))))
  ·rw[iO e,ar cz]
   refine ax ?_;refine HL st hj eR q k (i+1) ?_ (by omega)
   by_cases z:i=j
   ·subst z
    rw[bK Dx]at hj;exact absurd (eF hj) e
   ·omega
theorem QF {vs:List Value}{ys:List Str}{y:Str}{t:Tok} (ht:IsTup s.heap l vs.toArray) (st:StrsAre vs ys) (hj:ys[j]? = some y) (eR:∀m,m < j->ys[m]? ≠ some y) (q:∀tk,Q (.int j tk) { s with toks:=s.toks+1 }) :
  wpAny (model P w) A (call (.builtin "tuple.index") [.ref l,.str y t]) Q E s:=by
 obtain⟨o,ho,hc,n,hd⟩:=ht;have b7:j < ys.length:=(b4.mp hj).1;have hlen:=HG st;refine rh afF ⟨o,ho,hc⟩ PySem.F.entry_tuple_index ?_ (PySem.F.args_tuple_index_2 _ _);unfold Builtin.«tuple.index»;refine af (ax ?_)
 dsimp only
 refine af ?_;unfold Builtin.Tuple.tupleItemsOf seqItems?;refine af (af (wpAny_load ho ?_));rw[hd];refine ax (ax ?_);refine af (ax (af (ax ?_)));rw[Std.Legacy.Range.forIn_eq_forIn_range'];refine af ?_;have e2:([0:min vs.toArray.size vs.toArray.size]:Std.Legacy.Range).size=vs.length:=by simp[Std.Legacy.Range.size]
 rw[e2];refine HL st hj eR (fun tk=>?_) vs.length 0 (bw _) (by omega)
 exact ax ⟨_,rfl,q tk⟩
end HS
namespace L2
open PySem PySem.Spec PyProof.Rows PySem.W HS
def SN (K:Frag):V->List V->Hp->VK->Prop:=fun x vs H Q=>∃ (l:Addr) (ys:List Str) (y:Str) (j:Nat),x = .ref l/\vs = [.str y]/\aG K H l (ys.map V.str)/\ys[j]? = some y/\(∀m,m < j->ys[m]? ≠ some y)/\Q (.int j) H
theorem QG:yc X "tuple.index" (SN X.K):=by
 intro pins s σ H x vs v us Q I rx rv h;obtain⟨l,ys,y,j,rfl,rfl,hH,hj,eR,q⟩:=h;cases rx
 obtain⟨u,rfl,t,rfl⟩:=rv.one;obtain⟨its,r,pl,hz⟩:=I.tuple hH;exact QF pl (zQ r) hj eR fun tk=>⟨.int j,H,I.tok _,⟨tk,rfl⟩,q⟩
end L2
namespace L2
open PySem PySem.W PySem.Spec PyProof.Rows
end L2
namespace L2
open PySem PySem.W
end L2
namespace L2
open PySem PySem.W PySem.Spec PyProof.Rows
def nN (h:Heap) (d:Addr) (es:Array DictEntry) (ep:Nat):Prop:= ∃o,h.get? d=some o/\o.ExactDict/\o.data = .dict es ep
theorem nN.ty {es:Array DictEntry} (x:nN s.heap d es ep):s.TypeIs (.ref d) "dict" :=let ⟨o,e,c,_⟩:=x;⟨o,e,c.1⟩
theorem Paired.get {α β:Type}{F:α->β->Prop}{l:List α}{m:List β} (h:Paired F l m):∀ {i:Nat}{a:α},l[i]? = some a -> ∃b,m[i]? = some b/\F a b:=by
 induction h with
 |nil=>intro i a e;cases e
 |cons r _ ih =>
  intro i a e;cases i with
  |zero=>cases e;exact⟨_,rfl,r⟩
  |succ i=>exact ih (by simpa using e)
theorem Inv.SO {σ:List (Option V)}{kvs:List (List Key×V)} (I:Inv X pins σ H s) (hd:H d=some (.dT kvs)) (ho:s.heap.get? d=some o):Inv X pins σ (upd H d (.a6 o (.dT kvs))) s:=by
 have ok:a9 X.prog X.w H s.heap d (.dT kvs):=I.aj d _ hd;have nd:∀ {b:Addr}{u:HO},H b=some u->u ≠ .dT kvs->b≠d:=fun e n z=>by rw[z,hd]at e;exact n (eF e).symm
 refine I.un (h':=s.heap) (t':=s.toks) ⟨fun b ob q _ _ _=>q,fun b ob q _ _ _=>⟨ob.slots,q⟩,fun b ob q n _=>?_,fun b ob q _=>⟨ob,q⟩,fun b xs e=>?_,fun b ob u e=>?_,fun b ps e=>⟨#[],?_⟩⟩ fun b u e=>?_
 ·rw[ae (fun z=>by rw[z,hd]at n;cases n)];exact n
 ·rw[ae (nd e (by intro z;cases z))];exact e
 ·rw[ae (nd e (by intro z;cases z))];exact e
 ·rw[ae (nd e (by intro z;cases z)),e];simp
 ·by_cases hb:b=d
  ·subst hb
   rw[ag]at e;cases e
   exact⟨ho,ok.eK (fun _ _ _ q=>q) (fun c q=>by rw[ae (nd q (by intro z;cases z))];exact q) fun c xs q=>by rw[ae (nd q (by intro z;cases z))];exact q⟩
  ·rw[ae hb]at e
   exact(I.aj b u e).eK (fun _ _ _ q=>q) (fun c q=>by rw[ae (nd q (by intro z;cases z))];exact q) fun c xs q=>by rw[ae (nd q (by intro z;cases z))];exact q
theorem Inv.Vr {σ:List (Option V)}{kvs:List (List Key×V)} (I:Inv X pins σ H s) (hd:H d=some (.a6 o (.dT kvs))) (h0:∀o u,X.iR d≠some (.a6 o u)):Inv X pins σ (upd H d (.dT kvs)) s:=by
 obtain⟨_,ok⟩:=(show a9 X.prog X.w H s.heap d (.a6 o (.dT kvs)) from I.aj d _ hd);have nd:∀ {b:Addr}{u:HO},H b=some u->u ≠ .a6 o (.dT kvs)->b≠d:=fun e n z=>by rw[z,hd]at e;exact n (eF e).symm
 have nn:∀ {b:Addr},H b=none->upd H d (.dT kvs) b=none:=fun {b} e=>by rw[ae (fun z=>by rw[z,hd]at e;cases e)];exact e
 refine⟨I.ok,I.os,I.bare,⟨I.base.keep,I.base.slot,fun b ob e n hx=>nn (I.base.free b ob e n hx),I.base.there,fun b xs e=>?_,fun b ob u e=>?_,fun b ps e=>?_⟩,I.loc,I.cell,nn I.free,fun x c e=>nn (I.fY x c e),fun p hp=>?_,fun b u e=>?_,I.len⟩
 ·rw[ae (nd (I.base.gC b xs e) (by intro z;cases z))];exact I.base.gC b xs e
 ·have hb:b≠d:=fun z=>h0 ob u (z ▸ e)
  rw[ae hb];exact I.base.gW b ob u e
 ·obtain⟨more,e2⟩:=I.base.ib b ps e
  exact⟨more,by rw[ae (nd e2 (by intro z;cases z))];exact e2⟩
 ·obtain⟨a1,a2,a3⟩:=I.pin p hp
  exact⟨a1,nn a2,a3⟩
 ·by_cases hb:b=d
  ·subst hb
   rw[ag]at e;cases e
   exact ok.eK (fun _ _ _ q=>q) (fun c q=>by rw[ae (nd q (by intro z;cases z))];exact q) fun c xs q=>by rw[ae (nd q (by intro z;cases z))];exact q
  ·rw[ae hb]at e
   exact(I.aj b u e).eK (fun _ _ _ q=>q) (fun c q=>by rw[ae (nd q (by intro z;cases z))];exact q) fun c xs q=>by rw[ae (nd q (by intro z;cases z))];exact q
def Vs (H0:Hp) (t:TE):TE:=fun σ H Q=>t σ H fun v H'=>∃d o kvs,H' d=some (.a6 o (.dT kvs))/\(∀o u,H0 d≠some (.a6 o u))/\Q v (upd H' d (.dT kvs))
theorem SQ (he:PE X e te):PE X e (Vs X.iR te):=by
 intro pins s σ H Q I h;exact ao (he pins s σ H _ I h) fun v s1 ⟨y,H1,I1,r1,d,o,kvs,e1,h0,q⟩=>⟨y,_,I1.Vr e1 h0,r1,q⟩
end L2
namespace HT
open PySem PyProof.Rows PySem.W
open PySem.AutoSeq1 (wpAny_loadPart')
end HT
namespace L2
open PySem PySem.Spec PyProof.Rows PySem.W HT
end L2
namespace L2
open PySem PySem.W PySem.Spec PyProof.Rows
end L2
namespace L2
open PySem PySem.Spec PyProof.Rows PySem.W HS
structure rS (e tg iter:Expr) (ifs:List Expr) (emit:Value->Env->Sem Unit):Prop where
 cl:clausesOf e = [⟨tg,iter,ifs,0⟩]
 turn:∀it acc env,compTurn e 0 it acc env=(do
   standAt iter.pos
   match <- pyNext it with
   |none=>pure (.done .next)
   |some v =>
    letOwnedTupleGo tg it v
    assign tg env v
    let mut ok:=true
    for c in ifs do
     if ok then ok <- isTrue c env (eval c env)
    if ok then emit acc env
    again (.compLoop e 0 it acc env))
 loop:∀ (prog:Program) (w:World) (A:Around) it acc env,A.under (.compLoop e 0 it acc env)=A/\(model prog w).den (.compLoop e 0 it acc env)=(compTurn e 0 it acc env).onRaise (fun x=>do noteFrame x env;theTreesLotGoes x)
 begin_:∀ (prog:Program) (w:World) (A:Around) it acc env,A.under (.compStart e 0 it acc env)=A/\(model prog w).den (.compStart e 0 it acc env)=(compStart e 0 it acc env).onRaise (fun x=>do noteFrame x env;standAt theWindowsPlace)
def vK (k v:Expr) (acc:Value) (env:Env):Sem Unit:=do
 let kv <- eval k env
 let vv <- holding [kv] (eval v env)
 match acc with
 |.ref d=>do
  standAt { k.pos with endLine:=v.pos.endLine,endCol:=v.pos.endCol }
  holding [kv,vv] (dictSet d kv vv)
 |_=>unsupported "internal:dictcomp"
theorem QH {k v:Expr}:rS (.DictComp k v [⟨tg,iter,ifs,0⟩] scope pos) tg iter ifs (vK k v):=⟨rfl,fun _ _ _=>rfl,fun _ _ _ _ _ _=>⟨rfl,rfl⟩,fun _ _ _ _ _ _=>⟨rfl,rfl⟩⟩
theorem OT {emit:Value->Env->Sem Unit}{it:Value} (F:rS e tg iter ifs emit) (I:Nat->Shared->Prop)
  (turn:∀n s,I n s->wpAny (model prog w) A (pyNext it) (fun r s1=>match r with
   |none=>R (.ok .next) s1
   |some v=>wpAny (model prog w) A (letOwnedTupleGo tg it v) (fun _ s2=>wpAny (model prog w) A (assign tg env v) (fun _ s3 =>
     wpAny (model prog w) A (forIn ifs true fun c r=>if r=true then do let ok <- isTrue c env (eval c env);pure (ForInStep.yield ok) else pure (ForInStep.yield r)) (fun ok s4 =>
      if ok=true then wpAny (model prog w) A (emit acc env) (fun _ s6=>∃m,m < n/\I m s6) (fun _ _=>False) s4
      else ∃m,m < n/\I m s4) (fun _ _=>False) s3) (fun _ _=>False) s2) (fun _ _=>False) s1) (fun _ _=>False) s)
  (n:Nat) (h:I n s) :
  codeAny (model prog w) A (.compLoop e 0 it acc env) R s:=by
 refine codeAny_loop rfl I (fun n s hI=>?_) n h;rw[(F.loop prog w A it acc env).1,(F.loop prog w A it acc env).2];refine wpAny_noted (Ff ?_);rw[F.turn];refine af (mT (af (ao (turn n s hI) fun r s1 h1=>?_)));cases r with
 |none=>exact ax h1
 |some v =>
  refine af (ao h1 fun _ s2 h2=>af (ao h2 fun _ s3 h3=>af (ao h3 fun ok s4 h4=>?_)));cases ok with
  |false=>exact ax ⟨rfl,h4⟩
  |true=>exact af (ao h4 fun x s5 h5=>ax ⟨rfl,h5⟩)
theorem OP {emit:Value->Env->Sem Unit}{it:Value} (F:rS e tg iter ifs emit)
  (h0:codeAny (model prog w) A (.compLoop e 0 it acc env) R s)
  (h:wpAny (model prog w) A (pyIter it) (fun Dy s'=>codeAny (model prog w) A (.compLoop e 0 Dy acc env) R s')
   (notedBy (model prog w) A env fun x s'=>R (.error x) s') s) :
  codeAny (model prog w) A (.compStart e 0 it acc env) R s:=by
 refine codeAny_of_tree ?_;rw[(F.begin_ prog w A it acc env).1,(F.begin_ prog w A it acc env).2];refine wpAny_notedAt ?_;unfold compStart;rw[F.cl];show wpAny _ _ (ask >>= _) _ _ s;refine af (wpAny_askSetting (wpAny_ite ?_));split
 ·first
   |exact af (ax (ax (And.intro rfl h0)))
   |exact ax (And.intro rfl h0)
 ·first
   |exact af (vj (af (mT (af (j6 h (fun Dy s' h'=>ax (And.intro rfl h')) fun _ _ x=>x)))))
   |(refine af (vj ?_);show wpAny _ _ (standAt iter.pos >>= _) _ _ s;exact af (mT (af (j6 h (fun Dy s' h'=>ax (And.intro rfl h')) fun _ _ x=>x))))
def A2 (J:It) (g:TG) (ti:TT) (tem:Addr->St->Hp->(Hp->Prop)->Prop) (gH:St) (Q:VK) (p:Addr) (H1:Hp):Prop:=
 ∃W:Nat->Nat->St->Hp->Prop,(∃m,W 0 m gH H1) /\ ∀i m τ H2,W i m τ H2 ->
  ((J.stop i H2/\Q (.ref p) H2)\/(J.go i H2 /\ ∀x H3,J.kM i H2 x H3->g x τ H3 fun bV H4=>ti bV H4 fun b H5 =>
   if b=true then tem p bV H5 fun H6=>∃m',m' < m/\W (i+1) m' bV H6
   else ∃m',m' < m/\W (i+1) m' bV H5))
def yu (X:Cx) (emit:Value->Env->Sem Unit) (tem:Addr->St->Hp->(Hp->Prop)->Prop):Prop:=
 ∀ (pins:List (Addr×Obj)) (s:Shared) (σ:St) (H:Hp) (p:Addr) (Q:Hp->Prop),Inv X pins σ H s->tem p σ H Q->wpAny (model X.prog X.w) X.A (emit (.ref p) X.env) (fun _ s'=>∃H',Inv X pins σ H' s'/\Q H') X.xe s
structure A3 (X:Cx) (nE:Sem Value) (start:Addr->HO):Prop where
 run:∀ (pins:List (Addr×Obj)) (s:Shared) (σ:St) (H:Hp) (E:Value->Shared->Prop) (Q:Value->Shared->Prop),Inv X pins σ H s ->
  (∀s',Inv X pins σ (upd H s.heap.objs.size (start s.heap.objs.size)) s'->(∀b o,s.heap.get? b=some o->s'.heap.get? b=some o)->Q (.ref s.heap.objs.size) s')->wpAny (model X.prog X.w) X.A nE Q E s
def IT (wi:TI) (bH:List (Option Nat)) (g:TG) (ti:TT) (tem:Addr->St->Hp->(Hp->Prop)->Prop) (start:Addr->HO):TE:=fun σ H Q=>wi σ H fun J H1=>∀p,H1 p=none->A2 J g ti tem (pick bH σ) Q p (upd H1 p (start p))
section
variable{emit:Value->Env->Sem Unit}{tem:Addr->St->Hp->(Hp->Prop)->Prop}
theorem Qa {J:It}{tn:Nat->Heap->Prop}{g:TG}{Q:VK}{RR:Value->Addr->Result->Shared->Prop}{nE:Sem Value}{start:Addr->HO} (F:rS e tg iter ifs emit) (hc:X.calm=true) (S:cg X.N X.env.scope N' bH scope)
  (I2:Inv X pins σ H2 s2) (T:Turn X.prog X.w X.K tg J fp it tn) (st:tn 0 s2.heap) (hf:∀b∈fp,gE X pins H2 b) (BK:A3 X nE start)
  (hb:∀s H fp,PG (b5 X N' scope s H fp) tg g/\lQ (b5 X N' scope s H fp) ifs ti/\yu (b5 X N' scope s H fp) emit tem)
  (hw:∀p,H2 p=none->A2 J g ti tem (pick bH σ) Q p (upd H2 p (start p))) (hR:∀acc C s',CompEnd X pins σ Q acc C s'->RR acc C (.ok .next) s') :
  wpAny (model X.prog X.w) X.A nE (fun acc s3=>wpAny (model X.prog X.w) X.A (newFunctionEnv scope X.env.globals (fZ X.env.cells scope.names []) [] X.env.qual none .none (some X.env)) (fun sT s4 =>
   codeAny (model X.prog X.w) X.A (.compStart e 0 (.ref it) acc { sT with scope:=relabel scope X.env }) (RR acc sT.locals) s4) E s3) E s2:=by
 refine BK.run pins s2 σ H2 E _ I2 fun s3 I3 get3=>?_;have hp:=hw s2.heap.objs.size I2.fresh;generalize eH:upd H2 s2.heap.objs.size (start s2.heap.objs.size)=H3 at I3 hp;have ik:∀b∈fp,b < s2.heap.objs.size:=fun b hb=>let ⟨_,e,_⟩:=T.obj _ _ st b hb;bq e;have l8:tn 0 s3.heap:=T.keep _ _ _ st fun b _ o e=>get3 b o e;have gq:∀b∈fp,gE X pins H3 b:=fun b hb=>⟨by rw[<-eH,ae (bX (ik b hb))];exact(hf b hb).1,(hf b hb).2⟩
 have mh:∀b∈fp,∃o,s3.heap.get? b=some o:=fun b hb=>let ⟨o,e,_⟩:=T.obj _ _ l8 b hb;⟨o,e⟩;refine F0 fun h4 hn hk jT Df=>?_;have I4:Inv (b5 X N' scope s3 H3 fp) [] (pick bH σ) H3 { s3 with heap:=h4 }:=Hz I3 S gq mh hn hk jT Df;have tY:tn 0 ({ s3 with heap:=h4 }:Shared).heap:=T.keep _ _ _ l8 fun b _ o e=>hk b o e;obtain⟨hG,hI,hE⟩:=hb s3 H3 fp;obtain⟨W,⟨m0,w0⟩,turn⟩:=hp;have jh:∀ {H':Hp},(∀b∈fp,H' b=none) -> ∀b∈fp,gE (b5 X N' scope s3 H3 fp) [] H' b:=fun hn b hb =>
  ⟨hn b hb,(I4.ok.kJ b hb).1,I4.ok.kE b hb,.inl hb,fun x c e=>(I4.ok.kJ b hb).2 x c e,fun p hp=>absurd (show p∈([]:List (Addr×Obj)) from hp) (by simp)⟩
 have loop:codeAny (model X.prog X.w) X.A (.compLoop e 0 (.ref it) (.ref s2.heap.objs.size) (Ag scope s3.heap.objs.size X.env))
   (RR (.ref s2.heap.objs.size) s3.heap.objs.size) { s3 with heap:=h4 }:=by
  refine OT F (fun n s'=>∃i τ H',Inv (b5 X N' scope s3 H3 fp) [] τ H' s'/\tn i s'.heap/\(∀b∈fp,H' b=none)/\W i n τ H') ?_ m0 ⟨0,_,H3,I4,tY,fun b hb=>(gq b hb).1,w0⟩;rintro n s5 ⟨i,τ,H5,I5,kQ,om,w5⟩;have w5:=turn i n τ H5 w5;rcases w5 with⟨stop,qn⟩|⟨go,step⟩
  ·refine ao (T.done (b5 X N' scope s3 H3 fp) rfl rfl rfl hc i [] s5 τ H5 _ I5 (jh om) kQ stop) fun r s6 ⟨hr,I6⟩=>?_
   subst hr;refine hR _ _ _ ⟨_,H5,rfl,?_,?_,?_,qn⟩
   ·exact I3.wA (s':=s6) (ch:=fp) I6.os I6.base I6.aj I6.bare fun b hb=>⟨(gq b hb).2.2.2.1,(gq b hb).2.1,(gq b hb).2.2.2.2.1,(gq b hb).2.2.2.2.2⟩
   ·exact I3.iS (aO _) I6.free
   ·obtain⟨m,hm,_⟩:=I6.loc
    exact⟨m,hm⟩
  ·refine ao (T.item (b5 X N' scope s3 H3 fp) rfl rfl rfl hc i [] s5 τ H5 _ I5 (jh om) kQ go) fun r s6 ⟨u,hr,h6⟩=>?_
   subst hr;refine ao h6 fun _ s7 ⟨x,H7,I7,r7,y7,oE,Dg⟩=>?_;have Dh:=I7.pinned (jh Dg) (T.obj _ _ oE);refine ao (hG _ s7 τ H7 x u _ Dh r7 (step x H7 y7)) fun _ s8 ⟨qB,H8,I8,q8⟩=>?_;refine ao (hI _ s8 qB H8 _ I8 q8) fun b s9 ⟨H9,I9,q9⟩=>?_;have again:∀ {fu:St}{H':Hp}{s':Shared}{m':Nat},Inv (b5 X N' scope s3 H3 fp) ([]++pM fp s7.heap) fu H' s'->m' < n->W (i+1) m' fu H' ->
     ∃m,m < n /\ ∃i τ H',Inv (b5 X N' scope s3 H3 fp) [] τ H' s'/\tn i s'.heap/\(∀b∈fp,H' b=none)/\W i m τ H':=fun {fu H' s' m'} I' hm w'=>by
    refine⟨m',hm,i+1,fu,H',I'.rO,T.keep _ _ _ oE fun b hb o e=>(I'.pin (b,o) (eZ _ (eZ _ (pw hb e)))).1,fun b hb=>?_,w'⟩;obtain⟨o,e,d⟩:=T.obj _ _ oE b hb;exact(I'.pin (b,o) (eZ _ (eZ _ (pw hb e)))).2.1
   cases b with
   |false =>
    obtain⟨m',hm,w'⟩:=q9;exact again I9 hm w'
   |true=>exact ao (hE _ s9 qB H9 _ _ I9 q9) fun _ Lw ⟨oF,Di,m',hm,w'⟩=>again Di hm w'
 exact OP F loop (T.self X.A 0 _ _ _ tY loop)
theorem RF {wi:TI}{g:TG}{nE:Sem Value}{start:Addr->HO} (F:rS e tg iter ifs emit) (ZS:eval e X.env=comprehension e scope X.env pos nE false (eval iter X.env)) (BK:A3 X nE start) (hc:X.calm=true) (S:cg X.N X.env.scope N' bH scope) (hi:PI X tg iter wi)
  (hb:∀s H fp,PG (b5 X N' scope s H fp) tg g/\lQ (b5 X N' scope s H fp) ifs ti/\yu (b5 X N' scope s H fp) emit tem)
  (hs:∀x,foldedSetIterable iter X.env x=pure x:=by intro _;rfl):PE X e (IT wi bH g ti tem start):=by
 intro pins s σ H Q I h;rw[ZS];refine Of (use:=none) F.cl hs (zH fun n hn=>vC I S hn) S.kind (fun x hx hl=>pq S.keys (by rw[<-hl];exact hx)) ?_
 refine ao (hi pins s σ H _ I h) fun v s1 h1=>ao h1 fun tM s2 h2=>?_;obtain⟨it,fp,tn,J,H2,e,I2,T,jS,f2,hw⟩:=h2;subst e;refine Qa (RR:=fun acc C=>compPost (model X.prog X.w) X.A X.xe none (EP X pins σ Q) acc C) F hc S I2 T jS f2 BK hb hw ?_;rintro acc C s' ⟨p,H',rfl,I',fC,⟨m,hm⟩,q⟩;refine⟨m,hm,fun h' mi=>⟨.ref p,H',?_,rfl,q⟩⟩;exact I'.turned (it:=C) (t':=s'.toks) (fun b o hb e=>(mi.2 b hb).trans e) fC.1 fC.2.1 fC.2.2.2.1 fC.2.2.2.2.1 fC.2.2.2.2.2
end
section
variable{k v:Expr}{tk:TE}
def BL (tk tv:TE) (p:Addr) (σ:St) (H:Hp) (Q:Hp->Prop):Prop:=tk σ H fun y H1=>tv σ H1 fun z H2=>∃kvs ks b,y = .ref b/\H2 b=some (.tup (ks.map kV))/\H2 p=some (.dT kvs)/\kvs.length < sizeLine/\Q (upd H2 p (.dT (putK kvs ks z)))
theorem Vt (hu:X.A.units+1 < cLine) (hk:PE X k tk) (hv:PE X v tv):yu X (vK k v) (BL tk tv):=by
 intro pins s σ H p Q I h;unfold vK;refine af (ao (hk pins s σ H _ I h) fun u s1 ⟨y,H1,I1,ry,q1⟩=>af (gw (ao (hv pins s1 σ H1 _ I1 q1) fun r s2 ⟨z,H2,I2,rz,kvs,ks,b,ey,eb,e,l,q⟩=>?_)));subst ey;cases (show u=Value.ref b from ry)
 refine af (mT (gw ?_));obtain⟨zz,hd,xs,rel,dd⟩:=Jl I2.aj e;have hz:xs.length<=sizeLine:=by rw[<-eu rel];exact zz
 have hl:(putK kvs ks z).length<=sizeLine:=by have:=rE kvs ks z;omega
 refine wpAny_dictSet_heap (hsz:=hz) (knd:=tupleKind (bY X.prog X.w)) (k:=ks) (show X.A.units < cLine by omega) (pO I2.aj eb) dd fun h' iK hs=>⟨_,?_,q⟩
 obtain⟨qo,es,ep,hq,h2,h3,h4,_,h5⟩:=iK;refine AB I2 (by rw[e];exact True.intro) hs ⟨qo,hq⟩ ⟨hl,hd,_,(rel.put ks eb rz).keeps fun c ys ec=>?_,qo,es,ep,hq,h2,h3,h4,h5⟩
 rw[ae (aS ec e (fun z=>nomatch z))];exact ec
theorem Uz:A3 X (newDict) (fun _=>.dT []):=⟨fun pins s σ H E Q I h=>by
 refine lg ?_;exact h _ (I.laid (a:=s.heap.objs.size) (o:= .dT []) (t':=s.toks) (fun _ _ q=>bj _ q) (aO _) (HD s.heap I.big)) fun b o e=>bj _ e⟩
variable{wi:TI}{g:TG}
theorem QI (hc:X.calm=true) (S:cg X.N X.env.scope N' bH scope) (hi:PI X tg iter wi)
  (hb:∀s H fp,PG (b5 X N' scope s H fp) tg g/\lQ (b5 X N' scope s H fp) ifs ti/\yu (b5 X N' scope s H fp) (vK k v) (BL tk tv))
  (hs:∀x,foldedSetIterable iter X.env x=pure x:=by intro _;rfl):PE X (.DictComp k v [⟨tg,iter,ifs,0⟩] scope pos) (IT wi bH g ti (BL tk tv) fun _=>.dT []):=
 RF QH rfl Uz hc S hi hb hs
end
def yv (Pv:Nat->St->Hp->Prop) (n i m:Nat) (τ:St) (H:Hp):Prop:=m=n - i/\i<=n/\Pv i τ H
theorem RG {Pv:Nat->St->Hp->Prop}{n:Nat}{τ:St} (h:i < n) (p:Pv (i+1) τ H):∃m',m' < n - i/\yv Pv n (i+1) m' τ H:=⟨n - (i+1),by omega,rfl,h,p⟩
theorem QJ {g:TG}{tem:Addr->St->Hp->(Hp->Prop)->Prop}{Q:VK} (Pv:Nat->St->Hp->Prop) (h0:Pv 0 gH H1) (hl:∀i τ H,Pv i τ H->aG K H a xs)
  (hs:∀i x τ H,xs[i]? = some x->Pv i τ H->g x τ H fun bV H4=>ti bV H4 fun b H5=>if b=true then tem p bV H5 fun H6=>∃m',m' < xs.length - i/\yv Pv xs.length (i+1) m' bV H6 else ∃m',m' < xs.length - i/\yv Pv xs.length (i+1) m' bV H5)
  (hd:∀τ H,Pv xs.length τ H->Q (.ref p) H):A2 (kO K a) g ti tem gH Q p H1:=by
 refine⟨yv Pv xs.length,⟨xs.length,by simp,bw _,h0⟩,?_⟩
 rintro i m τ H ⟨rfl,hi,pv⟩;have hq:=hl i τ H pv
 by_cases aZ:i < xs.length
 ·refine .inr ⟨⟨xs,xs[i],hq,by simp[aZ]⟩,fun x H3 y3=>?_⟩
  obtain⟨e3,ex⟩:=y3;subst e3;exact hs i x τ _ (ex xs hq) pv
 ·have e:i=xs.length:=by omega
  subst e;exact .inl ⟨⟨xs,hq,aO _⟩,hd τ H pv⟩
end L2
namespace L2
open PySem PySem.Spec PyProof.Rows
structure sV (K:PySem.W.Frag) (x qual:Str) (st:Stmt) (dv:Value) (f:Addr) (fd:FuncData):Prop where
 ex:∃ (oc:Value) (od:Option Addr) (kV doc pm:Value) (an:Option Addr) (aF ct:Value) (g7:Array (Option Value)),
  fd=PySem.W.fnOf x qual (dw st) (bF st) (aN st) dv kV doc pm an aF ct/\K.lookup f=some ⟨oc,od,.func fd,g7⟩/\PySem.W.codeIn K aF qual=true
 kp:PySem.W.keepIn K (.ref f)=true
theorem sV.binds {T:Addr}{ds:List Value}{n:Nat} (F:sV K x qual st (.ref T) f fd) (lT:K.lookup T=some ⟨oc,od,.seq items n,g7⟩)
  (h:∀ (kV doc pm:Value) (an:Option Addr) (aF ct:Value) (us:List Value),(us++ds).length=ps.length -> ∃k:Option (Array Value)->Sem (List (Str×Value)),(bindArgs (PySem.W.fnOf x qual (dw st) (bF st) (aN st) (.ref T) kV doc pm an aF ct) ⟨us,[]⟩=seqItems? (.ref T) >>= k)/\k (some items)=pure (ps.zip (us++ds))):Binds K fd ps ds:=by
 obtain⟨oc',od',kV,doc,pm,an,aF,ct,afZ,rfl,lk,ee⟩:=F.ex;intro s us KX hl;obtain⟨k,h1,h2⟩:=h kV doc pm an aF ct us hl;exact .of_defaults (T:=T) rfl (KX _ _ lT) rfl h1 h2
theorem SR {kV:Value} (l:K.lookup f=some ⟨oc,od,.func (PySem.W.fnOf x qual (dw st) (bF st) (aN st) dv kV doc pm an aF ct),g7⟩)
  (c:PySem.W.codeIn K aF qual=true) (k:PySem.W.keepIn K (.ref f)=true):sV K x qual st dv f (PySem.W.fnOf x qual (dw st) (bF st) (aN st) dv kV doc pm an aF ct):=⟨⟨oc,od,kV,doc,pm,an,aF,ct,g7,rfl,l,c⟩,k⟩
end L2
namespace L2
open PySem PySem.Spec PyProof.Rows PySem.W HT
theorem Qb (hc:X.calm=true):dZ X (.type "dict") (fun xs H Q=>∃t vs kvs,xs = [.ref t]/\H t=some (.tup vs)/\nD H vs kvs/\(kvs.map (·.1)).Nodup /\ ∀d,H d=none->Q (.ref d) (upd H d (.dK (hX kvs)))):=by
 intro pins s σ H xs us Q I r h;obtain⟨t,vs,kvs,rfl,ht,pr,nd,q⟩:=h;obtain⟨u,rfl,ru⟩:=vals1 r;cases ru
 obtain⟨hz,its,rv,⟨cl,dd,dt,sl⟩,ho,jT,n,eU,iI⟩:=(show a9 X.prog X.w H s.heap t (.tup vs) from I.aj t _ ht);obtain rfl:cl = .type "tuple" :=jT;obtain rfl:dd=none:=iI;obtain rfl:dt = .seq its.toArray n:=eU;have mx:vs.length=kvs.length:=eu pr;have qy:=rv.length;have pairs:∀ (i:Nat) p,kvs[i]? = some p -> ∃a x y,its.toArray[i]? = some (.ref a)/\IsTup s.heap a #[x,y]/\RelV (.str p.1) x/\RelV p.2 y:=by
  intro i p hp;have hi:i < vs.length:=by rw[mx];exact(b4.mp hp).1
  obtain⟨p',iY,a,ey,ha⟩:=pK pr (show vs[i]? = some vs[i] from bK hi);rw[hp]at iY;cases iY;obtain⟨u,hu,ru⟩:=rv.get (show vs[i]? = some (V.ref a) by rw[bK hi,ey])
  cases ru
  obtain⟨i2,r2,t2,_⟩:=I.tuple (aG.of ha);obtain⟨x,y,rfl,rx,ry⟩:=r2.two;exact⟨a,x,y,by simpa using hu,t2,rx,ry⟩
 have ch:∀i:Fin kvs.length,∃y,∃a x,its.toArray[i.1]? = some (.ref a)/\IsTup s.heap a #[x,y]/\RelV (.str kvs[i].1) x/\RelV kvs[i].2 y:=fun i=>by
  obtain⟨a,x,y,h1,h2,h3,h4⟩:=pairs i.1 kvs[i] (bK i.2);exact⟨y,a,x,h1,h2,h3,h4⟩
 obtain⟨ys,ZT,LG⟩:∃ys:List Value,ys.length=kvs.length /\ ∀ (i:Nat) (hi:i < kvs.length),∃y,ys[i]? = some y /\ ∃a x,its.toArray[i]? = some (.ref a)/\IsTup s.heap a #[x,y]/\RelV (.str kvs[i].1) x/\RelV kvs[i].2 y:=
  ⟨List.ofFn fun i=>Classical.choose (ch i),List.length_ofFn,fun i hi=>⟨Classical.choose (ch ⟨i,hi⟩),by simp[List.getElem?_ofFn,hi],Classical.choose_spec (ch ⟨i,hi⟩)⟩⟩
 have ZU:((kvs.map fun p=>(Sum.inr p.1:Key)).zip ys).map (·.1)=kvs.map fun p=>(Sum.inr p.1:Key):=by
  rw[List.map_fst_zip];rw[aJ];omega
 have LH:((kvs.map fun p=>(Sum.inr p.1:Key)).zip ys).length=kvs.length:=by rw[List.length_zip,aJ];omega
 have inj:(kvs.map fun p=>(Sum.inr p.1:Key)).Nodup:=by
  have:(kvs.map fun p=>(Sum.inr p.1:Key))=(kvs.map (·.1)).map Sum.inr:=by rw[dY];rfl
  rw[this,o6,rA];exact(o6.mp nd).imp fun h z=>h (jw z)
 refine OX (I.ok.hd hc) ((kvs.map fun p=>(Sum.inr p.1:Key)).zip ys) (by rw[ZU];exact inj) (by rw[LH];omega) (by rw[cf,LH];omega) ho (fun i p hp=>?_) fun d h' tk dl dd kp=>?_
 ·obtain⟨h1,h2⟩:=List.getElem?_zip_eq_some.mp hp
  rw[gS]at h1;obtain⟨kv,hk,ek⟩:=lj.mp h1;obtain⟨hi,rfl⟩:=b4.mp hk;obtain⟨y,hy,a,x,g1,g2,g3,g4⟩:=LG i hi;rw[hy]at h2;cases h2
  exact⟨a,x,g1,g2,by rw[<-ek];exact pX (k:=Sum.inr kvs[i].1) g3⟩
 ·have big:=I.big
  refine⟨.ref d,_,I.laid (a:=d) (o:= .dK (hX kvs)) (t':=tk) kp dl (IP (by unfold hX;rw[aJ];omega) (j4.mpr (aV (bX (fQ big dl)))) ?_ dd),rfl,q d (I.aj.fresh dl)⟩
  exact Ir kvs ys ZT fun i hi=>by
   obtain⟨y,hy,a,x,_,_,_,g4⟩:=LG i hi;exact⟨y,hy,g4⟩
theorem QK:dZ X (.builtin "len") (fun xs H Q=>∃a kvs,xs = [.ref a]/\H a=some (.dK kvs)/\Q (.int kvs.length) H):=by
 intro pins s σ H xs us Q I r h;obtain⟨a,kvs,rfl,e,q⟩:=h;obtain⟨u,rfl,ru⟩:=vals1 r;cases ru
 exact Vl I (.inl e) fun t s' I'=>⟨.int _,H,I',⟨_,rfl⟩,q⟩
theorem Qc:dZ X (.type "dict") (fun xs H Q=>∃a,xs = [.ref a]/\H a=some (.dT []) /\ ∀d,H d=none->Q (.ref d) (upd H d (.dT []))):=by
 intro pins s σ H xs us Q I r h;obtain⟨a,rfl,e,q⟩:=h;obtain⟨u,rfl,ru⟩:=vals1 r;cases ru
 obtain⟨z,hd,xs',rr,o,es,ep,ho,hx,eU,h4,h5⟩:=(show a9 X.prog X.w H s.heap a (.dT []) from I.aj a _ e);cases rr
 have e0:es = #[]:=by simpa using h4
 subst e0;have dd:s.heap.DictOf (bY X.prog X.w) a []:=⟨o,#[],ep,ho,hx,eU,by intro e he;simp at he,by first|exact .nil|trivial|constructor,lu⟩
 have big:=I.big;refine kt_call_dict hd dd (bw _) fun h' iK sb=>?_;obtain⟨o',oi,qr,fq,dJ,WY,mf,iY,_⟩:=iK;have e1:oi.toList = []:=List.length_eq_zero_iff.mp iY.length;refine⟨.ref s.heap.objs.size,_,I.laid (a:=s.heap.objs.size) (o:= .dT []) (t':=s.toks) (fun b o hb=>?_) (aO _) ⟨bw _,j4.mpr (aV (bX big)),[],.nil,o',oi,qr,fq,dJ,WY,e1,lu⟩,rfl,q _ (I.aj.fresh (aO _))⟩;have nb:b≠s.heap.objs.size:=bX (bq hb);rw[sb.2 b nb];exact bj _ hb
end L2
namespace L2
open PySem PySem.Spec PyProof.Rows PySem.W
def sE (o:Obj):Option Value:=match o.data with|.fields vs=>vs[2]? | _=>none
def Kp (o o':Obj):Prop:=o'.dict=o.dict/\sE o'=sE o
def KD {α:Type}:Sem α->Prop
 |.pure _=>True
 |.raise _=>True
 |.unsupported _=>True
 |.finish _=>True
 |.rule _ k=>KD (k ())
 |.at _ k=>KD (k ())
 |.load _ _ k=>∀o,KD (k o)
 |.update _ _ f k=>(∀o,Kp o (f o))/\KD (k ())
 |.alloc _ k=>∀a,KD (k a)
 |.loadIfAlive _ k=>∀o,KD (k o)
 |.point _ k=>KD (k ())
 |.register _ _=>False
 |.fresh k=>∀t,KD (k t)
 |.ask k=>∀x,KD (k x)
 |.choose _ _ k=>∀n,KD (k n)
 |.os _ _ k=>∀r,KD (k r)
 |.call _ _ _ _ _=>False
 |.handled _ k=>∀v,KD (k v)
 |.newGen _ k=>∀n,KD (k n)
 |.genState _ k=>∀x,KD (k x)
 |.resume _ _ _ _=>False
 |.yield _ _ _ _=>False
 |.stack k=>∀l,KD (k l)
 |.fork _ _=>False
 |.thread k=>∀n,KD (k n)
 |.await _ _ _ _ _=>False
def RD (h h':Heap):Prop:= ∀ (a:Addr) (o:Obj),h.objs[a]? = some o -> ∃o',h'.objs[a]? = some o'/\Kp o o'
theorem RD.refl (h:Heap):RD h h:=fun a o e=>⟨o,e,rfl,rfl⟩
theorem RD.trans {h1 h2 h3:Heap} (a:RD h1 h2) (b:RD h2 h3):RD h1 h3:=fun x o e=>by
 obtain⟨o1,e1,d1⟩:=a x o e;obtain⟨o2,e2,d2⟩:=b x o1 e1;exact⟨o2,e2,d2.1.trans d1.1,d2.2.trans d1.2⟩
theorem RD.push (r:RD h0 h) (o:Obj):RD h0 (h.push o):=r.trans fun x u e=>⟨u,by
 obtain⟨objs,l⟩:=h;show(objs.push o)[x]? = some u;have hx:x < objs.size:=(Oh.mp e).1;rw[Array.getElem?_push,ar (bX hx)];exact e,rfl,rfl⟩
theorem RD.update (r:RD h0 h) {f:Obj->Obj} (hf:∀o,Kp o (f o)):RD h0 (h.update a f):=r.trans fun x u e=>by
 obtain⟨objs,l⟩:=h;show ∃o',(objs.modify a f)[x]? = some o'/\_;rw[Array.getElem?_modify];have e':objs[x]? = some u:=e
 by_cases c:a=x
 ·rw[aB c,e'];exact⟨f u,rfl,hf u⟩
 ·rw[ar c];exact⟨u,e',rfl,rfl⟩
theorem RD.dict (r:RD h h') {o':Obj} (e:h.get? a=some o) (e':h'.get? a=some o'):Kp o o':=by
 have raw:∀ {g:Heap}{u:Obj},g.get? a=some u->g.objs[a]? = some u:=fun {g u} q=>by
  unfold Heap.get? at q;split at q
  ·cases q
  ·exact q
 obtain⟨o2,e2,d⟩:=r a o (raw e);rw[raw e']at e2;cases e2
 exact d
theorem Vu {α:Type}{M:Model}{Γ:PySem.Ctx}:∀ {t:Sem α}{Q:α->Pos->Shared->Prop}{E:Value->Pos->Shared->Prop}{p:Pos}{s:Shared},KD t->RD h0 s.heap->Sem.wp M Γ t Q E p s ->
  Sem.wp M Γ t (fun v p s'=>Q v p s'/\RD h0 s'.heap) (fun v p s'=>E v p s'/\RD h0 s'.heap) p s:=by
 intro t
 induction t with
 |pure a=>intro Q E p s _ r h;exact⟨h,r⟩
 |raise e=>intro Q E p s _ r h;exact⟨h,r⟩
 |unsupported w=>intro Q E p s _ r h;exact h
 |finish e=>intro Q E p s _ r h;exact h
 |rule t k ih=>intro Q E p s kd r h;exact ih () kd r h
 |«at» q k ih=>intro Q E p s kd r h;exact ih () kd r h
 |load a q k ih=>intro Q E p s kd r h;obtain⟨o,e,h⟩:=h;exact⟨o,e,ih o (kd o) r h⟩
 |update a q f k ih=>intro Q E p s kd r h;exact⟨h.1,ih () kd.2 (r.update kd.1) h.2⟩
 |alloc o k ih=>intro Q E p s kd r h;exact ih _ (kd _) (r.push o) h
 |loadIfAlive a k ih=>intro Q E p s kd r h;exact ih _ (kd _) r h
 |point l k ih=>intro Q E p s kd r h;exact ih () kd r h
 |register a k ih=>intro Q E p s kd r h;exact h
 |fresh k ih=>intro Q E p s kd r h;exact ih _ (kd _) r h
 |ask k ih=>intro Q E p s kd r h;exact ih _ (kd _) r h
 |choose src n k ih=>intro Q E p s kd r h;exact⟨h.1,ih _ (kd _) r h.2⟩
 |os q l k ih=>intro Q E p s kd r h;exact ih _ (kd _) r h
 |call c hd g l k ih=>intro Q E p s kd r h;exact False.elim kd
 |handled own k ih=>intro Q E p s kd r h;exact ih _ (kd _) r h
 |newGen c k ih=>intro Q E p s kd r h;exact ih _ (kd _) r h
 |genState g k ih=>intro Q E p s kd r h;obtain⟨st,e,h⟩:=h;exact⟨st,e,ih _ (kd _) r h⟩
 |resume g rs l k ih=>intro Q E p s kd r h;exact False.elim kd
 |yield v g l k ih=>intro Q E p s kd r h;exact False.elim kd
 |stack k ih=>intro Q E p s kd r h;exact ih _ (kd _) r h
 |fork c k ih=>intro Q E p s kd r h;exact False.elim kd
 |thread k ih=>intro Q E p s kd r h;exact ih _ (kd _) r h
 |await a t b l k ih=>intro Q E p s kd r h;exact False.elim kd
theorem UA {α:Type}{M:Model}{t:Sem α}{Q:α->Shared->Prop} (k:KD t) (h:wpAny M A t Q E s) :
  wpAny M A t (fun v s'=>Q v s'/\RD s.heap s'.heap) (fun v s'=>E v s'/\RD s.heap s'.heap) s:=fun Γ p hi=>Vu k (RD.refl _) (h Γ p hi)
theorem KD.bind {α β:Type}{f:α->Sem β} (hf:∀x,KD (f x)):∀ {t:Sem α},KD t->KD (t.bind f):=by
 intro t
 induction t with
 |pure a=>intro _;exact hf a
 |raise e=>intro _;trivial
 |unsupported w=>intro _;trivial
 |finish e=>intro _;trivial
 |rule t k ih=>intro kd;exact ih () kd
 |«at» q k ih=>intro kd;exact ih () kd
 |load a q k ih=>intro kd o;exact ih o (kd o)
 |update a q g k ih=>intro kd;exact⟨kd.1,ih () kd.2⟩
 |alloc o k ih=>intro kd a;exact ih a (kd a)
 |loadIfAlive a k ih=>intro kd o;exact ih o (kd o)
 |point l k ih=>intro kd;exact ih () kd
 |register a k ih=>intro kd;exact False.elim kd
 |fresh k ih=>intro kd o;exact ih o (kd o)
 |ask k ih=>intro kd o;exact ih o (kd o)
 |choose src n k ih=>intro kd o;exact ih o (kd o)
 |os q l k ih=>intro kd o;exact ih o (kd o)
 |call c hd g l k ih=>intro kd;exact False.elim kd
 |handled own k ih=>intro kd o;exact ih o (kd o)
 |newGen c k ih=>intro kd o;exact ih o (kd o)
 |genState g k ih=>intro kd o;exact ih o (kd o)
 |resume g rs l k ih=>intro kd;exact False.elim kd
 |yield v g l k ih=>intro kd;exact False.elim kd
 |stack k ih=>intro kd o;exact ih o (kd o)
 |fork c k ih=>intro kd;exact False.elim kd
 |thread k ih=>intro kd o;exact ih o (kd o)
 |await a t b l k ih=>intro kd;exact False.elim kd
theorem KD.cH {α β:Type}{t:Sem α}{f:α->Sem β} (h:KD t) (hf:∀x,KD (f x)):KD (t >>= f):=KD.bind hf h
theorem KD.pure {α:Type}{x:α}:KD (Pure.pure x:Sem α):=True.intro
theorem KD.jX {α:Type}{w:String}:KD (PySem.unsupported w:Sem α):=True.intro
theorem Aj:KD PySem.stack:=fun _=>True.intro
theorem AE:KD (PySem.load a):=fun _=>True.intro
theorem Hk {f:Obj->Obj} (h:∀o,Kp o (f o)):KD (PySem.update a f):=⟨h,True.intro⟩
theorem Pg {v:Value}:KD (fieldsOf v):=by
 unfold fieldsOf;split
 ·refine KD.cH AE fun o=>?_
  split
  ·exact KD.pure
  ·exact KD.jX
 ·exact KD.jX
theorem vL {v:Value}:KD (field v i):=by
 unfold field;refine KD.cH Pg fun o=>?_;split
 ·exact KD.pure
 ·exact KD.jX
theorem OU {x:Value} (hi:i≠2):∀o:Obj,Kp o (Obj.mapFields (·.setIfInBounds i x) o):=fun⟨c,d,dt,s⟩=>by
 cases dt <;> first|exact⟨rfl,rfl⟩|exact⟨rfl,Array.getElem?_setIfInBounds_ne hi⟩
theorem rF {v x:Value} (hi:i≠2:=by decide):KD (setField v i x):=by
 unfold setField;split
 ·unfold updateField
  refine KD.cH AE fun o=>?_;split
  ·split
   ·exact Hk (OU hi)
   ·exact KD.jX
  ·exact KD.jX
 ·exact KD.jX
theorem zK {ty:String}{vs:List Value}:KD (newFields ty vs):=by
 unfold newFields newObj
 dsimp only
 split
 ·exact KD.jX
 ·show KD (newObjAsIs _ _ _)
  unfold newObjAsIs;exact KD.cH (fun _=>True.intro) fun _=>KD.pure
theorem Ph {b:Bool}{l:List Env}:KD (keptBack env b l):=by
 unfold keptBack;split
 ·split
  ·exact KD.pure
  ·unfold underTheClaimsCaller
   exact KD.cH (KD.cH Aj fun _=>KD.pure) fun _=>by split <;> exact KD.pure
 ·exact KD.pure
theorem QL {l:List Env}:KD (behindIsImport env l):=by
 unfold behindIsImport;split
 ·exact KD.pure
 ·split
  ·exact KD.pure
  ·exact KD.cH vL fun _=>KD.pure
theorem HM:∀l:List Env,KD (readyFrames l)
 |[]=>by unfold readyFrames;exact KD.pure
 |env::outer=>by
  unfold readyFrames;split
  ·refine KD.cH AE fun o=>?_
   split
   ·exact KD.pure
   ·exact KD.cH QL fun _=>KD.cH Ph fun _=>KD.cH (Hk fun _=>⟨rfl,rfl⟩) fun _=>HM outer
  ·exact KD.jX
theorem zT:KD (PySem.frameOf env):=by
 unfold PySem.frameOf;refine KD.cH ?_ fun l=>KD.cH ?_ fun r=>?_
 ·unfold frameEnvs
  exact KD.cH Aj fun _=>KD.pure
 ·unfold frameObject
  split
  ·exact KD.pure
  ·exact KD.cH (HM _) fun _=>KD.pure
 ·split
  ·exact KD.pure
  ·exact KD.jX
theorem Ak {b:Bool}:KD (entryPlaceOf f b):=by
 unfold entryPlaceOf;refine KD.cH Aj fun l=>?_;split
 ·exact KD.pure
 ·exact KD.pure
theorem Iw {e:Value}:KD (noteFrame e env):=by
 unfold noteFrame;split
 ·refine KD.cH vL fun hd=>?_
  have last:∀f b,KD (setField e 1 =<< (do EntryCells.newEntry hd (<- PySem.frameOf env) .none (rawInt f) .none (<- entryPlaceOf f b))):=fun f b=>KD.cH (KD.cH zT fun _=>KD.cH Ak fun _=>zK) fun _=>rF;split
  ·refine KD.cH vL fun x=>?_
   split
   ·exact KD.pure
   ·exact KD.cH rF fun _=>KD.cH zT fun _=>KD.cH Ak fun _=>KD.cH zK fun _=>rF
  ·exact KD.cH zT fun _=>KD.cH Ak fun _=>KD.cH zK fun _=>rF
 ·exact KD.jX
theorem zL {e:Value}{f:Option Addr}:KD (setFlight e f):=by
 unfold setFlight;refine KD.cH vL fun tb=>?_;split
 ·exact rF
 ·exact KD.pure
theorem Gg {e:Value}:KD (leaving env e):=by
 unfold leaving;exact KD.cH Iw fun _=>zL
def kH (n:Option Value) (C:Addr) (dx:Option Addr) (a:Addr):HO:= .ext fun h=>∃ox vs,h.get? a=some ox/\ox.cls = .ref C/\ox.dict=dx/\ox.data = .fields vs/\(∀y,n=some y->vs[2]? = some y)
section
variable{n:Option Value}
theorem SS {vs:Array Value} (e:h.get? a=some ox) (c:ox.cls = .ref C) (d:ox.dict=dx) (f:ox.data = .fields vs) (z:∀y,n=some y->vs[2]? = some y):a9 P w H h a (kH n C dx a):=
 ⟨⟨ox,vs,e,c,d,f,z⟩,⟨_,e⟩,fun _ _ ⟨ox,vs,q,r⟩ k=>⟨ox,vs,k _ q,r⟩⟩
theorem SU {B:Heap}{l:List Env}{a0:Value} (f:Heap.FlyingW B l a (.ref C) a0 h) (r:∃ox,h.get? a=some ox/\ox.dict=dx/\(∀y,n=some y->sE ox=some y)):a9 P w H h a (kH n C dx a):=by
 obtain⟨_,_,_,oe,vs,_,_,_,he,hc,hd,_⟩:=f;obtain⟨ox,e,d,z⟩:=r;rw[he]at e;cases e;exact SS he hc.1 d hd fun y=>by have:=z y;unfold sE at this;rw[hd]at this;exact this
theorem Iy (ok:b3 P w H h) (n:H a=none) (o:a9 P w (upd H a O) h a O):b3 P w (upd H a O) h:=fun b u e=>by
 by_cases c:b=a
 ·subst c
  rw[ag]at e;cases e;exact o
 ·rw[ae c]at e
  exact(ok b u e).eK (fun _ _ _ q=>q) (fun x q=>by rw[ae (au q n)];exact q) fun x xs q=>by rw[ae (au q n)];exact q
theorem Un.add {fs ex:List Addr} (u:Un fs ex H H' h h') (n':H' a=none) (n:h.get? a=none):Un fs ex H (upd H' a O) h h':=
 ⟨u.keep,u.slot,fun b o e q x=>by
  have:b≠a:=by rintro rfl;rw[n]at e;cases e
  rw[ae this];exact u.free b o e q x,u.there,fun b xs e=>by
  have q:=u.gC b xs e;rw[ae (au q n')];exact q,fun b o v e=>by
  have q:=u.gW b o v e;rw[ae (au q n')];exact q,fun b ps e=>by
  obtain⟨m,q⟩:=u.ib b ps e;exact⟨m,by rw[ae (au q n')];exact q⟩⟩
theorem RH:upd (jg H a) a O=upd H a O:=by
 funext b;unfold upd
 by_cases c:b=a
 ·rw[aB c,aB c]
 ·rw[ar c,ar c,pH c]
end
section
variable{fs:List (Str×V)}{f:Str}{n:Option Value}
theorem QM {b:Bool} (I:Inv X pins σ H s) (e:H a=some (kH n C (some d) a)) (ed:H d=some (gF d fs)) (c:f6 X.K C) (no:findIn X.K (.ref C) f=some none) (l:fs.lookup f=some v)
  (h:∀u s',Inv X pins σ H s'->RelV v u->Q u s'):wpAny (model X.prog X.w) A (getAttr (.ref a) f b) Q E s:=by
 obtain⟨ox,vs,at_,hc,hd,hf,_⟩:=(I.aj a _ e).1;obtain⟨_,mA,n',r,_⟩:=I.AA ed;obtain⟨od,iI,look⟩:=vA n';have rf:=r f;rw[l]at rf;obtain⟨u,hu,ru⟩:=eJ.some_of rf;have J:InstAt s.heap a ox C (some od):=⟨at_,hc,by unfold notCls;rw[hf],by rw[hd];exact iI⟩
 exact Sj I.bB J c (findObj_own c.hd no rfl (by rw[look,hu])) (Gw ru) (h u _ (I.tok _) ru)
end
section
variable{f:Str}
def Vv (X:Cx) (ta:TE) (f:Str):TE:=fun σ H Q=>ta σ H fun x H1=>∃a n C d fs v,x = .ref a/\H1 a=some (kH n C (some d) a)/\H1 d=some (gF d fs)/\f6 X.K C/\findIn X.K (.ref C) f=some none/\fs.lookup f=some v/\Q v H1
theorem SV (he:PE X e ta) (hb:attributeBase e f X.env (eval e X.env)=eval e X.env:=by rfl):PE X (.Attribute e f pos) (Vv X ta f):=by
 intro pins s σ H Q I h;refine Ih hb (ao (he pins s σ H _ I h) fun u s1 ⟨x,H1,I1,rx,a,_,C,d,fs,v,ex,ea,ed,c,n,l,q⟩=>?_);subst ex;obtain rfl:u=Value.ref a:=rx;exact QM I1 ea ed c n l fun u' s2 I2 ru=>⟨v,H1,I2,ru,q⟩
end
theorem Pj {R:Addr->Addr->Option Addr->Hp->Prop} (I:Inv X pins σ H s) (hc:X.calm=true) (he:PE X e te)
  (h:te σ H fun v H1=>∃a C dx i,v = .ref a/\H1 a=some (cy C dx a)/\(∀d,dx=some d -> ∃fs,H1 d=some (gF d fs))/\f6 X.K C/\iB X.K C i=true/\R a C dx H1)
  (fin:∀a C dx H1 s1,Inv X pins σ H1 s1->H1 a=some (cy C dx a)->R a C dx H1->X.xe (.ref a) s1) :
  wpAny (model X.prog X.w) X.A (exec (.Raise (some e) none pos) X.env) (SP X pins D) X.xe s:=by
 rw[arm_exec_Raise];refine af (mT (show wpAny _ _ (raiseStmt X.env (some (do let v <- eval e X.env;standAt pos;pure v)) none) _ _ _ from ?_));unfold raiseStmt;refine af (af (ao (he pins s σ H _ I h) fun u s1 ⟨v,H1,J,r,a,C,dx,i,ev,ea,hd,c,q,hR⟩=>af (mT (ax ?_))));subst ev;obtain rfl:u = .ref a:=r;obtain⟨ox,od,t,inst,rfl⟩:=J.Sy ea hd;have Jm:Looks (model X.prog X.w) s1.heap (isType (.ref a)) false:=fun A' Q' E' s' k z=>by
  simp only[isType,loadHead];exact af (E8 (k _ _ inst.at_) (ax z))
 have ZV:Looks (model X.prog X.w) s1.heap (isInstance (.ref a) (.type "BaseException")) true:=inst.type.andThen (Fg J.bB c.be);obtain⟨bm,N,nm,qn,bs,BH,sn,sub,ab,col,dd,k0,k1,k2,k3,k5,mN,hC,_⟩:=(vD J.bB q).ex;have ZW:s1.TypeIs (.ref C) "type" :=⟨_,hC,rfl⟩;refine af (ax (af (gw ?_)));unfold excFromValue isExcClass;refine af (af (Jm.here (ax ?_)));refine af (ZV.here (ax ?_));refine af (Jm.here ?_);unfold raisedInstance;refine af (af (inst.type.here (af (oZ ZW ?_))));rw[aB (show(Value.type "type" == Value.type "type")=true from by decide)]
 refine ax ?_;unfold setFlight raiseNew;refine af (af (oY inst.at_ rfl (x:= .none) rfl ?_));rw[ar (show ¬ ((Value.none != Value.none)=true) from by decide)]
 refine ax (af (wpAny_handled_none (J.ok.hd hc) ?_))
 first
  |exact wpAny_throw (fin a C dx H1 s1 J ea hR)
  |exact af (ax (wpAny_throw (fin a C dx H1 s1 J ea hR)))
def cI (P:Program) (w:World):iG:=fun outer H s E e s'=>∃ (a:Addr) (n:Option Value) (C:Addr) (a0:Value) (dx:Option Addr) (H':Hp) (B:Heap),e = .ref a/\s'.os=s.os/\AllBare s'.gens/\Heap.FlyingW B outer a (.ref C) a0 s'.heap /\
 (∃ox,s'.heap.get? a=some ox/\ox.dict=dx/\(∀y,n=some y->sE ox=some y))/\(∀h',B.StaysIn h'->s'.heap.UpToSlots h'->Un (d9 outer) [] H H' s.heap h'/\b3 P w H' h')/\H' a=none/\s.heap.get? a=none/\E (.ref C) (some a) (upd H' a (kH n C dx a))
theorem r8 {α:Type}{M:Model}{t:Sem α}{Q Q':α->Shared->Prop} (k:KD t) (h:wpAny M A t Q E s) (q:∀v s',Q v s'->RD s.heap s'.heap->Q' v s'):wpAny M A t Q' E s:=
 j6 (UA k h) (fun v s' z=>q v s' z.1 z.2) fun _ _ z=>z.1
section
variable{E:XK}
def SW (K:Frag) (H0:Hp) (E:XK) (te:TE):TS:=fun _ σ H=>te σ H fun v H1=>∃a C dx i,v = .ref a/\H1 a=some (cy C dx a)/\(∀d,dx=some d -> ∃fs,H1 d=some (gF d fs))/\f6 K C/\iB K C i=true/\H0 a=none/\E (.ref C) (some a) (upd H1 a (kH (some .none) C dx a))
theorem QN (he:PE (fh (cI P w) P w K mg base N qual scope f cd A outer s H E) e te) :
  PS (fh (cI P w) P w K mg base N qual scope f cd A outer s H E) (.Raise (some e) none pos) (SW K H E te):=by
 intro pins s1 σ H1 D I h;refine Pj (R:=fun a C dx H2=>H a=none/\E (.ref C) (some a) (upd H2 a (kH (some .none) C dx a))) I rfl he h fun a C dx H2 s2 J ea ⟨h0,hE⟩=>?_;have fr:s2.heap.FunFrames base (envOfC qual scope s.heap.objs.size f cd::outer):=J.stack;have all:∀env∈(envOfC qual scope s.heap.objs.size f cd::outer),∀b,env.frame=some b->b∈a::d9 (envOfC qual scope s.heap.objs.size f cd::outer):=fun env m b hb=>bU _ (u7.mpr ⟨env,m,hb⟩);obtain⟨t,at_⟩:=J.excAt ea;have new:s.heap.get? a=none:=by
  have ub:Un (d9 outer) [] H H2 s.heap s2.heap:=J.base;cases q:s.heap.get? a with
  |none=>rfl
  |some o =>
   have:=ub.free a o q h0 (by simp)
   rw[ea]at this;cases this
 show wpAny (model P w) _ (leaving _ (.ref a)) _ _ _;refine r8 Gg (wpAny_leaving_firstW (Q:=fun _ s'=>∃h',s'={ s2 with heap:=h' }/\Heap.LeftW (hideAll s2.heap (a::d9 (envOfC qual scope s.heap.objs.size f cd::outer))) (envOfC qual scope s.heap.objs.size f cd::outer) a (.ref C) (.ref t) s2.heap h') (base:=hideAll s2.heap (a::d9 (envOfC qual scope s.heap.objs.size f cd::outer))) (L:=s.heap.objs.size) (a0:= .ref t) J.ok.frames (funFrames_hide fr all) rfl at_ (fun b o q=>of_hideAll _ q) (hideAll_none _ br) rfl rfl rfl fun h' hL=>⟨h',rfl,hL⟩) fun _ s' ⟨h',es,hL⟩ rd=>?_;subst es;obtain⟨k1,⟨_,_,k2⟩,k3,k4⟩:=hL;have fl:Heap.FlyingW (hideAll s2.heap (a::d9 (envOfC qual scope s.heap.objs.size f cd::outer))) outer a (.ref C) (.ref t) h':=⟨k1,hideAll_none _ br,k2,k3⟩;obtain⟨ox,kS,_⟩:=fl.there;refine⟨a,some .none,C,.ref t,dx,jg H2 a,hideAll s2.heap (a::d9 (envOfC qual scope s.heap.objs.size f cd::outer)),rfl,J.os,J.bare,fl,⟨ox,kS,(rd.dict at_ kS).1,fun y ey=>by cases ey;exact(rd.dict at_ kS).2⟩,fun gL kb up=>?_,by unfold jg;rw[aB rfl],new,by rw[RH];exact hE⟩
 exact J.hidden rfl rfl rfl ea h0 kb (Fy k4 up)
end
theorem aW.Dz {k:Nat} (F:aW K x qual st f fd) (S:bx N ps (aN st)) (len:∀vs H Q E,sp vs H Q E->vs.length=ps.length)
  (nH:∀ (aF:Value) (A:Around) (outer:List Env) (s:Shared) (H:Hp) (vs:List V) (Q:VK) (E:XK),aX k (A.deeper (envOfC qual (aN st) s.heap.objs.size f aF))->sp vs H Q E ->
   ∃t,dH (fh (cI P w) P w K mg base N qual (aN st) f aF A outer s H E) (bF st) t/\t { nx:=fun _ H'=>Q .aH H',rt:=Q } (start N vs) H):aU P w K mg base (cI P w) (k+1) f fd ps sp:=by
 obtain⟨oc,od,kV,doc,pm,an,aF,ct,g7,rfl,lk,ee⟩:=F.ex;exact Bd lk ee S len fun A outer s H vs Q E hr f9=>nH aF A outer s H vs Q E hr f9
theorem O2 {Q:Bool->Shared->Prop}{i:Option Value}{r:Bool} (X:K.In s.heap) (q:iB K B i=true) (me:mroIn K C (.ref B)=some r) (at_:s.heap.get? a=some ox) (cl:ox.cls = .ref C) (h:Q r s) :
  wpAny (model P w) A (excMatches (.ref a) (.ref B)) Q E s:=by
 obtain⟨bm,N,nm,qn,bs,BH,sn,sub,ab,col,dd,k0,k1,k2,k3,k5,mN,hC,_,_,T⟩:=(vD X q).ex;have L:Looks (model P w) s.heap (isSubtype (.ref C) (.ref B)) r:=Fg X me;obtain⟨hh,g,d,tk,os⟩:=s;have hT:bm.contains (.type "BaseException")=true:=T.hasType (by decide)
 have ZX:(Value.ref B::bm).contains (.type "BaseException")=true:=by rw[List.contains_cons,hT,Bool.or_true]
 have f:=tc_notTuple;unfold excMatches
 repeat (first|(with_reducible refine zt at_ ?_;rw[cl])|with_reducible refine zt hC ?_|(with_reducible refine wpAny_isSubtype_exc hC ?_;rw[ZX])|(with_reducible refine L.here ?_)|wp_step)
 cases r <;> (wp_walk;exact h)
def Cx.je (X:Cx) (pins:List (Addr×Obj)) (E:St->XK):Cx:={ X with pn:=X.pn++pins,xe:=fun e s'=>∃aI H s1,Inv X pins aI H s1/\cI X.prog X.w X.stack H s1 (E aI) e s' }
section
variable{sr:List (Addr×Obj)}{E:St->XK}
theorem Inv.je (I:Inv X pins σ H s):Inv (X.je pins E) [] σ H s:=
 ⟨⟨I.ok.mod,I.ok.kind,I.ok.glob,I.ok.blt,I.ok.above,I.ok.inj,I.ok.has,I.ok.lY,I.ok.hd,I.ok.frames,I.ok.oh,I.ok.kJ,I.ok.bs,I.ok.jj,I.ok.lN,I.ok.kE,I.ok.gD,I.ok.jQ⟩,I.os,I.bare,I.base,I.loc,I.cell,I.free,I.fY,(fun p hp=>I.pin p (by rw[iw]at hp;exact hp)),I.aj,I.len⟩
theorem Inv.nJ (ok:X.Ok) (I:Inv (X.je pins E) sr σ H s):Inv X pins σ H s:=
 ⟨ok,I.os,I.bare,I.base,I.loc,I.cell,I.free,I.fY,(fun p hp=>I.pin p (j5 _ hp)),I.aj,I.len⟩
theorem Cx.Ok.Vw (ok:(X.je pins E).Ok):X.Ok:=⟨ok.mod,ok.kind,ok.glob,ok.blt,ok.above,ok.inj,ok.has,ok.lY,ok.hd,ok.frames,ok.oh,ok.kJ,ok.bs,ok.jj,ok.lN,ok.kE,ok.gD,ok.jQ⟩
theorem SP.nJ {f:Flow} (ok:X.Ok) (h:SP (X.je pins E) sr D f s):SP X pins D f s:=by
 cases f with
 |next=>obtain⟨aI,H',I,q⟩:=h;exact⟨aI,H',I.nJ ok,q⟩
 |brk=>obtain⟨aI,H',I,q⟩:=h;exact⟨aI,H',I.nJ ok,q⟩
 |cont=>obtain⟨aI,H',I,q⟩:=h;exact⟨aI,H',I.nJ ok,q⟩
 |ret u=>obtain⟨v,aI,H',I,r,q⟩:=h;exact⟨v,aI,H',I.nJ ok,r,q⟩
end
section
variable{sF:List (Addr×Obj)}{EE:St->XK}{k:Nat}{p:Pos}{t:TA}
def IU (sp:Sp) (EE:St->XK) (t:TA):TE:=fun σ H Q=>t σ H fun vs H1=>sp vs H1 Q (EE σ)
theorem RI (F:aU X.prog X.w X.K X.mg X.base (cI X.prog X.w) k f fd ps sp) (hr:aX k X.A) (hg:Gl X x) (hm:X.mg x=some (.ref f)) (hk:keepIn X.K (.ref f)=true) (hb:Binds X.K fd ps [])
  (ha:PA (X.je sF EE) (e::es) t) (cq:(x==("__debug__" : Str))=false:=by decide) (he:starEach (e::es) X.env=(false,eval e X.env)::starEach es X.env:=by rfl) (cF:(backTo pos (starEach es X.env)).any (·.1)=false:=by rfl) :
  PE (X.je sF EE) (.Call (.Name x p) (e::es) [] pos) (IU sp EE t):=by
 intro pins s σ H Q I h;refine rg (pI I hg hm ?_ cq);refine callWith_K (h₀:=X.base) I.ok.mod.og hk (ao (ha pos pins s σ H _ I h) fun us s1 ⟨vs,H1,I1,r,q⟩=>⟨I1.bB,?_⟩) he cF;have hl:us.length=ps.length:=by rw[<-r.length];exact F.len _ _ _ _ q
 have LJ:=hb s1 us I1.bB (by rw[iw];exact hl)
 rw[iw]at LJ;refine oW (vb (F.run X.A X.stack s1 H1 ⟨us,[]⟩ us vs _ _ hr I1.wY LJ r q) fun res s2 hq=>?_);cases res with
 |ok fl =>
  cases fl with
  |ret u=>exact I1.after hq
  |next=>exact False.elim hq
  |brk=>exact False.elim hq
  |cont=>exact False.elim hq
 |error ev=>exact⟨σ,H1,s1,I1.nJ I1.ok.Vw,hq⟩
end
theorem vU {M:Model}{Q:Unit->Shared->Prop} (I:Inv X pins σ H s) (hN:X.N.Nodup) (hi:X.N[i]? = some x) (hk:X.env.scope.names.lookup x=some .local)
  (h:∀s',Inv X pins (σ.set i none) H s'->Q () s'):wpAny M A (do bindName X.env x .none;unbindBehindTheSuite X.env x pos) Q E s:=by
 obtain⟨m,hn,hl⟩:=id I.loc;have Bw:(X.env.scope.kind == .class || (X.env.scope.kind == .module && X.env.locals != X.env.globals))=false:=by rw[I.ok.kind];rfl
 have jk:=I.jk;refine wpAny_nameGoes_keeps hk hn Bw fun h' v tK hs=>?_;obtain⟨oL,_,_,Li,_⟩:=id hn;have tracked:b3 X.prog X.w H h':=fun b ob e=>by
  refine(I.aj b ob e).eK (fun c w' hc q=>(hs.2 c ?_).trans q) (fun _ q=>q) fun _ _ q=>q;rintro rfl;rcases hc with rfl|hc
  ·rw[I.free]at e;cases e
  ·rw[I.free]at hc;cases hc
 refine h _ ⟨I.ok,I.os,I.bare,⟨fun b o e n hb hx=>?_,fun b o e n hb hx=>?_,I.base.free,fun b o e hx=>?_,I.base.gC,I.base.gW,I.base.ib⟩,⟨_,tK,fun j y v' e1 e2 e3=>?_⟩,fun y c e=>?_,I.free,I.fY,fun p hp=>?_,tracked,by simpa using I.len⟩
 ·exact(hs.2 b (bX (fQ (bq e) I.ok.above))).trans (I.base.keep b o e n hb hx)
 ·obtain⟨sl,e1⟩:=I.base.slot b o e n hb hx
  exact⟨sl,(hs.2 b (bX (fQ (bq e) I.ok.above))).trans e1⟩
 ·obtain⟨o',e1⟩:=I.base.there b o e hx
  exact⟨o',(hs.2 b (bX (fQ (bq e) I.ok.above))).trans e1⟩
 ·by_cases hj:j=i
  ·subst hj
   by_cases aZ:j < σ.length
   ·rw[NZ aZ]at e2;cases e2
   ·rw[Fx (by rw[List.length_set];omega)]at e2;cases e2
  ·rw[N0 (aV hj)]at e2
   obtain⟨u',r',q⟩:=hl j y v' e1 e2 e3;refine⟨u',r',?_⟩;rcases q with⟨k,e⟩|⟨k,c,e,z⟩
   ·refine .inl ⟨k,?_⟩
    have:y≠x:=fun e=>hj (Ad hN e1 (e ▸ hi));simp[this,e]
   ·exact .inr ⟨k,c,e,z.sameBut hs (jk y c e)⟩
 ·obtain⟨w',z⟩:=I.cell y c e
  exact⟨w',z.sameBut hs (jk y c e)⟩
 ·obtain⟨e,n,ne,nf,d⟩:=I.pin p hp
  exact⟨(hs.2 p.1 ne).trans e,n,ne,nf,d⟩
def LK (j:Nat) (D:Ends):Ends:={ nx:=fun σ H=>D.nx (σ.set j none) H,rt:=D.rt,bk:=fun σ H=>D.bk (σ.set j none) H,ct:=fun σ H=>D.ct (σ.set j none) H }
def ZY (K:Frag) (B:Addr) (j:Nat) (th:Addr->TS) (D:Ends):St->XK:=fun aI cls oa H2=>(∃C,cls = .ref C/\mroIn K C (.ref B)=some true) /\ ∃a,oa=some a/\th a (LK j D) (aI.set j (some (.ref a))) H2
section
variable{p5 p6 p7:Pos}{b0 b1:Stmt}{Bh:List Stmt}{tb:Ends->TS}{th:Addr->TS}{ci:Option Value}
def UB (tb:Ends->TS):TS:=fun D σ H=>tb D D σ H
end
section
variable{E:XK}
theorem Bi:Passes (cI P w) (fh (cI P w) P w K mg base N qual scope f cd A outer s H E) E:=by
 rintro pins σ H1 s1 e s2 I ⟨a,n,C,a0,dx,H',B,rfl,os,bare,yw,⟨ox,kS,hd,hz⟩,DA,na,new,hE⟩;show wpAny (model P w) _ (leaving _ (.ref a)) _ _ _;have C6:s1.os=s.os:=I.os;refine r8 Gg (wpAny_leaves_onW (Q:=fun _ s'=>∃h',s'={ s2 with heap:=h' }/\Heap.FlyingW B outer a (.ref C) a0 h'/\s2.heap.UpToSlots h') I.ok.frames rfl yw fun h' fl up=>⟨h',rfl,fl,up⟩) fun _ s' ⟨h',es,fl,up⟩ rd=>?_;subst es;obtain⟨o',fq,_⟩:=fl.there;refine⟨a,n,C,a0,dx,H',B,rfl,os.trans C6,bare,fl,⟨o',fq,(rd.dict kS fq).1.trans hd,fun y ey=>(rd.dict kS fq).2.trans (hz y ey)⟩,fun gL kb u2=>?_,na,?_,hE⟩
 ·obtain⟨u,ok⟩:=DA gL kb (Fy up u2)
  have J:=I.wA (s':={ s2 with heap:=gL }) os u ok bare (fun b z=>absurd z (by simp))
  exact⟨J.base,J.aj⟩
 ·cases q:s.heap.get? a with
  |none=>rfl
  |some o =>
   obtain⟨o2,e2⟩:=I.base.there a o q (by show a ∉ ([]:List Addr);simp)
   rw[new]at e2;cases e2
end
end L2
namespace L2
open PySem PySem.W
section
variable{f0:Addr}{E:XK}{k:Nat}{p:Pos}{t:TA}
theorem SX (C:b8 P w K mg base (cI P w) k f fd ps sp x) (hr:aX k (fh (cI P w) P w K mg base N qual scope f0 cd A outer s H E).A) (ha:PA (fh (cI P w) P w K mg base N qual scope f0 cd A outer s H E) (e::es) t) (hg:Gl (fh (cI P w) P w K mg base N qual scope f0 cd A outer s H E) x:=by rfl) (cq:(x==("__debug__" : Str))=false:=by decide) (he:starEach (e::es) (fh (cI P w) P w K mg base N qual scope f0 cd A outer s H E).env=(false,eval e (fh (cI P w) P w K mg base N qual scope f0 cd A outer s H E).env)::starEach es (fh (cI P w) P w K mg base N qual scope f0 cd A outer s H E).env:=by rfl) (cF:(backTo pos (starEach es (fh (cI P w) P w K mg base N qual scope f0 cd A outer s H E).env)).any (·.1)=false:=by rfl):PE (fh (cI P w) P w K mg base N qual scope f0 cd A outer s H E) (.Call (.Name x p) (e::es) [] pos) (Bc sp [] E t):=gU C.G hr hg C.m C.k C.b .nil Bi ha cq he cF
end
section
variable{sF:List (Addr×Obj)}{EE:St->XK}{k:Nat}{p:Pos}{t:TA}
theorem SY (C:b8 X.prog X.w X.K X.mg X.base (cI X.prog X.w) k f fd ps sp x) (hr:aX k X.A) (ha:PA (X.je sF EE) (e::es) t) (hg:Gl X x:=by rfl) (cq:(x==("__debug__" : Str))=false:=by decide) (he:starEach (e::es) X.env=(false,eval e X.env)::starEach es X.env:=by rfl) (cF:(backTo pos (starEach es X.env)).any (·.1)=false:=by rfl):PE (X.je sF EE) (.Call (.Name x p) (e::es) [] pos) (IU sp EE t):=RI C.G hr hg C.m C.k C.b ha cq he cF
end
end L2
namespace L2
open PySem PySem.Spec PyProof.Rows PySem.W HT
theorem KV.get {vs:List (Key×Value)} (r:KV kvs vs) {kv:Key×V} (h:kvs[i]? = some kv):∃v,vs[i]? = some (kv.1,v)/\RelV kv.2 v:=by
 induction r generalizing i with
 |nil=>cases h
 |@cons p q _ _ hp _ ih =>
  cases i with
  |zero=>cases h;exact⟨q.2,by rw[hp.1];rfl,hp.2⟩
  |succ i=>exact ih h
end L2
namespace L2
open PySem PySem.Spec PyProof.Rows PySem.W HS HT
section
variable{fs:List Addr}
theorem QO (aj:b3 P w H h') (u:Un fs [] H H h h'):∀ {as:List Addr}{ks:List (Str×V)},Paired (fun a p=>h.get? a=none/\H a=none /\ ∃key x,h'.get? a=some ({ cls:= .type "tuple",data:= .seq #[key,x] }:Obj)/\RelV (.str p.1) key/\RelV p.2 x) as ks->as.Nodup ->
  ∃H2,Un fs [] H H2 h h'/\b3 P w H2 h'/\aw H H2/\nD H2 (as.map V.ref) ks /\ ∀b,b ∉ as->H2 b=H b:=by
 intro as ks r
 induction r with
 |nil=>exact fun _=>⟨H,u,aj,aw.refl _,.nil,fun _ _=>rfl⟩
 |@cons a p as ks e _ ih =>
  intro nd;obtain⟨na,nd⟩:=gR.mp nd;obtain⟨H2,u2,DB,S2,pv,tZ⟩:=ih nd;obtain⟨n1,n2,key,x,ha,rk,rx⟩:=e;have h2:H2 a=none:=(tZ a na).trans n2;have Sa:aw H2 (upd H2 a (.tup [.str p.1,p.2])):=fun b o e=>by rw[ae (au e h2)];exact e
  refine⟨upd H2 a (.tup [.str p.1,p.2]),u2.add h2 n1,Iy DB h2 ⟨by rw[aT];show 2<=_;decide,[key,x],.cons rk (.cons rx .nil),_,ha,rfl,_,rfl,rfl⟩,fun b o e=>Sa _ _ (S2 _ _ e),.cons ⟨a,rfl,ag⟩ (Paired.imp' (fun _ _ ⟨c,e,q⟩=>⟨c,e,Sa _ _ q⟩) pv),fun b hb=>?_⟩
  rw[ae (show b≠a from fun z=>hb (by rw[z];exact br)),tZ b fun z=>hb (bU _ z)]
end
theorem Pk {ks:List (Str×V)} (h:nD H vs ks):jF H 1 vs (ks.map fun p=>([p.1],[p.2])):=by
 induction h with
 |nil=>exact .nil
 |cons e _ ih=>obtain⟨a,e,q⟩:=e;exact .cons ⟨a,e,q,rfl⟩ ih
theorem Pn {kvs:List (List Str×List V)} (h:jF H 1 vs kvs) (hk:∀p∈kvs,∃k v,p=([k],[v])):∃ks,nD H vs ks/\kvs=ks.map fun p=>([p.1],[p.2]):=by
 induction h with
 |nil=>exact⟨[],.nil,rfl⟩
 |cons e _ ih =>
  obtain⟨a,e,q,_⟩:=e;obtain⟨k,v,rfl⟩:=hk _ br;obtain⟨ks,pv,ek⟩:=ih fun p hp=>hk p (bU _ hp);exact⟨(k,v)::ks,.cons ⟨a,e,q⟩ pv,by rw[ek];rfl⟩
theorem Hl {α β:Type}{R:α->β->Prop}:∀ {as:List α}{bs:List β},as.length=bs.length->(∀ (i:Nat) a b,as[i]? = some a->bs[i]? = some b->R a b)->Paired R as bs
 |[],[],_,_=>.nil
 |[],_::_,h,_=>by simp at h
 |_::_,[],h,_=>by simp at h
 |a::as,b::bs,h,f=>.cons (f 0 a b rfl rfl) (Hl (by simpa using h) fun i x y hx hy=>f (i+1) x y (by simpa using hx) (by simpa using hy))
theorem Hm:∀as:List Addr,Vals (as.map V.ref) (as.map Value.ref)
 |[]=>.nil
 |_::as=>.cons rfl (Hm as)
def UC (te:TE):TE:=fun σ H Q=>te σ H fun v H1=>∃d ks,v = .ref d/\H1 d=some (.dK (hX ks))/\(ks.map (·.1)).Nodup/\ks.length<=63 /\ ∀D ys js H2,H1 D=none->aw H1 H2->H2 D=some (.lst ys)->nD H2 ys js->js.Perm ks->(js.map (·.1)).Pairwise (fun a b=>jW a b=true)->Q (.ref D) H2
theorem OV {p:Pos} (hc:X.calm=true) (hg:Gl X "sorted") (hm:X.mg "sorted" = none) (he:PE X e te) (h1:starEach [.Call (.Attribute e "items" apos) [] [] ia] X.env = [(false,eval (.Call (.Attribute e "items" apos) [] [] ia) X.env)]:=by rfl)
  (sy:attributeBase e "items" X.env (eval e X.env)=eval e X.env:=by rfl) (sA:(apos.endLine==ia.line)=true:=by rfl):PE X (.Call (.Name "sorted" p) [.Call (.Attribute e "items" apos) [] [] ia] [] pos) (UC te):=by
 intro pins s σ H Q I h;refine rg (nj I hg hm (show bootBuiltins "sorted" = some (.builtin "sorted") by decide +kernel) ?_)
 refine N4 ?_ h1 rfl;rw[h1];refine Calls.spliced_cons (?_:wpAny _ _ (eval (.Call (.Attribute e "items" apos) [] [] ia) X.env) _ _ _);refine wpAny_Call_method (T:= "dict") (id:= "dict.items") sy rfl sA F.plainAttrs_dict Fz F.type_dict_items (ao (he pins s σ H _ I h) fun v s1 ⟨y,H1,I1,r1,d,ks,ey,ed,nd,yo,q⟩=>?_);subst ey;cases r1
 obtain⟨hz,hs,vs,rk,oH⟩:=Be I1.aj ed;obtain⟨ep,DC⟩:=oH.dictAt;refine⟨oH.typeIs,oH.mapOf.noDict,?_⟩;refine method_meetsIn Fz F.entry_dict_items rfl (afG ⟨rfl,oH.typeIs,F.args_dict_items_1 _,_,meets_dict_items (bY X.prog X.w) d hs,⟨vs,oH⟩,?_⟩);refine Calls.spliced_nil ?_;have hl:(hX ks).length=vs.length:=rk.length;have DD:ks.length=vs.length:=by rw[<-hl];unfold hX;rw[aJ]
 have k1:∀b ob,s1.heap.get? b=some ob->(s1.heap.push { cls:= .type "dict_items",data:= .fields #[.ref d] }).get? b=some ob:=fun b ob z=>bj _ z;have eU:(s1.heap.push { cls:= .type "dict_items",data:= .fields #[.ref d] }).DictAt (bY X.prog X.w) d vs ep:=DC.push _;have ZZ:(s1.heap.push { cls:= .type "dict_items",data:= .fields #[.ref d] }).IsItemsView s1.heap.objs.size d:=⟨_,cK _ rfl,rfl,rfl⟩;have hsz:s1.heap.objs.size<=(s1.heap.push { cls:= .type "dict_items",data:= .fields #[.ref d] }).objs.size:=by rw[oV];exact j9 _
 refine Hj fun A E Q' hh q'=>?_;refine kdx_collect (knd:=bY X.prog X.w) (s:={ s1 with heap:=s1.heap.push { cls:= .type "dict_items",data:= .fields #[.ref d] } }) (hh (I1.ok.hd hc)) ZZ eU (by rw[aT];omega) fun h' tk as kp la G=>?_
 have k2:∀b ob,s1.heap.get? b=some ob->h'.get? b=some ob:=fun b ob z=>kp _ _ (k1 _ _ z);have fr:∀a∈as,s1.heap.get? a=none/\H1 a=none:=fun a ha=>by
  have:s1.heap.objs.size<=a:=u9 (Nat.lt_of_le_of_lt hsz (G.above a ha));exact⟨zp this,I1.aj.fresh this⟩
 have pr:Paired (fun a (p:Str×V)=>s1.heap.get? a=none/\H1 a=none /\ ∃key x,h'.get? a=some ({ cls:= .type "tuple",data:= .seq #[key,x] }:Obj)/\RelV (.str p.1) key/\RelV p.2 x) as ks:=by
  refine Hl (la.trans DD.symm) fun i a p ha hp=>?_;obtain⟨f1,f2⟩:=fr a (ix ha);obtain⟨key,k,x,e1,e2,e3⟩:=G.pairs i a ha;obtain⟨v,e4,rv⟩:=rk.get (i:=i) (kv:=(Sum.inr p.1,p.2)) (by unfold hX;rw[gS,hp];rfl)
  rw[e4]at e1;cases e1
  exact⟨f1,f2,key,_,e3,AD (k:=Sum.inr p.1) e2,rv⟩
 obtain⟨H2,u2,DB,S2,Z0,_⟩:=QO (I1.aj.kept k2) (Un.kept (fs:=X.fs) k2) pr (G.rise.imp fun h=>bX h);have Z1:((ks.map fun p=>(([p.1],[p.2]):List Str×List V)).map (·.1)).Nodup:=by
  rw[dY];have e:(ks.map ((fun x=>x.1) ∘ fun p=>(([p.1],[p.2]):List Str×List V)))=(ks.map (·.1)).map fun x=>[x]:=by rw[dY];rfl
  rw[e,o6,rA];exact(o6.mp nd).imp fun h z=>h (Oz z).1
 refine q' (as.map Value.ref) _ H2 (as.map V.ref) _ 1 (I1.un (t':=tk) u2 DB) (Hm as) (Pk Z0) (aO _) Z1 (by rw[aJ];omega) fun D cP cU hD pm yj pk yq=>?_
 obtain⟨js,Z2,rfl⟩:=Pn yj fun p hp=>by
  obtain⟨x,_,rfl⟩:=bt.mp (pk.mem_iff.mp hp);exact⟨_,_,rfl⟩
 have SD:aw H2 (upd H2 D (.lst cP)):=fun b o e=>by rw[ae (au e hD)];exact e
 refine q D cP js _ (S2.free hD) (fun b o e=>SD _ _ (S2 _ _ e)) ag (Paired.imp' (fun _ _ ⟨c,e,q⟩=>⟨c,e,SD _ _ q⟩) Z2) ?_ ?_
 ·have:=pk.map fun p:List Str×List V=>((p.1.headD "",p.2.headD V.aH):Str×V)
  rw[dY,dY,show((fun p:List Str×List V=>((p.1.headD "",p.2.headD V.aH):Str×V)) ∘ fun p:Str×V=>(([p.1],[p.2]):List Str×List V))=id from rfl,FA,FA]at this;exact this
 ·rw[dY,rA]at yq
  rw[rA];exact yq.imp fun {a b} h=>by rw[<-SM];exact h
end L2
namespace L2
open PySem PySem.Spec PyProof.Rows PySem.W HT
theorem O3 (d:Addr) (hd:(d==sysModules)=false) :
  MeetsIn P w (Builtin.«dict.items» ⟨[.ref d],[]⟩) (fun _ R s=>(∃es ep,nN s.heap d es ep)/\R (.ok (.ret (.ref s.heap.objs.size))) { s with heap:=s.heap.push { cls:= .type "dict_items",data:= .fields #[.ref d] } }):=
 .of_wp fun A R s ⟨⟨es,ep,hm⟩,h⟩=>by
  unfold Builtin.«dict.items»;refine af ?_;unfold Builtin.Dict.noArgs;refine af (wpAny_notOrdered_dict hm.ty ?_);show wpAny _ _ (pure d) _ _ s;refine ax ?_;show wpAny _ _ (Builtin.Dict.showsAll d >>= _) _ _ s;unfold Builtin.Dict.showsAll;rw[ar (by rw[hd];exact cz)]
  exact af (ax (af (lg (ax ⟨_,rfl,h⟩))))
theorem Po {v:Addr}{es:Array DictEntry} (hv:s.heap.IsItemsView v d) (x:nN s.heap d es ep)
  (hQ:Q (.ref s.heap.objs.size) { s with heap:=s.heap.push { cls:= .type "dict_itemiterator",data:= .fields #[.none,.bool false,.ref d,.int 0 0,.int es.size 0,.int ep 0,.none,.none] } }):wpAny (model P w) A (pyIter (.ref v)) Q E s:=by
 obtain⟨ov,Z3,hcv,Z4⟩:=id hv;obtain⟨o,ho,hc,J1⟩:=id x;refine wpAny_pyIter_slot hv.typeIs F.slot_dict_items_iter (rh F.slot_dict_items_iter hv.typeIs F.entry_dict_items_iter ?_ (F.args_dict_items_iter_1 _));unfold Builtin.«dict_items.__iter__»;refine af (ax (af ?_));unfold Builtin.Dict_items.dictOf;refine af (oY Z3 Z4 (x:= .ref d) rfl (ax (af ?_)));unfold Builtin.Dict_items.newIterator;refine af (OA ho J1 (af (OB ho J1 ?_)));simp only[show Builtin.Dict_items.ownsTuple "dict_itemiterator" = true by decide,i9]
 refine lg (ax ⟨_,rfl,"dict_itemiterator",_,⟨_,cK _ rfl,rfl⟩,zy.lookup,?_⟩) (by simp only[sizeOk,Builtin.Dict_items.ownedTupleFields,cf,e7,gi,jx,aT];omega)
 simpa [rawInt,Builtin.Dict_items.ownedTupleFields] using hQ
theorem Pp {es:Array DictEntry}{e:DictEntry}{ok ov:Value}{Q:Option Value->Shared->Prop} (hit:IsItemIter s.heap it d i es.size ep ok ov) (x:nN s.heap d es ep) (hx:es[i]? = some e)
  (hQ:∀h',IsItemIterOut h' it d (i+1) es.size ep e.key e.val s.heap.objs.size->h'.get? s.heap.objs.size=some { cls:= .type "tuple",data:= .seq #[e.key,e.val] }->h'.objs.size=s.heap.objs.size+1 ->
   (∀b o,b≠it->s.heap.get? b=some o->h'.get? b=some o)->Q (some (.ref s.heap.objs.size)) { s with heap:=h' }):wpAny (model P w) A (pyNext (.ref it)) Q E s:=by
 obtain⟨hp,g,dr,tk,os⟩:=s;obtain⟨od,iI,ee,mz⟩:=id x;have hT:Shared.TypeIs ⟨hp,g,dr,tk,os⟩ (.ref it) "dict_itemiterator" :=⟨_,hit,rfl⟩;unfold pyNext;refine af (Fh (Fc (name:=Str.ofString "__next__") hT zy
  (rh zy hT afJ ?_ (afK _))))
 refine af (ax (af (af ?_)))
 first|refine af (FC hT (ax ?_))|refine af (FE hT (ax ?_))
 refine af (wpAny_fieldsOf hit rfl ?_);simp only[show Builtin.Dict_items.ownsTuple "dict_itemiterator" = true by decide,i9]
 show wpAny _ _ (if (Value.ref d==Value.none)=true then _ else _) _ _ _;rw[ar (show ¬ ((Value.ref d==Value.none)=true) from cz)];refine af (ax (af (OA iI mz ?_)));rw[ar (by simp)]
 refine af (ax (af (OB iI mz ?_)));rw[ar (by simp)]
 refine ax ?_;simp only[show ¬ ((i:Int) < 0) from by omega,oX,Fb,hx]
 refine af ?_
 first|refine af (FC hT (ax ?_))|refine af (FE hT (ax ?_))
 refine af (OC hT ?_);show wpAny _ _ (setField (.ref it) 3 (rawInt ((i:Int)+1)) >>= _) _ _ ⟨hp,g,dr,tk,os⟩;refine af (zA hit (by simp) fun jL sG sH=>?_)
 replace sH:Heap.SameBut it hp jL:=sH;replace sG:IsItemIter jL it d (i+1) es.size ep ok ov:=by
  have e:((i+1:Nat):Int)=(i:Int)+1:=by omega
  unfold IsItemIter;rw[e];simpa [rawInt] using sG
 have Bj:Shared.TypeIs ⟨jL,g,dr,tk,os⟩ (.ref it) "dict_itemiterator" :=⟨_,sG,rfl⟩;refine af (gw ?_);refine af (OC Bj (af (OC Bj ?_)));show wpAny _ _ (Builtin.Dict_items.pairFromOwner (.ref it) 6 e.key e.val) _ _ ⟨jL,g,dr,tk,os⟩;unfold Builtin.Dict_items.pairFromOwner;refine af (wpAny_newTuple ?_);have sI:IsItemIter (jL.push { cls:= .type "tuple",data:= .seq #[e.key,e.val] }) it d (i+1) es.size ep ok ov:=bj _ sG;generalize wG:jL.push { cls:= .type "tuple",data:= .seq #[e.key,e.val] }=kF at sI;have wH:jL.objs.size=hp.objs.size:=sH.1;have ck:it < hp.objs.size:=bq hit;have Vx:kF.get? hp.objs.size=some { cls:= .type "tuple",data:= .seq #[e.key,e.val] }:=by rw[<-wG,<-wH];exact cK _ rfl
 have Vy:kF.objs.size=hp.objs.size+1:=by rw[<-wG,oV,wH]
 have Vz:∀b o,b≠it->hp.get? b=some o->kF.get? b=some o:=fun b o hb e=>by rw[<-wG];exact bj _ (sH.extBut b o hb e)
 show wpAny _ _ (Builtin.Dict_items.ownedTupleIsFree (.ref it) >>= _) _ _ ⟨kF,g,dr,tk,os⟩;rw[wH];clear wG sG sH Bj wH jL;refine af ?_;unfold Builtin.Dict_items.ownedTupleIsFree;refine af (oY sI rfl (x:= .none) rfl (ax ?_));simp only[i9];refine af (oY sI rfl (x:=ok) rfl (af (oY sI rfl (x:=ov) rfl ?_)));refine af (zA sI (by simp) fun sU Bm sJ=>?_)
 replace sJ:Heap.SameBut it kF sU:=sJ;replace Bm:IsItemIter sU it d (i+1) es.size ep e.key ov:=Bm;refine af (zA Bm (by simp) fun BM Bn sL=>?_)
 replace sL:Heap.SameBut it sU BM:=sL;replace Bn:IsItemIter BM it d (i+1) es.size ep e.key e.val:=Bn;refine af (zA Bn (by simp) fun BN Bo sM=>?_)
 replace sM:Heap.SameBut it BM BN:=sM;replace Bo:IsItemIterOut BN it d (i+1) es.size ep e.key e.val hp.objs.size:=Bo;refine af (zA Bo (by simp) fun xa Bp sN=>?_)
 replace sN:Heap.SameBut it BN xa:=sN;replace Bp:IsItemIterOut xa it d (i+1) es.size ep e.key e.val hp.objs.size:=Bp;refine af (wpAny_letGo (ax (ax ⟨_,rfl,ax (hQ xa Bp ?_ ?_ ?_)⟩)))
 ·exact sN.extBut _ _ (oU ck) (sM.extBut _ _ (oU ck) (sL.extBut _ _ (oU ck) (sJ.extBut _ _ (oU ck) Vx)))
 ·show xa.objs.size=hp.objs.size+1
  rw[sN.1,sM.1,sL.1,sJ.1,Vy]
 ·exact fun b o hb e=>sN.extBut b o hb (sM.extBut b o hb (sL.extBut b o hb (sJ.extBut b o hb (Vz b o hb e))))
theorem Pq {es:Array DictEntry}{ok ov:Value}{Q:Option Value->Shared->Prop} (hh:A.handled=none) (hit:IsItemIter s.heap it d es.size es.size ep ok ov) (x:nN s.heap d es ep)
  (hQ:∀h',Heap.ExtBut it s.heap h'->Q none { s with heap:=h' }):wpAny (model P w) A (pyNext (.ref it)) Q E s:=by
 obtain⟨od,iI,ee,mz⟩:=id x;have hT:s.TypeIs (.ref it) "dict_itemiterator" :=⟨_,hit,rfl⟩;unfold pyNext;refine af (Fh (Fc (name:=Str.ofString "__next__") hT zy
  (rh zy hT afJ ?_ (afK _))))
 refine af (ax (af (af ?_)))
 first|refine af (FC hT (ax ?_))|refine af (FE hT (ax ?_))
 refine af (wpAny_fieldsOf hit rfl ?_);simp only[show Builtin.Dict_items.ownsTuple "dict_itemiterator" = true by decide,i9]
 show wpAny _ _ (if (Value.ref d==Value.none)=true then _ else _) _ _ s;rw[ar (show ¬ ((Value.ref d==Value.none)=true) from cz)];refine af (ax (af (OA iI mz ?_)));rw[ar (by simp)]
 refine af (ax (af (OB iI mz ?_)));rw[ar (by simp)]
 refine ax ?_;simp only[show ¬ ((es.size:Int) < 0) from by omega,oX,Fb,Array.getElem?_eq_none (aO es.size)]
 refine af ?_
 first|refine af (FC hT (ax ?_))|refine af (FE hT (ax ?_))
 show wpAny _ _ (setField (.ref it) 2 .none >>= _) _ _ s;refine af (wpAny_setField hit rfl (by simp) ?_)
 show wpAny _ _ (newExc (.type "StopIteration") [] >>= _) _ _ _;refine af ?_;simp only[newExc,newTuple];refine af (lg ?_ (by size_fits))
 refine af (m:=firstArgMember _ _) (wpAny_of_eq (a:=Value.none) (by first|rfl|(simp only[firstArgMember];rfl)) ?_)
 refine lg ?_ (by size_fits)
 simp only[raiseNew];refine af (wpAny_handled ?_);rw[show A.in1.handled=none from hh];refine af (ax (wpAny_throw ?_));refine af (wpAny_isInstance (T:= "StopIteration") (b:=true) ⟨_,cK _ rfl,rfl⟩ isSubtype_stop ?_);exact ax (hQ _ (((Ov ..).extBut.push _).push _))
def DE (d:Addr) (o:Obj) (kvs:List (List Key×V)):It:=⟨fun i H=>H d=some (.a6 o (.dT kvs))/\i < kvs.length,fun i H x H'=>∃t kv b,H t=none/\x = .ref t/\kvs[i]? = some kv/\H b=some (.tup (kv.1.map kV))/\H'=upd H t (.tup [.ref b,kv.2]),fun i H=>H d=some (.a6 o (.dT kvs))/\kvs.length<=i⟩
theorem HN {kvs:List (List Key×V)}{es:Array DictEntry} (I:Inv X pins σ H s) (hd:H d=some (.a6 o (.dT kvs))) (eU:o.data = .dict es ep) :
  s.heap.get? d=some o/\o.ExactDict/\es.size=kvs.length /\ ∀ (i:Nat) (kv:List Key×V),kvs[i]? = some kv -> ∃ (b:Addr) (e:DictEntry),es[i]? = some e/\e.key = .ref b/\H b=some (.tup (kv.1.map kV))/\RelV kv.2 e.val:=by
 obtain⟨h1,z,y,xs,r,o',oi,qr,h2,h3,h4,h5,h6⟩:=(show a9 X.prog X.w H s.heap d (.a6 o (.dT kvs)) from I.aj d _ hd);rw[h1]at h2;cases h2
 rw[eU]at h4;cases h4
 refine⟨h1,h3,by rw[size_of_entries h5];exact(eu r).symm,fun i kv hk=>?_⟩
 obtain⟨x,hx,e1,e2,e3⟩:=Paired.get r hk;exact⟨x.2.1,_,by rw[entry_at h5,hx];rfl,rfl,e2,e3⟩
theorem RJ (d it:Addr) (bC:d≠it) (o:Obj) (kvs:List (List Key×V)) (es:Array DictEntry) (ep:Nat) (eU:o.data = .dict es ep) :
  Turn P w K (.Tuple elts n1 tp) (DE d o kvs) [it] it (fun i h=>i<=kvs.length /\ ∃ok ov,IsItemIter h it d i es.size ep ok ov) where
 mem:=by simp
 obj:=fun i h st b hb=>by
  obtain rfl:b=it:=by simpa using hb
  obtain⟨_,ok,ov,h1⟩:=st;exact⟨_,h1,fun v q=>by cases q⟩
 keep:=fun i h h' st k=>by
  obtain⟨l,ok,ov,h1⟩:=st;exact⟨l,ok,ov,k it (by simp) _ h1⟩
 item:=by
  intro X hP hw hK hc i pins s σ H E I hf st hg;subst hP hw hK;have fi:=hf it (by simp)
  obtain⟨hle,ok,ov,h1⟩:=st;obtain⟨g1,g2,g3,g4⟩:=HN I hg.1 eU;have ck:i < kvs.length:=hg.2;have t8:kvs[i]? = some kvs[i]:=bK hg.2;obtain⟨b,e,he,hk,hb,rv⟩:=g4 i _ t8;refine Pp h1 ⟨o,g1,g2,eU⟩ he fun h' e1 t1 z1 k1=>⟨_,rfl,?_⟩;refine wpAny_letOwnedTupleGo_items (s:={ s with heap:=h' }) e1 fun gL e2 sb=>?_;have eS:it≠s.heap.objs.size:=bX (bq h1);have k2:∀b o,b≠it->s.heap.get? b=some o->gL.get? b=some o:=fun b o n1 q=>(sb.2 b n1).trans (k1 b o n1 q);have t2:gL.get? s.heap.objs.size=some { cls:= .type "tuple",data:= .seq #[e.key,e.val] }:=(sb.2 _ (aV eS)).trans t1;have hn:H s.heap.objs.size=none:=I.aj.fresh (aO _);have lt:∀b o,s.heap.get? b=some o->b≠s.heap.objs.size:=fun b o q=>bX (bq q);have iX:∀b o,H b=some o->b≠it:=fun b o q z=>by rw[z,fi.1]at q;cases q
  have gG:∀b,b ∉ [it]->b≠it:=fun b hb z=>hb (by simp[z])
  have J:Inv X pins σ (upd H s.heap.objs.size (.tup [.ref b,kvs[i].2])) { s with heap:=gL }:=by
   refine I.step (g':=s.gens) (d':=s.drawn) (t':=s.toks) (ch:= [it]) (fun b hb=>?_) (fun b o _ _ hc q _=>k2 b o (gG b hc) q) (fun b o _ _ hc q _=>⟨o.slots,k2 b o (gG b hc) q⟩)
    (fun b o _ q n=>by rw[ae (lt b o q)];exact n) (fun b o hc q=>⟨o,k2 b o (gG b hc) q⟩) (fun b ys q=>by rw[ae (au q hn)];exact q) (fun b o v q=>by rw[ae (au q hn)];exact q)
    (fun b ps q=>⟨#[],by rw[ae (au q hn),q];simp⟩) (fun m hm=>?_) (fun b o q=>?_) I.bare
   ·obtain rfl:b=it:=by simpa using hb
    exact⟨fi.2.2.2.1,fi.2.1,fi.2.2.2.2.1,fi.2.2.2.2.2⟩
   ·obtain⟨o,es,ep,ho,r⟩:=hm
    exact⟨o,es,ep,k2 _ o (aV fi.2.1) ho,r⟩
   ·by_cases hb:b=s.heap.objs.size
    ·subst hb
     rw[ag]at q;cases q;exact⟨by rw[aT];show 2<=_;decide,[e.key,e.val],.cons (by rw[hk];rfl) (.cons rv .nil),_,t2,rfl,_,rfl,rfl⟩
    ·rw[ae hb]at q
     refine(I.aj b o q).eK (fun c v hc z=>?_) (fun c z=>by rw[ae (au z hn)];exact z) fun c ys z=>by rw[ae (au z hn)];exact z
     rcases hc with hc|hc
     ·subst hc;exact k2 _ v (iX _ _ q) z
     ·exact k2 c v (iX _ _ hc) z
  refine⟨.ref s.heap.objs.size,_,J,rfl,⟨s.heap.objs.size,kvs[i],b,hn,rfl,t8,hb,rfl⟩,⟨hg.2,_,_,e2⟩,fun b hb=>?_⟩;obtain rfl:b=it:=by simpa using hb
  rw[ae eS];exact fi.1
 done:=by
  intro X hP hw hK hc i pins s σ H E I hf st hg;subst hP hw hK;have fi:=hf it (by simp)
  obtain⟨hle,ok,ov,h1⟩:=st;obtain⟨g1,g2,g3,g4⟩:=HN I hg.1 eU;have ei:i=es.size:=by rw[g3];exact Om hle hg.2
  rw[ei]at h1;exact Pq (I.ok.hd hc) h1 ⟨o,g1,g2,eU⟩ fun h' eb=>⟨rfl,I.turned (t':=s.toks) (fun b o hb q=>eb b o hb q) fi.1 fi.2.1 fi.2.2.2.1 fi.2.2.2.2.1 fi.2.2.2.2.2⟩
 self:=fun _ _ _ _ _ st h=>by
  obtain⟨_,ok,ov,h1⟩:=st;exact kcp_self h1 h
def Ta (te:TE):TI:=fun σ H R=>te σ H fun v H1=>∃d kvs,v = .ref d/\H1 d=some (.dT kvs) /\ ∀o,R (DE d o kvs) (upd H1 d (.a6 o (.dT kvs)))
theorem QP (he:PE X e te) (sy:attributeBase e "items" X.env (eval e X.env)=eval e X.env:=by rfl) (sA:(apos.endLine==ia.line)=true:=by rfl) :
  PI X (.Tuple elts n1 tp) (.Call (.Attribute e "items" apos) [] [] ia) (Ta te):=by
 intro pins s σ H R I h;refine wpAny_Call_method (T:= "dict") (id:= "dict.items") sy rfl sA F.plainAttrs_dict Fz F.type_dict_items (ao (he pins s σ H _ I h) fun v s1 ⟨y,H1,I1,r1,d,kvs,ey,e,q⟩=>?_);subst ey;cases r1
 obtain⟨z,hs,xs,r,o,es,ep,ho,hx,eU,h4,h5⟩:=(show a9 X.prog X.w H1 s1.heap d (.dT kvs) from I1.aj d _ e);have raw:∀h:Heap,h.get? d=some o->nN h d es ep:=fun h e=>⟨o,e,hx,eU⟩;refine⟨(raw s1.heap ho).ty,?_,?_⟩
 ·intro a e
  cases e
  exact⟨o,ho,hx.2.1⟩
 refine method_meetsIn Fz F.entry_dict_items rfl (afG ⟨rfl,(raw s1.heap ho).ty,F.args_dict_items_1 _,_,O3 d hs,⟨es,ep,raw _ ho⟩,?_⟩);have bC:d≠s1.heap.objs.size+1:=fun z=>absurd (bq ho) (by rw[z];exact Nat.not_lt_of_le (j9 _))
 have iZ:=bj { cls:= .type "dict_items",data:= .fields #[.ref d] } ho;refine Po (s:={ s1 with heap:=s1.heap.push { cls:= .type "dict_items",data:= .fields #[.ref d] } }) ⟨_,cK _ rfl,rfl,rfl⟩ (raw _ iZ) ?_;have ez:(s1.heap.push { cls:= .type "dict_items",data:= .fields #[.ref d] }).objs.size=s1.heap.objs.size+1:=oV ..;have I2:Inv X pins σ H1 { s1 with heap:=(s1.heap.push { cls:= .type "dict_items",data:= .fields #[.ref d] }).push { cls:= .type "dict_itemiterator",data:= .fields #[.none,.bool false,.ref d,.int 0 0,.int es.size 0,.int ep 0,.none,.none] } }:=I1.kept (t':=s1.toks) fun b ob z=>bj _ (bj _ z);have st:0<=kvs.length /\ ∃ok ov,IsItemIter ((s1.heap.push { cls:= .type "dict_items",data:= .fields #[.ref d] }).push { cls:= .type "dict_itemiterator",data:= .fields #[.none,.bool false,.ref d,.int 0 0,.int es.size 0,.int ep 0,.none,.none] }) (s1.heap.objs.size+1) d 0 es.size ep ok ov:=
  ⟨bw _,.none,.none,by show Heap.get? _ (s1.heap.objs.size+1)=_;rw[<-ez];exact cK _ rfl⟩
 have yn:H1 (s1.heap.objs.size+1)=none:=I1.aj.fresh (j9 _);show C0 X pins σ _ R (.ref (s1.heap.push { cls:= .type "dict_items",data:= .fields #[.ref d] }).objs.size) _;rw[ez];refine⟨s1.heap.objs.size+1,[s1.heap.objs.size+1],_,_,_,rfl,I2.SO e (bj _ iZ),RJ d (s1.heap.objs.size+1) bC o kvs es ep eU,st,fun b hb=>?_,q o⟩;obtain rfl:b=s1.heap.objs.size+1:=by simpa using hb
 exact I1.iS (j9 _) (by rw[ae (aV bC)];exact yn)
theorem Pr {kvs:List (List Key×V)}{g:TG}{Q:VK} (Pv:Nat->List V->St->Hp->Prop) (h0:Pv 0 [] gH (upd H1 p (.lst []))) (hl:∀i ys τ H,Pv i ys τ H->H p=some (.lst ys)/\H d=some (.a6 o (.dT kvs)))
  (hs:∀i kv t b ys τ H,kvs[i]? = some kv->H t=none->H b=some (.tup (kv.1.map kV))->Pv i ys τ H->g (.ref t) τ (upd H t (.tup [.ref b,kv.2])) fun bV H4=>ti bV H4 fun b H5=>if b=true then te bV H5 fun y H6=>H6 p=some (.lst ys)/\ys.length < sizeLine /\ ∃m',m' < kvs.length - i/\CW Pv kvs.length (i+1) m' (ys ++ [y]) bV (upd H6 p (.lst (ys ++ [y]))) else ∃m',m' < kvs.length - i/\CW Pv kvs.length (i+1) m' ys bV H5)
  (hd:∀ys τ H,Pv kvs.length ys τ H->Q (.ref p) H):jI (DE d o kvs) g ti te gH Q p H1:=by
 refine⟨CW Pv kvs.length,⟨kvs.length,by simp,bw _,h0⟩,?_⟩
 rintro i m ys τ H ⟨rfl,hi,pv⟩;obtain⟨hp,hq⟩:=hl i ys τ H pv;refine⟨hp,?_⟩
 by_cases aZ:i < kvs.length
 ·refine .inr ⟨⟨hq,aZ⟩,fun x H3 y3=>?_⟩
  obtain⟨t,kv,b,ht,ex,d5,hb,e3⟩:=y3;subst e3;subst ex;exact hs i kv t b ys τ _ d5 ht hb pv
 ·have e:i=kvs.length:=by omega
  subst e;exact .inl ⟨⟨hq,aO _⟩,hd ys τ H pv⟩
theorem Inv.VA {σ:List (Option V)} (I:Inv X pins σ H s) (hd:H d=some (.a6 o (.dK kvs))) (h0:∀o u,X.iR d≠some (.a6 o u)):Inv X pins σ (upd H d (.dK kvs)) s:=by
 obtain⟨_,ok⟩:=(show a9 X.prog X.w H s.heap d (.a6 o (.dK kvs)) from I.aj d _ hd);have nd:∀ {b:Addr}{u:HO},H b=some u->u ≠ .a6 o (.dK kvs)->b≠d:=fun e n z=>by rw[z,hd]at e;exact n (eF e).symm
 have nn:∀ {b:Addr},H b=none->upd H d (.dK kvs) b=none:=fun {b} e=>by rw[ae (fun z=>by rw[z,hd]at e;cases e)];exact e
 refine⟨I.ok,I.os,I.bare,⟨I.base.keep,I.base.slot,fun b ob e n hx=>nn (I.base.free b ob e n hx),I.base.there,fun b xs e=>?_,fun b ob u e=>?_,fun b ps e=>?_⟩,I.loc,I.cell,nn I.free,fun x c e=>nn (I.fY x c e),fun p hp=>?_,fun b u e=>?_,I.len⟩
 ·rw[ae (nd (I.base.gC b xs e) (by intro z;cases z))];exact I.base.gC b xs e
 ·have hb:b≠d:=fun z=>h0 ob u (z ▸ e)
  rw[ae hb];exact I.base.gW b ob u e
 ·obtain⟨more,e2⟩:=I.base.ib b ps e
  exact⟨more,by rw[ae (nd e2 (by intro z;cases z))];exact e2⟩
 ·obtain⟨a1,a2,a3⟩:=I.pin p hp
  exact⟨a1,nn a2,a3⟩
 ·by_cases hb:b=d
  ·subst hb
   rw[ag]at e;cases e
   exact ok.eK (fun _ _ _ q=>q) (fun c q=>by rw[ae (nd q (by intro z;cases z))];exact q) fun c xs q=>by rw[ae (nd q (by intro z;cases z))];exact q
  ·rw[ae hb]at e
   exact(I.aj b u e).eK (fun _ _ _ q=>q) (fun c q=>by rw[ae (nd q (by intro z;cases z))];exact q) fun c xs q=>by rw[ae (nd q (by intro z;cases z))];exact q
def UD (H0:Hp) (t:TE):TE:=fun σ H Q=>t σ H fun v H'=>∃d o kvs,H' d=some (.a6 o (.dK kvs))/\(∀o u,H0 d≠some (.a6 o u))/\Q v (upd H' d (.dK kvs))
theorem RK (he:PE X e te):PE X e (UD X.iR te):=by
 intro pins s σ H Q I h;exact ao (he pins s σ H _ I h) fun v s1 ⟨y,H1,I1,r1,d,o,kvs,e1,h0,q⟩=>⟨y,_,I1.VA e1 h0,r1,q⟩
mutual
theorem Dt.pW {p q:Addr}{H H':Hp} (k:∀b o,H b=some o->b≠p->H' b=some o):∀ {v:V}{d:PyData},Dt q H v d->Dt p H v d->Dt q H' v d
 |_,_,.aH,_=>.aH
 |_,_,.bl b,_=>.bl b
 |_,_,.int i,_=>.int i
 |_,_,.str x,_=>.str x
 |_,_,.lst n e rs,h=>by
  cases h with|lst n' e' ua=>rw[e]at e';cases e';exact .lst n (k _ _ e n') (cG.pW k rs ua)
 |_,_,.tup n e rs,h=>by
  cases h with|tup n' e' ua=>rw[e]at e';cases e';exact .tup n (k _ _ e n') (cG.pW k rs ua)
 |_,_,.my n e,h=>by cases h with|my n' e'=>exact .my n (k _ _ e n')
theorem cG.pW {p q:Addr}{H H':Hp} (k:∀b o,H b=some o->b≠p->H' b=some o):∀ {vs:List V}{ds:List PyData},cG q H vs ds->cG p H vs ds->cG q H' vs ds
 |_,_,.nil,_=>.nil
 |_,_,.cons r rs,.cons r' ua=>.cons (Dt.pW k r r') (cG.pW k rs ua)
end
end L2
namespace L2
open PySem PySem.Spec PyProof.Rows PySem.W
section
variable{p5 p6 p7:Pos}{b0 b1:Stmt}{Bh:List Stmt}{tb:Ends->TS}{th:Addr->TS}{ci:Option Value}
theorem QQ {more:List ExceptHandler} (hb:∀pins D,dH (X.je pins (ZY X.K C j th D)) (b1::body) (tb D))
  (hN:X.N.Nodup) (hj:X.N[j]? = some n) (hn:X.env.scope.names.lookup n=some .local) (h0:X.xe=fun _ _=>False) (hc:X.calm=true) (hs:X.stack=X.env::X.outer) (hf:X.env.frame=some X.env.locals)
  (gc:Gl X cn) (mc:X.mg cn=some (.ref C)) (qc:iB X.K C ci=true) (hh:∀a,dH (X.nC a) (b0::Bh) (th a)) (Z5:(cn==("__debug__" : Str))=false:=by decide) :
  PS X (.Try (b1::body) (.ExceptHandler (some (.Name cn p5)) (some n) (b0::Bh) p6::more) [] [] p7) (UB tb):=by
 intro pins s σ H D I h;refine wpAny_Try_except ?_;refine j6 (hb pins D [] s σ H D I.je h) (fun fl s1 z=>?_) fun ev s2 z=>?_
 ·have z':=SP.nJ I.ok z
  cases fl with
  |next=>exact va z'
  |brk=>exact z'
  |cont=>exact z'
  |ret u=>exact z'
 ·obtain⟨aI,H0,s1,I1,a,nn,C',a0,dx,H',B,rfl,os,bare,yw,⟨ox,kS,hd,hz⟩,DA,na,new,⟨C2,eC,me⟩,a',ea,oJ⟩:=z
  cases ea
  cases eC
  rw[hs]at yw;refine r8 Iw (wpAny_looks_onW (Q:=fun _ s'=>∃h',s'={ s2 with heap:=h' }/\Heap.HeldW B (X.env::X.outer) a (.ref C') a0 X.env.locals h'/\s2.heap.UpToSlots h') (by rw[<-hs];exact I1.ok.frames) hf yw fun h3 held mE=>⟨h3,rfl,held,mE⟩) fun _ s3 ⟨h3,e3,held,mE⟩ Z6=>?_
  subst e3;refine r8 zL (wpAny_landsW (Q:=fun _ s'=>∃h',s'={ s2 with heap:=h' }/\Heap.FlyingW B (X.env::X.outer) a (.ref C') a0 h'/\h3.UpToSlots h') held fun h4 sX mF=>⟨h4,rfl,sX,mF⟩) fun _ s4 ⟨h4,e4,sX,mF⟩ Z7=>?_;subst e4;have up:s2.heap.UpToSlots h4:=Fy mE mF;have rd:RD s2.heap h4:=Z6.trans Z7;have lay:∀h5,Heap.FlyingW B (X.env::X.outer) a (.ref C') a0 h5->s2.heap.UpToSlots h5->RD s2.heap h5->Inv X pins aI (upd H' a (kH nn C' dx a)) { s2 with heap:=h5 }:=fun h5 f5 u5 r5=>by
   obtain⟨u,ok⟩:=DA h5 f5.1 u5;obtain⟨o5,e5,_⟩:=f5.there;exact I1.wA (s':={ s2 with heap:=h5 }) os (u.add na new) (Iy ok na (SU f5 ⟨o5,e5,(r5.dict kS e5).1.trans hd,fun y ey=>(r5.dict kS e5).2.trans (hz y ey)⟩)) bare (fun b z=>absurd z (by simp))
  have J:=lay h4 sX up rd;obtain⟨o4,i3,yx⟩:=sX.there;refine wpAny_handleBy_cons (codeAny_handlers_test ?_) (by intro z;cases z)
  refine pI (J.nC a) gc mc ?_ Z5;refine O2 (K:=X.K) J.bB qc me i3 yx ?_;refine codeAny_handlers_suite_as ?_;refine r8 zL (lands_againW (Q:=fun _ s'=>∃h',s'={ s2 with heap:=h' }/\Heap.FlyingW B (X.env::X.outer) a (.ref C') a0 h'/\h4.UpToSlots h') sX fun h5 BO DF=>⟨h5,rfl,BO,DF⟩) fun _ s5 ⟨h5,e5,BO,DF⟩ Z8=>?_;subst e5;have J5:=lay h5 BO (Fy up DF) (rd.trans Z8);refine Ae (X:=X.nC a) (v:= .ref a) (J5.nC a) hN hj (.inl hn) rfl (fun s6 I6=>?_) (.inr hn);refine Ff (ao (hh a pins _ _ _ (LK j D) I6 oJ) fun fl s7 z=>?_);cases fl with
  |next=>obtain⟨g8,H7,I7,q⟩:=z;exact vU (I7.uncaught (Y:=X) J5.ok) hN hj hn fun s8 I8=>⟨_,H7,I8,q⟩
  |brk=>obtain⟨g8,H7,I7,q⟩:=z;exact vU (I7.uncaught (Y:=X) J5.ok) hN hj hn fun s8 I8=>⟨_,H7,I8,q⟩
  |cont=>obtain⟨g8,H7,I7,q⟩:=z;exact vU (I7.uncaught (Y:=X) J5.ok) hN hj hn fun s8 I8=>⟨_,H7,I8,q⟩
  |ret u=>obtain⟨v,g8,H7,I7,r,q⟩:=z;exact vU (I7.uncaught (Y:=X) J5.ok) hN hj hn fun s8 I8=>⟨v,_,H7,I8,r,q⟩
end
theorem noFill_list_mul:fillsNumberSlot (.type "list") "mul" = pure false:=
 PySem.fillsNumberSlot_seq (id:= "list.__mul__") (r:=some (.builtin "list.__rmul__")) OD.lookup (by decide +kernel) afL.lookup (by decide +kernel)
theorem repeat_list:seqRepeat? (.type "list")=pure (some (.builtin "list.__mul__")):=by
 unfold seqRepeat?;rw[PySem.seqSlot_of (T:= "list") (name:= "__mul__") (id:= "list.__mul__") OD.lookup (by decide +kernel),PySem.seqSlot_of (T:= "list") (name:= "__rmul__") (id:= "list.__rmul__") afL.lookup (by decide +kernel)]
 rfl
theorem O5 (a:Int) (t:Tok) (l:Addr) (items:Array Value) (n:Nat) (dd:Option Addr) (sl:Array (Option Value)) :
  Meets (Builtin.«int.__rmul__» ⟨[.int a t,.ref l],[]⟩) (fun _ R s=>s.heap.get? l=some { cls:= .type "list",dict:=dd,data:= .seq items n,slots:=sl }/\R (.ok (.ret Value.notImplemented)) s):=
 .of_wp fun prog w A R s h=>by obtain⟨hp,g,d,tk,os⟩:=s;obtain⟨hl,h⟩:=h;wp_walk;exact⟨_,rfl,h⟩
theorem QR (l:Addr) (v:Value) (n:Nat) (dd:Option Addr) (sl:Array (Option Value)) (t:Tok) :
  Meets (Builtin.«list.__mul__» ⟨[.ref l,.int 4 t],[]⟩) (fun _ R s=>s.heap.get? l=some { cls:= .type "list",dict:=dd,data:= .seq #[v] n,slots:=sl }/\R (.ok (.ret (Value.ref s.heap.objs.size))) { s with heap:=s.heap.push { cls:=Value.type "list",data:=Data.seq #[v,v,v,v] },toks:=s.toks }):=
 .of_wp fun prog w A R s h=>by
  obtain⟨hp,g,d,tk,os⟩:=s;obtain⟨hl,h⟩:=h;have f1:=AutoSeq1.idx_int;have f2:=AutoSeq1.sub_tuple_tuple;have f3:=AutoSeq1.sub_list_list;have f4:=AutoSeq1.sub_tuple_list;have f5:=AutoSeq1.sub_list_tuple
  wp_walk using AutoSeq1.wpAny_loadPart' hl
  exact⟨_,rfl,h⟩
def UE (K:PySem.W.Frag):R2:=fun x y H Q=>∃a v,x = .ref a/\y = .int 4/\ai K H a [v] /\ ∀p,H p=none->Q (.ref p) (upd H p (.lst [v,v,v,v]))
theorem RL:b6 X (binaryOp .Mult) (UE X.K):=by
 intro pins s σ H x y v u Q I rx ry h;obtain⟨a,z,rfl,rfl,ha,q⟩:=h;cases rx
 obtain⟨t,rfl⟩:=ry;obtain⟨its,r1,p1,_⟩:=I.list ha;obtain⟨z',rfl,rz⟩:=vals1 r1;obtain⟨⟨cls,dd,data,sl⟩,n,ho,hc,mz,hd⟩:=id p1;simp only at hc hd mz;subst hc hd mz;refine wpAny_binaryOp_repeat_ref (T:= "list") (U:= "int") (by decide) ⟨_,ho,rfl⟩ (fun s'=>typeIs_int s' 4 t) noFill_list_mul PySem.F.fills_int_mul afN repeat_list PySem.F.slot_int_index.lookup
  (vd afN (typeIs_int s 4 t) PySem.F.entry_int_rmul (PySem.F.args_int_rmul_2 _ _) (O5 4 t a #[z'] n none sl)
   ⟨ho,rfl,⟨_,ho,rfl⟩,vd OD ⟨_,ho,rfl⟩ PySem.F.entry_list_mul (PySem.F.args_list_mul_2 _ _) (QR a z' n none sl t) ⟨ho,?_⟩⟩)
 refine⟨.ref s.heap.objs.size,_,I.laid (t':=s.toks) (o:= .lst [z,z,z,z]) (fun b ob q=>bj _ q) (aO _) ?_,rfl,q _ (I.aj.fresh (aO _))⟩;exact⟨by show 4<=sizeLine;rw[aT];decide,[z',z',z',z'],_,.cons rz (.cons rz (.cons rz (.cons rz .nil))),cK _ rfl⟩
end L2
namespace L2
open PySem PySem.W
abbrev pr (x:Str) (s:Stmt):Str×Stmt:=(x,s)
def yy (K:Frag):List (Str×Stmt)->Prop
 |[]=>True
 |p::r=>(∃f fd,aW K p.1 p.1 p.2 f fd/\nsIn K mainGlobals p.1=some (some (.ref f)))/\yy K r
def BP (K:Frag):List Str->Prop
 |[]=>True
 |x::r=>nsIn K mainGlobals x=some none/\BP K r
theorem VB {p:Str×Stmt}{r:List (Str×Stmt)}{kV:Value} (a:nsIn K mainGlobals p.1=some (some (.ref f)))
  (l:K.lookup f=some ⟨oc,od,.func (fnOf p.1 p.1 (dw p.2) (bF p.2) (aN p.2) .none kV doc pm an aF ct),g7⟩) (c:codeIn K aF p.1=true) (k:keepIn K (.ref f)=true) (g:yy K r):yy K (p::r):=⟨⟨f,_,kr l c k,a⟩,g⟩
theorem si {p:Str×Stmt} (X:K.In h) (G:h.Ns mainGlobals mg) (d:∃f fd,aW K p.1 p.1 p.2 f fd/\nsIn K mainGlobals p.1=some (some (.ref f))) (ps:List Str)
  (b:∀ (kV doc pm:Value) (an:Option Addr) (aF ct:Value) (us:List Value),us.length=ps.length->bindArgs (fnOf p.1 p.1 (dw p.2) (bF p.2) (aN p.2) .none kV doc pm an aF ct) ⟨us,[]⟩=pure (ps.zip us)) :
  ∃f fd,aW K p.1 p.1 p.2 f fd/\keepIn K (.ref f)=true/\Binds K fd ps []/\mg p.1=some (.ref f):=by
 obtain⟨f,fd,F,a⟩:=d;exact⟨f,fd,F,F.kp,F.binds b,mg_of X G a⟩
theorem wI {n:Nat} (h:us.length=n+1):∃u r,us=u::r/\r.length=n:=by
 cases us with
 |nil=>cases h
 |cons u r=>exact⟨u,r,rfl,Nat.succ.inj h⟩
theorem J2 (h:us.length=2):∃a b,us = [a,b]:=by
 obtain⟨a,r,rfl,h2⟩:=wI h;obtain⟨b,rfl⟩:=afO.mp h2;exact⟨a,b,rfl⟩
theorem J3 (h:us.length=3):∃a b c,us = [a,b,c]:=by
 obtain⟨a,r,rfl,h2⟩:=wI h;obtain⟨b,c,rfl⟩:=J2 h2;exact⟨a,b,c,rfl⟩
theorem J4 (h:us.length=4):∃a b c d,us = [a,b,c,d]:=by
 obtain⟨a,r,rfl,h2⟩:=wI h;obtain⟨b,c,d,rfl⟩:=J3 h2;exact⟨a,b,c,d,rfl⟩
theorem ki {p:Str×Stmt} (X:K.In h) (G:h.Ns mainGlobals mg) (d:∃f fd,aW K p.1 p.1 p.2 f fd/\nsIn K mainGlobals p.1=some (some (.ref f))) (x1:Str)
  (b:∀ (kV doc pm:Value) (an:Option Addr) (aF ct u1:Value),bindArgs (fnOf p.1 p.1 (dw p.2) (bF p.2) (aN p.2) .none kV doc pm an aF ct) ⟨[u1],[]⟩=pure ([x1].zip [u1]):=by intros;rfl) :
  ∃f fd,aW K p.1 p.1 p.2 f fd/\keepIn K (.ref f)=true/\Binds K fd [x1] []/\mg p.1=some (.ref f):=si X G d _ fun kV doc pm an aF ct us h=>by obtain⟨u1,rfl⟩:=afO.mp h;exact b _ _ _ _ _ _ _
theorem iA {p:Str×Stmt} (X:K.In h) (G:h.Ns mainGlobals mg) (d:∃f fd,aW K p.1 p.1 p.2 f fd/\nsIn K mainGlobals p.1=some (some (.ref f))) (x1 x2:Str)
  (b:∀ (kV doc pm:Value) (an:Option Addr) (aF ct u1 u2:Value),bindArgs (fnOf p.1 p.1 (dw p.2) (bF p.2) (aN p.2) .none kV doc pm an aF ct) ⟨[u1,u2],[]⟩=pure ([x1,x2].zip [u1,u2]):=by intros;rfl) :
  ∃f fd,aW K p.1 p.1 p.2 f fd/\keepIn K (.ref f)=true/\Binds K fd [x1,x2] []/\mg p.1=some (.ref f):=si X G d _ fun kV doc pm an aF ct us h=>by obtain⟨u1,u2,rfl⟩:=J2 h;exact b _ _ _ _ _ _ _ _
theorem AF {p:Str×Stmt} (X:K.In h) (G:h.Ns mainGlobals mg) (d:∃f fd,aW K p.1 p.1 p.2 f fd/\nsIn K mainGlobals p.1=some (some (.ref f))) (x1 x2 x3:Str)
  (b:∀ (kV doc pm:Value) (an:Option Addr) (aF ct u1 u2 u3:Value),bindArgs (fnOf p.1 p.1 (dw p.2) (bF p.2) (aN p.2) .none kV doc pm an aF ct) ⟨[u1,u2,u3],[]⟩=pure ([x1,x2,x3].zip [u1,u2,u3]):=by intros;rfl) :
  ∃f fd,aW K p.1 p.1 p.2 f fd/\keepIn K (.ref f)=true/\Binds K fd [x1,x2,x3] []/\mg p.1=some (.ref f):=si X G d _ fun kV doc pm an aF ct us h=>by obtain⟨u1,u2,u3,rfl⟩:=J3 h;exact b _ _ _ _ _ _ _ _ _
theorem vV {p:Str×Stmt} (X:K.In h) (G:h.Ns mainGlobals mg) (d:∃f fd,aW K p.1 p.1 p.2 f fd/\nsIn K mainGlobals p.1=some (some (.ref f))) (x1 x2 x3 x4:Str)
  (b:∀ (kV doc pm:Value) (an:Option Addr) (aF ct u1 u2 u3 u4:Value),bindArgs (fnOf p.1 p.1 (dw p.2) (bF p.2) (aN p.2) .none kV doc pm an aF ct) ⟨[u1,u2,u3,u4],[]⟩=pure ([x1,x2,x3,x4].zip [u1,u2,u3,u4]):=by intros;rfl) :
  ∃f fd,aW K p.1 p.1 p.2 f fd/\keepIn K (.ref f)=true/\Binds K fd [x1,x2,x3,x4] []/\mg p.1=some (.ref f):=si X G d _ fun kV doc pm an aF ct us h=>by obtain⟨u1,u2,u3,u4,rfl⟩:=J4 h;exact b _ _ _ _ _ _ _ _ _ _
theorem Tb {p:Str×Stmt} (X:K.In h) (G:h.Ns mainGlobals mg) (d:∃f fd,aW K p.1 p.1 p.2 f fd/\nsIn K mainGlobals p.1=some (some (.ref f))) (x1 x2 x3 x4 x5:Str)
  (b:∀ (kV doc pm:Value) (an:Option Addr) (aF ct u1 u2 u3 u4 u5:Value),bindArgs (fnOf p.1 p.1 (dw p.2) (bF p.2) (aN p.2) .none kV doc pm an aF ct) ⟨[u1,u2,u3,u4,u5],[]⟩=pure ([x1,x2,x3,x4,x5].zip [u1,u2,u3,u4,u5]):=by intros;rfl) :
  ∃f fd,aW K p.1 p.1 p.2 f fd/\keepIn K (.ref f)=true/\Binds K fd [x1,x2,x3,x4,x5] []/\mg p.1=some (.ref f):=si X G d _ fun kV doc pm an aF ct us h=>by obtain⟨u1,r,rfl,h2⟩:=wI h;obtain⟨u2,u3,u4,u5,rfl⟩:=J4 h2;exact b _ _ _ _ _ _ _ _ _ _ _
theorem Iz (X:K.In h) (G:h.Ns mainGlobals mg):∀ {xs:List Str},BP K xs -> ∀x∈xs,mg x=none
 |y::r,z,x,m=>by
  rcases b9.mp m with rfl|q
  ·exact mg_none_of X G z.1
  ·exact Iz X G z.2 x q
end L2
namespace L2
open PySem
def dq (k:Nat):List (List Str)->Str->Option (Nat×Str)
 |[],_=>none
 |[]::rest,n=>dq (k+1) rest n
 |(x::r)::rest,n=>if n∈x::r/\x≠n then some (k,x) else dq (k+1) rest n
theorem FQ {k:Nat} (h : ¬ (n∈r/\r.head? ≠ some n)):dq k (r::rest) n=dq (k+1) rest n:=by
 cases r with
 |nil=>rfl
 |cons x r=>exact ar fun z=>h ⟨z.1,by simpa using z.2⟩
theorem O6 {k:Nat} (h:n∈x::r/\x≠n):dq k ((x::r)::rest) n=some (k,x):=by
 exact aB h
def ja (all:List (List Str)):List (List Str)->Option Str
 |[]=>none
 |[]::rest=>ja all rest
 |(x::_)::rest=>if (dq 0 all x).isNone then some x else ja all rest
def gy (rest:List (List Str)):Option Str:=ja rest rest
def without (n:Str) (rest:List (List Str)):List (List Str):=rest.map fun r=>r.filter fun y=>!decide (y=n)
def total (rest:List (List Str)):Nat:=(rest.map List.length).sum
def cj:Nat->List (List Str)->Option (List Str)
 |0,_=>some []
 |k+1,rest=>if (rest.any fun r=>!r.isEmpty)=true then (match gy rest with|none=>none|some n=>(cj k (without n rest)).map (n :: ·)) else some []
theorem zI {all:List (List Str)}{n:Str}:∀ {rest:List (List Str)},ja all rest=some n -> ∃r∈rest,r.head? = some n
 |[],h=>by cases h
 |[]::rest,h=>let ⟨r,hr,e⟩:=zI (rest:=rest) h;⟨r,bU _ hr,e⟩
 |(x::t)::rest,h=>by
  have h:(if (dq 0 all x).isNone then some x else ja all rest)=some n:=h;split at h
  ·cases h;exact⟨n::t,br,rfl⟩
  ·obtain⟨r,hr,e⟩:=zI (rest:=rest) h
   exact⟨r,bU _ hr,e⟩
theorem FO (n:Str):∀rest:List (List Str),total (without n rest)<=total rest
 |[]=>aO _
 |r::rest=>by
  have h1:=FO n rest;have h2:=lx (fun y=>!decide (y=n)) r;simp only[total,without,cA,FF]at *;omega
theorem o7 {n:Str}:∀ {rest:List (List Str)},(∃r∈rest,n∈r)->total (without n rest) < total rest
 |[],⟨_,h,_⟩=>by simp at h
 |r::rest,⟨q,hq,hn⟩=>by
  have h1:=FO n rest;have h2:=lx (fun y=>!decide (y=n)) r;rcases b9.mp hq with rfl|hq
  ·have h3:(q.filter fun y=>!decide (y=n)).length < q.length:=by
    exact List.length_filter_lt_length_iff_exists.mpr ⟨n,hn,by simp⟩
   simp only[total,without,cA,FF]at *;omega
  ·have h3:=o7 ⟨q,hq,hn⟩
   simp only[total,without,cA,FF]at *;omega
theorem le_total {r:List Str}:∀ {rest:List (List Str)},r∈rest->r.length<=total rest
 |[],h=>by simp at h
 |q::rest,h=>by
  have e:total (q::rest)=q.length+total rest:=by simp[total]
  rcases b9.mp h with rfl|h
  ·omega
  ·have:=le_total h
   omega
theorem z7 (h:(rest.any fun r=>!r.isEmpty)=true):0 < total rest:=by
 obtain⟨r,hr,e⟩:=vm.mp h;have h1:0 < r.length:=by cases r with
  |nil=>simp at e
  |cons _ _=>simp
 have h2:r.length<=total rest:=le_total hr;omega
def dz (H:Hp) (vs:List V) (rows:List (List Str)):Prop:=Paired (fun y r=>∃a,y=V.ref a/\H a=some (.tup (r.map V.str))) vs rows
theorem dz.same (h:dz H vs rows) (s:aw H H'):dz H' vs rows:=Paired.imp' (fun _ _ ⟨a,e,q⟩=>⟨a,e,s _ _ q⟩) h
theorem dz.length (h:dz H vs rows):vs.length=rows.length:=eu h
theorem dz.get {H:Hp}:∀ {vs:List V}{rows:List (List Str)}{i:Nat}{v:V},dz H vs rows->vs[i]? = some v -> ∃a r,v=V.ref a/\rows[i]? = some r/\H a=some (.tup (r.map V.str))
 |_,_,i,v,.nil,e=>by simp at e
 |_,_,0,v,.cons p _,e=>by
  obtain⟨a,rfl,q⟩:=p;simp at e;subst e;exact⟨a,_,rfl,rfl,q⟩
 |_,_,i+1,v,.cons _ t,e=>by
  obtain⟨a,r,e1,e2,q⟩:=dz.get (i:=i) t (by simpa using e)
  exact⟨a,r,e1,by simpa using e2,q⟩
theorem dz.append {H:Hp}{vs:List V}{rows:List (List Str)}{a:Addr}{r:List Str}:dz H vs rows->H a=some (.tup (r.map V.str))->dz H (vs ++ [.ref a]) (rows ++ [r])
 |.nil,q=>.cons ⟨a,rfl,q⟩ .nil
 |.cons p t,q=>.cons p (dz.append t q)
end L2
namespace fw
open PySem L2 PySem.W
def top (i:Nat):Stmt:=PySem.Challenge.pw_parentlines_k43_own_number_or_the_neares.main.body.getD i (.Pass ⟨0,0,0,0⟩)
abbrev m6:Stmt:=inClass (top 7) 0
abbrev r9:Stmt:=top 10
abbrev AG:Stmt:=top 11
abbrev zU:Stmt:=top 13
abbrev sd:Stmt:=top 16
abbrev wk:Stmt:=top 17
abbrev sO:Stmt:=top 18
abbrev pQ:Stmt:=top 21
abbrev rM:Stmt:=top 22
abbrev Al:Stmt:=top 24
abbrev z8:Stmt:=top 25
abbrev AH:Stmt:=top 26
abbrev rT:Stmt:=top 27
abbrev A4:Stmt:=top 28
abbrev rV:Stmt:=top 30
abbrev AI:Stmt:=top 31
abbrev rW:Stmt:=top 32
abbrev pB:Stmt:=top 34
abbrev zO:Stmt:=top 35
abbrev Am:Stmt:=top 36
abbrev wm:Stmt:=top 37
abbrev BQ:Stmt:=top 41
abbrev sj:Stmt:=top 42
abbrev ku:Stmt:=top 43
abbrev jz:Stmt:=top 44
abbrev sk:Stmt:=top 45
abbrev z9:Stmt:=top 46
abbrev rX:Stmt:=top 47
abbrev AJ:Stmt:=top 48
abbrev AK:Stmt:=top 49
abbrev AL:Stmt:=top 50
abbrev sq:Stmt:=top 51
abbrev Bq:Stmt:=top 52
abbrev BR:Stmt:=top 53
abbrev xb:Stmt:=top 54
abbrev pY:Stmt:=inClass A4 0
abbrev pZ:Stmt:=inClass A4 1
abbrev p9:Stmt:=inClass A4 2
abbrev pR:Stmt:=inClass wm 0
abbrev px:Stmt:=inClass wm 1
abbrev qa:Stmt:=inClass wm 2
abbrev lJ:Stmt:=inClass wm 4
structure gN (mg:Str->Option Value):Prop where
 len:mg "len" = none
 max:mg "max" = none
 min:mg "min" = none
 abs:mg "abs" = none
 range:mg "range" = none
 any:mg "any" = none
 all:mg "all" = none
 list:mg "list" = none
 tuple:mg "tuple" = none
 Z9:mg "enumerate" = none
theorem mG {y:Str}:c7 ((y::r).map V.str) 0=some (V.str y):=(show c7 ((y::r).map V.str) ((0:Nat):Int)=some (V.str y) from cW rfl)
theorem aA {o:HO} (hq:H q=none):aw H (upd H q o):=fun b u e=>by rw[ae (au e hq)];exact e
theorem RM {g:TG} (Pv:Nat->St->Hp->Prop) (h0:Pv 0 σ H) (hl:∀i σ H,i<=xs.length->Pv i σ H->ai K H a xs)
  (hs:∀i x σ H t,xs[i]? = some x->Pv i σ H->H t=none->g (.ref t) σ (upd H t (.tup [.int i,x])) fun eM H2=>tb { D with nx:=Pv (i+1),ct:=Pv (i+1),bk:=D.nx } eM H2) (hd:∀σ H,Pv xs.length σ H->D.nx σ H) :
  ∃W:Nat->Nat->St->Hp->Prop,(∃m,W 0 m σ H) /\ ∀i m σ H,W i m σ H ->
   ((t4 K a).stop i H/\D.nx σ H)\/((t4 K a).go i H /\ ∃N:St->Hp->Prop,(∀aI H',N aI H' -> ∃m',m' < m/\W (i+1) m' aI H') /\ ∀x H',(t4 K a).kM i H x H'->g x σ H' fun eM H2=>tb { D with nx:=N,ct:=N,bk:=D.nx } eM H2):=by
 refine⟨fun i m σ H=>m=xs.length - i/\i<=xs.length/\Pv i σ H,⟨xs.length,by simp,bw _,h0⟩,?_⟩
 rintro i m σ H ⟨rfl,hi,p⟩;have q:=hl i σ H hi p
 by_cases aZ:i < xs.length
 ·refine .inr ⟨⟨xs,xs[i],q,by simp[aZ]⟩,Pv (i+1),fun aI H' p'=>⟨xs.length - (i+1),by omega,rfl,aZ,p'⟩,fun x H' y=>?_⟩
  obtain⟨t,v,ht,rfl,hv,rfl⟩:=y;exact hs i v σ _ t (hv xs q) p ht
 ·have e:i=xs.length:=by omega
  subst e;exact .inl ⟨⟨xs,q,aO _⟩,hd σ H p⟩
inductive wo (vs:List V) (H:Hp) (Q:VK) (E:XK):Prop
 |mk {l:Addr}{ws:List V}{rows:List (List Str)}{n:Str} (_:vs = [.ref l,.str n]) (_:H l=some (.lst ws)) (_:dz H ws rows) (_:(dq 0 rows n=none -> ∀H',aw H H'->Q .aH H')) (_:(∀i x,dq 0 rows n=some (i,x) -> ∀p H',H p=none->aw H H'->H' p=some (.tup [.int i,.str x,.str n])->Q (.ref p) H')):wo vs H Q E
theorem A5:bx ["rest","name","at","row"] ["rest","name"] (aN sO):=bS (by decide +kernel)
theorem Tc (F:aW K "wish_against" "wish_against" sO f fd) (B:gN mg):aU P w K mg base aQ 1 f fd ["rest","name"] wo:=by
 refine F.ok A5 (fun vs H Q E h=>?_) (fun aF A outer s H vs Q E hr h=>?_)
 ·obtain⟨rfl,_⟩:=h;rfl
 ·obtain @⟨l,ws,rows,n,rfl,hl,hR,qn,qs⟩:=h
  refine⟨_,aE (gV gx rfl (Ss rfl B.Z9 (aa (pv 0) ah)) (lI rfl (eG (bc (i:=2) A5.nd rfl (Or.inl rfl)) (eG (bc (i:=3) A5.nd rfl (Or.inl rfl)) jB)))
    (aP (cL (PW.pt (pw_and (cD pz (pv 1) (pv 3) rfl) (pw_and1 (cD sx (bo cX (pv 3) ay (fun _ _=>rfl)) (pv 1) (cR _)))))
     (aP (bz (cw (aa (pv 2) (aa (bo cX (pv 3) ay (fun _ _=>rfl)) (aa (pv 1) ah)))))) cV)))
   (aP (bz jd)),?_⟩
  refine⟨_,rfl,l,rfl,⟨_,ai.of hl⟩,RM (xs:=ws) (fun i σ H1=>∃v2 v3:Option V,σ = [some (.ref l),some (.str n),v2,v3]/\aw H H1/\dq i (rows.drop i) n=dq 0 rows n) ⟨none,none,rfl,aw.refl _,by simp⟩ (fun i σ H1 _ ⟨_,_,_,z,_⟩=>ai.of (z _ _ hl)) ?_ ?_⟩
  ·rintro i x σ H1 t hx ⟨v2,v3,rfl,S1,hw⟩ ht
   obtain⟨a,r,rfl,gr,gf⟩:=hR.get hx;have S2:aw H (upd H1 t (.tup [.int i,.ref a])):=S1.trans (aA ht);have qF:=S2 _ _ gf;have DH:rows.drop i=r::rows.drop (i+1):=by
    have hi:=(b4.mp gr);obtain⟨t9,rfl⟩:=hi;exact rn t9
   rw[DH]at hw;refine⟨t,_,rfl,aG.of ag,rfl,_,_,rfl,_,_,rfl,rfl,?_⟩;refine⟨_,rfl,_,rfl,a,_,rfl,.inr (aG.of qF),rfl,mZ _,_,rfl,?_⟩;rw[ar cz,pG];refine gp (fun iL=>?_) (fun iL=>?_)
   ·have J6:n∈r:=by simpa using iL
    cases r with
    |nil=>simp at J6
    |cons y r =>
     refine⟨_,rfl,a,_,0,.str y,rfl,rfl,aG.of qF,mG,_,rfl,rfl,_,rfl,?_⟩;refine gp (fun bC=>?_) (fun bC=>?_)
     ·have nO:y≠n:=fun z=>by subst z;simp at bC
      refine⟨_,rfl,_,rfl,a,_,0,.str y,rfl,rfl,aG.of qF,mG,_,rfl,kR,fun p hp=>?_⟩;rw[O6 ⟨J6,nO⟩]at hw;exact qs i y hw.symm p _ (S2.free hp) (S2.trans (aA hp)) ag
     ·have hy:y=n:=by
       by_cases z:y=n
       ·exact z
       ·exact absurd (by simp[z]) bC
      refine⟨_,_,rfl,S2,?_⟩;rw[<-hw,FQ fun z=>z.2 (by rw[hy];rfl)]
   ·refine⟨_,_,rfl,S2,?_⟩
    rw[<-hw,FQ fun z=>iL (by simpa using z.1)]
  ·rintro σ H1 ⟨v2,v3,rfl,S1,hw⟩
   rw[hR.length,OE]at hw;exact qn hw.symm H1 S1
def J7:Option Str->V
 |none=>.aH
 |some n=>.str n
inductive vW (vs:List V) (H:Hp) (Q:VK) (E:XK):Prop
 |mk {l:Addr}{ws:List V}{rows:List (List Str)} (_:vs = [.ref l]) (_:H l=some (.lst ws)) (_:dz H ws rows) (_:∀H',aw H H'->Q (J7 (gy rows)) H'):vW vs H Q E
theorem IA:bx ["rest","row"] ["rest"] (aN wk):=bS (by decide +kernel)
theorem RN {fW:Addr}{qG:FuncData} (F:aW K "least_free" "least_free" wk f fd) (B:gN mg) (FW:aW K "wish_against" "wish_against" sO fW qG) (bW:Binds K qG ["rest","name"] []) (mW:mg "wish_against" = some (.ref fW)) :
  aU P w K mg base aQ 2 f fd ["rest"] vW:=by
 have GW:aU P w K mg base aQ 1 fW qG ["rest","name"] wo:=Tc FW B;refine F.ok IA (fun vs H Q E h=>?_) (fun aF A outer s H vs Q E hr h=>?_)
 ·obtain⟨rfl,_⟩:=h;rfl
 ·obtain @⟨l,ws,rows,rfl,hl,hR,q⟩:=h
  have bO:aX 1 _:=hr;refine⟨_,aE (gV gx rfl (eP (pv 0)) (bc (i:=1) IA.nd rfl (Or.inl rfl))
    (aP (cL (PW.pt (pw_and (pE (pv 1) (fun _=>rfl)) (pw_and1 (cD pN (gU GW bO rfl mW FW.kp bW .nil ff (aa (pv 0) (aa (bo cX (pv 1) ay (fun _ _=>rfl)) ah))) jd (cR _)))))
     (aP (bz (bo cX (pv 1) ay (fun _ _=>rfl)))) cV)))
   (aP (bz jd)),?_⟩
  refine⟨_,rfl,l,rfl,⟨_,ai.of hl⟩,lD (xs:=ws) (fun i σ H1=>∃v1:Option V,σ = [some (.ref l),v1]/\aw H H1/\ja rows (rows.drop i)=gy rows) ⟨none,rfl,aw.refl _,by simp[gy]⟩ (fun i σ H1 _ ⟨_,_,z,_⟩=>ai.of (z _ _ hl)) ?_ ?_⟩
  ·rintro i x σ H1 hx ⟨v1,rfl,S1,hw⟩
   obtain⟨a,r,rfl,gr,gf⟩:=hR.get hx;have i4:=S1 _ _ gf;have DH:rows.drop i=r::rows.drop (i+1):=by
    obtain⟨t9,rfl⟩:=b4.mp gr;exact rn t9
   rw[DH]at hw;refine⟨_,rfl,!(r.map V.str).isEmpty,.inr (.inl ⟨_,aG.of i4,rfl⟩),?_⟩;cases r with
   |nil=>exact⟨_,rfl,S1,hw⟩
   |cons y r =>
    have hw:(if (dq 0 rows y).isNone then some y else ja rows (rows.drop (i+1)))=gy rows:=hw;refine⟨_,rfl,_,rfl,a,_,0,.str y,rfl,rfl,aG.of i4,mG,?_⟩;refine wo.mk rfl (S1 _ _ hl) (hR.same S1) (fun en H2 S2=>?_) (fun j z es p H2 hp S2 h2=>?_)
    ·refine⟨rfl,_,rfl,?_⟩
     refine⟨_,rfl,a,_,0,.str y,rfl,rfl,aG.of (S2 _ _ i4),mG,?_⟩;rw[en]at hw;have e:gy rows=some y:=hw.symm;have:=q H2 (S1.trans S2);rw[e]at this;exact this
    ·refine⟨rfl,_,rfl,?_⟩
     rw[es]at hw;exact⟨_,rfl,S1.trans S2,hw⟩
  ·rintro σ H1 ⟨v1,rfl,S1,hw⟩
   rw[hR.length,OE]at hw;have e:gy rows=none:=hw.symm;have:=q H1 S1;rw[e]at this;exact this
def vX (s:Stmt):List Stmt:=match s with|.For _ _ b _ _=>b|_=>[]
def rN (s:Stmt):List Stmt:=match s with|.While _ b _ _=>b|_=>[]
def bZ (l:List Stmt) (i:Nat):Stmt:=l.getD i (.Pass ⟨0,0,0,0⟩)
def iE (s:Stmt):Expr:=match s with|.Assign _ v _=>v|_=>.Constant .none 0 ⟨0,0,0,0⟩
def xc (s:Stmt):Expr:=match s with|.Return (some v) _=>v|_=>.Constant .none 0 ⟨0,0,0,0⟩
def jM (e:Expr):Expr:=match e with|.Call _ (a::_) _ _=>a|_=>.Constant .none 0 ⟨0,0,0,0⟩
def WZ (e:Expr):Expr:=match e with|.Subscript a _ _=>a|_=>.Constant .none 0 ⟨0,0,0,0⟩
def Jn (e:Expr):Expr:=match e with|.ListComp x _ _ _=>x|_=>.Constant .none 0 ⟨0,0,0,0⟩
def di (e:Expr):Scope:=match e with|.ListComp _ _ sc _=>sc|_=>{ kind:= .function,names:= [],isGenerator:=false,isCoroutine:=false }
theorem boot_tuple:bootBuiltins "tuple" = some (.type "tuple"):=by decide +kernel
theorem boot_list:bootBuiltins "list" = some (.type "list"):=by decide +kernel
structure Small (rows:List (List Str)):Prop where
 a8:rows.length<=10
 short:∀r∈rows,r.length<=20
 nm:∀r∈rows,∀n∈r,Nm n
theorem UG {hs:List Str} (nd:ps.Nodup) (h:∀n∈ps,n∈hs):ps.length<=hs.length:=by
 by_cases z:ps.length<=hs.length
 ·exact z
 ·obtain⟨y,hy,hn⟩:=A0 (found:=hs) nd (by omega)
  exact absurd (h y hy) hn
theorem Gh (h:total rest=0):(rest.any fun r=>!r.isEmpty)=false:=by
 cases e:rest.any fun r=>!r.isEmpty with
 |false=>rfl
 |true=>have:=z7 e;omega
theorem pC (h:gy rest=some n):∃r∈rest,n∈r:=by
 obtain⟨r,hr,e⟩:=zI h;exact⟨r,hr,List.mem_of_head? e⟩
theorem Gi:∀ (k:Nat) (r:List (List Str)),total r<=k -> ∀j,total r<=j->cj k r=cj j r
 |0,r,h,j,_=>by
  have z:=Gh (show total r=0 by omega)
  cases j with
  |zero=>rfl
  |succ j=>unfold cj;rw[ar (by rw[z];exact cz)]
 |k+1,r,h,0,hj=>by
  have z:=Gh (show total r=0 by omega)
  unfold cj;rw[ar (by rw[z];exact cz)]
 |k+1,r,h,j+1,hj=>by
  unfold cj;split
  ·cases e:gy r with
   |none=>rfl
   |some n =>
    have:=o7 (pC e);show Option.map _ _=Option.map _ _;rw[Gi k (without n r) (by omega) j (by omega)]
  ·rfl
theorem zV {r:List (List Str)} (h:(r.any fun r=>!r.isEmpty)=false):cj (total r) r=some []:=by
 cases total r with
 |zero=>rfl
 |succ k=>unfold cj;rw[ar (by rw[h];exact cz)]
theorem zW {r:List (List Str)} (h:(r.any fun r=>!r.isEmpty)=true) (e:gy r=none):cj (total r) r=none:=by
 have:=z7 h;cases q:total r with
 |zero=>omega
 |succ k=>unfold cj;rw[aB h,e]
theorem zX {r:List (List Str)} (h:(r.any fun r=>!r.isEmpty)=true) (e:gy r=some n):cj (total r) r=(cj (total (without n r)) (without n r)).map (n :: ·):=by
 have:=o7 (pC e);cases q:total r with
 |zero=>omega
 |succ k =>
  show(if (r.any fun r=>!r.isEmpty)=true then _ else _)=_;rw[aB h,e];show Option.map _ _=_;rw[Gi k (without n r) (by omega) _ (aO _)]
theorem FT {env:Env}:∀ {names:List (Str×NameKind)}{x:Str},names.lookup x=some .cell ->
  (names.map fun(n,k)=>if (k==NameKind.free && env.scope.kind == .function && env.kindOf n==some .cell) then (n,NameKind.cell) else (n,k)).lookup x=some .cell
 |[],_,h=>by simp at h
 |(n,k0)::r,x,h=>by
  have ih:=@FT env r x;show List.lookup x ((if (k0==NameKind.free && env.scope.kind == .function && env.kindOf n==some .cell)=true then (n,NameKind.cell) else (n,k0))::_)=_;rw[eO]at h;cases hx:x==n with
  |true =>
   rw[hx]at h;cases h
   rw[ar (by simp),eO,hx]
  |false =>
   rw[hx]at h
   by_cases hc:(k0==NameKind.free && env.scope.kind == .function && env.kindOf n==some .cell)=true
   ·rw[aB hc,eO,hx];exact ih h
   ·rw[ar hc,eO,hx];exact ih h
theorem nest {qH:Scope} (kind:sc.kind = .function) (keys:(sc.names.map (·.1)).Nodup) (nd:N'.Nodup) (len:bH.length=N'.length) (fv:BI N N' bH sc=true)
  (free:∀p∈sc.names,p.2 = .free->qH.names.lookup p.1=some .cell\/qH.names.lookup p.1=some .free):cg N (relabel qH env) N' bH sc:=
 ⟨kind,keys,nd,len,Ji fv,fun p hp e=>by
  rcases free p hp e with z|z
  ·exact .inl (FT z)
  ·exact zE z⟩
theorem FU (K:Frag) (h:X.K=K):dZ X (.type "tuple") (fun xs H Q=>∃p ys,xs = [.ref p]/\((ai K H p ys /\ ∀l,H l=none->Q (.ref l) (upd H l (.tup ys)))\/(aG K H p ys/\Q (.ref p) H))):=by subst h;exact o8
theorem boot_any:bootBuiltins "any" = some (.builtin "any"):=by decide +kernel
def A6 (K:Frag) (C:Addr):Bool:=
 findIn K (.ref C) "__getattribute__" == some (some (.builtin "BaseException.__getattribute__")) && (findIn K (.ref C) "__getattr__" == some none && (findIn K (.ref C) "__setattr__" == some (some (.builtin "object.__setattr__")) && (hasDictIn K C &&
 (((clsIn K C).any fun cd=>pV cd.mro) && (mroIn K C (.type "BaseException")==some true && (mroIn K C (.type "ValueError")==some true && (mroIn K C (.type "object")==some true && (findIn K (.ref C) "__class__" == some (some (.builtin "object.__class__")) &&
 (specialIn K (.builtin "object.__class__") "__get__" == some (some (.builtin "getset_descriptor.__get__")) && takesIn K (.builtin "object.__class__")==some true)))))))))
theorem Td (h:A6 K C=true):f6 K C:=by
 unfold A6 at h;simp only[k9,dX]at h;obtain⟨a,b,c,d,e,f,g,i,j,k,l⟩:=h;exact⟨a,b,c,d,e,f,g,i,j,k,l⟩
def J8 (a:Addr) (H H':Hp):Prop:= ∀b o,H b=some o->b≠a->H' b=some o
theorem RO {fs:List (Str×V)} (hd:H d=none):J8 a H (upd (upd H d (gF d fs)) a (cy C (some d) a)):=fun b o e n=>by
 rw[ae n,ae (au e hd)];exact e
abbrev IB:List Str:= ["rows","order","rest","name"]
theorem rY:bx IB ["rows"] (aN sd):=bS (by decide +kernel)
abbrev J9:Expr:=iE (bZ (rN (bZ (bF sd) 2)) 3)
abbrev qH:Scope:=di J9
abbrev Z':Scope:=di (jM (Jn J9))
theorem LL:cg IB (aN sd) ["row","name"] [none,some 3] qH:=fg (by decide +kernel)
theorem csI:cg ["row","name"] (relabel qH env) ["other","name"] [none,some 1] Z':=nest rfl (by decide +kernel) (by decide +kernel) rfl (by decide +kernel) (by decide +kernel)
theorem ndI:(["other","name"]:List Str).Nodup:=by decide +kernel
theorem Hn (h:dz H vs rows) (s:∀b xs,H b=some (.tup xs)->H' b=some (.tup xs)):dz H' vs rows:=Paired.imp' (fun _ _ ⟨a,e,q⟩=>⟨a,e,s _ _ q⟩) h
theorem FR (S:Small rest):Small (without n rest):=by
 refine⟨by unfold L2.without;rw[aJ];exact S.a8,fun r hr=>?_,fun r hr y hy=>?_⟩
 ·obtain⟨q,hq,rfl⟩:=bt.mp hr
  exact gQ (lx _ _) (S.short q hq)
 ·obtain⟨q,hq,rfl⟩:=bt.mp hr
  exact S.nm q hq y (i8.mp hy).1
structure J' (H:Hp) (rows:List (List Str)) (t oa:Addr) (m:Nat) (σ:St) (H1:Hp) (rest:List (List Str)) (ws:List V) (acc:List Str) (rl:Addr):Prop where
 st:∃v3:Option V,σ = [some (.ref t),some (.ref oa),some (.ref rl),v3]
 mm:m=total rest
 kT:H1 oa=some (.lst (acc.map V.str))
 gO:H1 rl=some (.lst ws)
 rr:dz H1 ws rest
 sm:Small rest
 ne:rl≠oa
 same:aw H H1
 lim:acc.length+total rest<=1000
 eq:cj (total rows) rows=(cj (total rest) rest).map (acc ++ ·)
theorem vw:∀ {rows:List (List Str)},(∀r∈rows,r.length<=20)->total rows<=20 * rows.length
 |[],_=>bw _
 |r::rows,h=>by
  have h1:=vw fun q hq=>h q (bU _ hq);have h2:=h r br;have e:total (r::rows)=r.length+total rows:=by simp[total]
  rw[e,gi];omega
theorem RP (h:dz H ws rows):Paired (fun y r=>∃a,y=V.ref a/\aG K H a r) ws (rows.map fun r=>r.map V.str):=by
 induction h with
 |nil=>exact .nil
 |cons p _ ih=>obtain⟨a,e,q⟩:=p;exact .cons ⟨a,e,aG.of q⟩ ih
theorem any_map (rows:List (List Str)):((rows.map fun r=>r.map V.str).any fun r=>!r.isEmpty)=rows.any fun r=>!r.isEmpty:=by
 rw[Fp];congr 1;funext r;cases r <;> rfl
inductive vM (vs:List V) (H:Hp) (Q:VK) (E:XK):Prop
 |mk {t:Addr}{ws:List V}{rows:List (List Str)}{o:List Str} (_:vs = [.ref t]) (_:H t=some (.tup ws)) (_:dz H ws rows) (_:Small rows) (_:cj (total rows) rows=some o) (_:∀p H',H p=none->aw H H'->H' p=some (.tup (o.map V.str))->Q (.ref p) H'):vM vs H Q E
theorem QS {fW:Addr}{DI qG:FuncData} (F:aW K "merged" "merged" sd f fd) (Bl:gN mg)
  (FW:aW K "wish_against" "wish_against" sO fW qG) (bW:Binds K qG ["rest","name"] []) (mW:mg "wish_against" = some (.ref fW))
  (FL:aW K "least_free" "least_free" wk fL DI) (bL:Binds K DI ["rest"] []) (mL:mg "least_free" = some (.ref fL)) :
  aU P w K mg base aQ 3 f fd ["rows"] vM:=by
 have GL:aU P w K mg base aQ 2 fL DI ["rest"] vW:=RN FL Bl FW bW mW;refine F.ok rY (fun vs H Q E h=>?_) (fun aF A outer s H vs Q E hr h=>?_)
 ·obtain⟨rfl,_⟩:=h;rfl
 ·obtain @⟨t,ws,rows,o,rfl,ht,hR,hS,hm,qs⟩:=h
  have dM:aX 2 _:=hr;refine⟨_,aE (a4 (i:=1) rY.nd rfl (Or.inl rfl) (fX ah))
   (aE (a4 (i:=2) rY.nd rfl (Or.inl rfl) (fS rC rfl Bl.list boot_list (aa (pv 0) ah)))
   (aE (vH gx (pE (cQ (Qw rfl) rfl Bl.any boot_any (aa (pv 2) ah)) (fun _=>rfl))
    (aE (a4 (i:=3) rY.nd rfl (Or.inr rfl) (gU GL dM rfl mL FL.kp bL .nil ff (aa (pv 2) ah)))
    (aE (cL (cD pN (pv 3) jd (cR _)) (aP Rc) cV)
    (aE (jc (kz rB zB zC pA (pv 1) (aa (pv 3) ah)))
    (aP (rG (i:=2) rfl LL rY.nd rfl rfl (eP (pv 2)) (fun s H fp=>⟨bc (i:=0) LL.nd rfl (Or.inl rfl),gz,
     fS (FU K rfl) rfl Bl.tuple boot_tuple (aa (gk rfl csI (HB K rfl (pv 0)) (fun s H fp=>⟨bc (i:=0) ndI rfl (Or.inl rfl),m4 (cD sx (pv 0) (pv 1) rfl),pv 0⟩)) ah)⟩)))))))
   (aP (bz (fS o8 rfl Bl.tuple boot_tuple (aa (pv 1) ah)))))),?_⟩
  refine⟨bw _,fun oa kT=>⟨_,rfl,t,ws,rfl,.inr (aG.of (by rw[ae (au ht kT)];exact ht)),fun rl gO=>?_⟩⟩
  have W0:(upd (upd H oa (.lst [])) rl (.lst ws)) oa=some (.lst []):=by rw[ae (au ag gO)];exact ag
  have S1:aw H (upd (upd H oa (.lst [])) rl (.lst ws)):=(aA kT).trans (aA gO);refine⟨fun m σ H1=>∃rest kU acc rl,J' H rows t oa m σ H1 rest kU acc rl,⟨_,rows,ws,[],rl,⟨none,rfl⟩,rfl,W0,ag,hR.same S1,hS,aV (au ag gO),S1,by have:=vw hS.short;have:=hS.a8;simp only[jx];omega,by cases cj (total rows) rows <;> rfl⟩,?_⟩
  rintro m σ H1 ⟨rest,kU,acc,rl,R⟩;obtain⟨v3,rfl⟩:=R.st;refine⟨_,rfl,rl,kU,_,rfl,ai.of R.gO,RP R.rr,_,rfl,?_⟩;rw[any_map];refine gp (fun hA=>?_) (fun hA=>?_)
  ·refine⟨fun aI H'=>∃m',m' < m /\ ∃rest kU acc rl,J' H rows t oa m' aI H' rest kU acc rl,fun _ _ z=>z,?_⟩
   refine⟨_,rfl,vW.mk rfl R.gO R.rr fun H2 S2=>?_⟩;have Ka:=z7 hA;cases e:gy rest with
   |none =>
    refine⟨_,rfl,rfl,_,rfl,?_⟩;rw[R.eq,zW hA e]at hm;cases hm
   |some n =>
    refine⟨_,rfl,rfl,_,rfl,?_⟩;have BS:H2 oa=some (.lst (acc.map V.str)):=S2 _ _ R.kT;refine⟨_,rfl,.inl ⟨rfl,_,ai.of BS⟩,_,rfl,oa,_,_,rfl,rfl,BS,by have:=R.lim;rw[aJ,aT];omega,?_⟩
    generalize yz:upd H2 oa (.lst (acc.map V.str ++ [J7 (some n)]))=H3;have S3:aw H H3:=fun b o eb=>by rw[<-yz,ae (au eb kT)];exact S2 _ _ (R.same b o eb)
    have nro:rl≠oa:=R.ne;have lR:H3 rl=some (.lst kU):=by rw[<-yz,ae nro];exact S2 _ _ R.gO
    have LM:dz H3 kU rest:=Hn R.rr fun b xs hb=>by rw[<-yz,ae (aS (S2 _ _ hb) BS (by intro z;cases z))];exact S2 _ _ hb
    have Kb:H3 oa=some (.lst ((acc ++ [n]).map V.str)):=by rw[<-yz,ag,bQ];rfl
    refine⟨_,rfl,rl,rfl,⟨_,ai.of lR⟩,fun a1 i4=>?_⟩;have n1o:a1≠oa:=fun z=>by rw[z,Kb]at i4;cases i4
    refine iz (xs:=kU) (fun i ys τ H4=>∃t0:Option V,τ = [t0,some (.str n)]/\H4 a1=some (.lst ys)/\aw H3 H4/\dz H4 ys (L2.without n (rest.take i))) ⟨none,rfl,ag,aA i4,.nil⟩ (fun i ys τ H4 ⟨_,_,h1,h2,_⟩=>⟨h1,ai.of (h2 _ _ lR)⟩) ?_ ?_
    ·rintro i x ys τ H4 hx ⟨t0,rfl,qI,S4,uc⟩
     obtain⟨a,r,rfl,gr,gf⟩:=LM.get hx;have aZ:i < kU.length:=(b4.mp hx).1;have tk:rest.take (i+1)=rest.take i ++ [r]:=by rw[dj,gr];rfl
     refine⟨_,rfl,a,rfl,⟨_,aG.of (S4 _ _ gf)⟩,fun b1 ir=>?_⟩;have LN:(upd H4 b1 (.lst [])) a=some (.tup (r.map V.str)):=by rw[ae (au (S4 _ _ gf) ir)];exact S4 _ _ gf
     have DJ:a≠b1:=au (S4 _ _ gf) ir;refine rP (xs:=r.map V.str) (fun j zs fu H5=>∃t1:Option V,fu = [t1,some (.str n)]/\zs=((r.take j).filter fun y=>!decide (y=n)).map V.str/\H5=upd H4 b1 (.lst zs)) ⟨none,rfl,rfl,rfl⟩ (fun j zs fu H5 ⟨_,_,_,z⟩=>by rw[z];exact⟨ag,aG.of (by rw[ae DJ];exact S4 _ _ gf)⟩) ?_ ?_
     ·rintro j x zs fu H5 dJ ⟨t1,rfl,rfl,rfl⟩
      have b7:j < (r.map V.str).length:=(b4.mp dJ).1;have jY:j < r.length:=by simpa using b7
      obtain rfl:V.str r[j]=x:=by simpa [jY] using dJ
      have gu:r.take (j+1)=r.take j ++ [r[j]]:=by rw[dj,bK jY];rfl
      refine⟨_,rfl,_,rfl,rfl,_,rfl,?_⟩;refine gp (fun bC=>?_) (fun bC=>?_)
      ·have nO:r[j]≠n:=fun z=>by rw[z]at bC;simp at bC
       refine⟨_,rfl,ag,?_,cw_next b7 ⟨_,rfl,?_,by rw[hW]⟩⟩
       ·have h1:=lx (fun y=>!decide (y=n)) (r.take j)
        have h2:(r.take j).length<=r.length:=by rw[c8];omega
        have h3:=R.sm.short r (ix gr);rw[aJ,aT];omega
       ·rw[gu,ly,bQ,vo (by simpa using nO)];rfl
      ·have hy:r[j]=n:=by
        by_cases z:r[j]=n
        ·exact z
        ·exact absurd (by simp[z]) bC
       refine cw_next b7 ⟨_,rfl,?_,rfl⟩;rw[gu];simp[hy]
     ·rintro zs fu H5 ⟨t1,rfl,rfl,rfl⟩
      rw[aJ,dc];refine⟨b1,_,rfl,.inl ⟨ai.of ag,fun l hl=>?_⟩⟩;have n1b:a1≠b1:=au qI ir;have Sb:aw H4 (upd (upd H4 b1 (.lst ((r.filter fun y=>!decide (y=n)).map V.str))) l (.tup ((r.filter fun y=>!decide (y=n)).map V.str))):=(aA ir).trans (aA hl);have n1l:a1≠l:=au (by rw[ae n1b];exact qI) hl
      refine⟨Sb _ _ qI,?_,cw_next aZ ⟨_,rfl,ag,fun b o hb=>?_,?_⟩⟩
      ·have h1:=uc.length
       have h2:(L2.without n (rest.take i)).length<=rest.length:=by unfold L2.without;rw[aJ,c8];omega
       have h3:=R.sm.a8;rw[aT];omega
      ·rw[ae (au hb i4)];exact Sb _ _ (S4 b o hb)
      ·have e1:L2.without n (rest.take (i+1))=L2.without n (rest.take i) ++ [r.filter fun y=>!decide (y=n)]:=by rw[tk];unfold L2.without;rw[bQ];rfl
       rw[e1];refine dz.append (Hn uc fun b xs hb=>?_) ?_
       ·rw[ae (aS hb qI (by intro z;cases z))];exact Sb _ _ hb
       ·rw[ae (aV n1l)];exact ag
    ·rintro ys τ H4 ⟨t0,rfl,qI,S4,uc⟩
     rw[LM.length,dc]at uc;have lt:=o7 (pC e);refine⟨_,by rw[R.mm];exact lt,L2.without n rest,ys,acc ++ [n],a1,⟨_,rfl⟩,rfl,S4 _ _ Kb,qI,uc,FR R.sm,n1o,S3.trans S4,?_,?_⟩
     ·have:=R.lim;rw[e7,zq];omega
     ·rw[R.eq,zX hA e,Option.map_map]
      congr 1
      funext z
      simp
  ·refine⟨_,rfl,oa,_,rfl,.inl ⟨ai.of R.kT,fun p hp=>?_⟩⟩
   rw[R.eq,zV (by simpa using hA)]at hm
   have e:acc ++ []=o:=eF hm;rw[iw]at e;subst e;exact qs p _ (R.same.free hp) (R.same.trans (aA hp)) ag
end fw
namespace fw
open PySem L2
theorem boot_max:bootBuiltins "max" = some (.builtin "max"):=by decide +kernel
theorem boot_abs:bootBuiltins "abs" = some (.builtin "abs"):=by decide +kernel
inductive wJ (K:PySem.W.Frag) (vs:List V) (H:Hp) (Q:VK) (E:XK):Prop
 |mk {a:Addr}{ns:List Int}{k:Int} (_:vs = [.ref a,.int k]) (_:ai K H a (ns.map V.int)) (_:0<=k) (_:k<=100) (_:ns.length<=63) (_:∀ (p:Addr) (x y:Int),H p=none->0<=x->0<=y->y < 4294967296->Q (.ref p) (upd H p (.lst [.int x,.int y]))):wJ K vs H Q E
theorem Br:bx ["_law_script","_law_k","_law_cell"] ["_law_script","_law_k"] (aN BQ):=bS (by decide +kernel)
theorem Te {ns:List Int} (h:i < ns.length):∃z,(ns.map V.int)[i]? = some (V.int z):=⟨ns[i],by rw[gS,bK h];rfl⟩
theorem UH (F:aW K "_law_pot" "_law_pot" BQ f fd) (B:gN mg):aU P w K mg base aQ 1 f fd ["_law_script","_law_k"] (wJ K):=by
 refine F.ok Br (fun vs H Q E h=>?_) (fun aF A outer s H vs Q E hr h=>?_)
 ·obtain⟨rfl,_⟩:=h;rfl
 ·obtain @⟨a,ns,k,rfl,hS,k0,k1,hl,q⟩:=h
  refine⟨_,aE (a4 (i:=2) Br.nd rfl (Or.inl rfl) ay)
   (aE (cL (cD U7 (pv 1) (cQ lB (by rfl) B.len lz (aa (pv 0) ah)) (cR _))
     (aP (a4 (i:=2) Br.nd rfl (Or.inl rfl) (bo fc (pv 0) (pv 1) (fun _ _=>rfl)))) cV)
   (aP (bz (fX (aa (cQ (Gu rfl) (by rfl) B.max boot_max (aa ay (aa (bJ sf (cQ Hy (by rfl) B.abs boot_abs (aa (pv 2) ah)) (bJ AV ay ay)) ah)))
    (aa (bJ iQ (bJ iQ (bJ sg (cQ Hy (by rfl) B.abs boot_abs (aa (pv 2) ah)) ay) (bJ wg ay (pv 1))) ay) ah)))))),?_⟩
  refine⟨_,rfl,_,rfl,a,_,rfl,.inl hS,_,_,rfl,rfl,_,rfl,?_⟩;have af0:∀c:Int,0<=(if c < 0 then -c else c):=fun c=>by split <;> omega
  have fin:∀c:Int,∀p,H p=none->Q (.ref p) (upd H p (.lst [.int (if (if c < 0 then -c else c) - 10 ^ (18:Int).toNat > 0 then (if c < 0 then -c else c) - 10 ^ (18:Int).toNat else 0),.int ((if c < 0 then -c else c) % 2147483587+101 * k+3)])):=fun c p hp=>by
   have h1:=FG (if c < 0 then -c else c) (show(2147483587:Int)≠0 by decide)
   have h2:=FH (if c < 0 then -c else c) (show(0:Int) < 2147483587 by decide)
   refine q p _ _ hp ?_ (by omega) (by omega)
   generalize (if c < 0 then -c else c) - 10 ^ (18:Int).toNat=d;split <;> omega
  have tail:∀c:Int,∃ (x:V),([some (.ref a),some (.int k),some (.int c)]:St)[2]? = some (some x):=fun c=>⟨_,rfl⟩;refine gp (fun hk=>?_) (fun hk=>?_)
  ·have mf:k < ((ns.map V.int).length:Int):=iP hk
   rw[aJ]at mf;obtain⟨z,hz⟩:=Te (ns:=ns) (i:=k.toNat) (by omega)
   refine⟨_,rfl,_,rfl,a,_,_,_,rfl,rfl,hS,(by rw[show k=((k.toNat:Nat):Int) by omega];exact cW hz),?_⟩
   refine⟨_,rfl,z,rfl,_,_,rfl,rfl,⟨by decide,by decide,by decide⟩,_,_,rfl,rfl,_,_,rfl,?_⟩
   refine⟨_,rfl,z,rfl,_,_,rfl,rfl,(by show(0:Int) < 2147483587;decide),_,rfl,_,_,rfl,rfl,.inl ⟨by decide,by decide⟩,_,_,rfl,rfl,_,_,rfl,rfl,eT,fun p hp=>fin z p hp⟩
  ·refine⟨_,rfl,0,rfl,_,_,rfl,rfl,⟨by decide,by decide,by decide⟩,_,_,rfl,rfl,_,_,rfl,?_⟩
   refine⟨_,rfl,0,rfl,_,_,rfl,rfl,(by show(0:Int) < 2147483587;decide),_,rfl,_,_,rfl,rfl,.inl ⟨by decide,by decide⟩,_,_,rfl,rfl,_,_,rfl,rfl,eT,fun p hp=>fin 0 p hp⟩
inductive lF (vs:List V) (H:Hp) (Q:VK) (E:XK):Prop
 |mk {p:Addr}{m x y:Int} (_:vs = [.ref p,.int m]) (_:H p=some (.lst [.int x,.int y])) (_:0<=x) (_:0<=y) (_:y < 4294967296) (_:0 < m) (_:m < 4611686018427387904) (_:∀ (d x' y':Int),0<=d->d < m->0<=x'->0<=y'->y' < 4294967296->Q (.int d) (upd H p (.lst [.int x',.int y']))):lF vs H Q E
theorem IC:bx ["_law_pot_here","_law_many","_law_digit_here"] ["_law_pot_here","_law_many"] (aN sj):=bS (by decide +kernel)
theorem An (F:aW K "_law_digit" "_law_digit" sj f fd):aU P w K mg base aQ 1 f fd ["_law_pot_here","_law_many"] lF:=by
 refine F.ok IC (fun vs H Q E h=>?_) (fun aF A outer s H vs Q E hr h=>?_)
 ·obtain⟨rfl,_⟩:=h;rfl
 ·obtain @⟨p,m,x,y,rfl,hp,x0,y0,y1,m0,m1,q⟩:=h
  refine⟨_,aE (cL (cD Jd (bo fc (pv 0) ay (fun _ _=>rfl)) ay (cR _))
    (aE (a4 (i:=2) IC.nd rfl (Or.inl rfl) (bJ sg (bo fc (pv 0) ay (fun _ _=>rfl)) (pv 1)))
    (aE (nu (bJ RB (bo fc (pv 0) ay (fun _ _=>rfl)) (pv 1)) (IJ (pv 0) ay set_list))
    (aP (bz (pv 2))))) cV)
   (aE (nu (bJ sg (bJ iQ (bJ wg (bo fc (pv 0) ay (fun _ _=>rfl)) ay) ay) ay) (IJ (pv 0) ay set_list))
   (aP (bz (bJ sg (bJ R4 (bJ sg (bJ wg (bo fc (pv 0) ay (fun _ _=>rfl)) (bo fc (pv 0) ay (fun _ _=>rfl))) ay) ay) (pv 1))))),?_⟩
  have hl:ai K H p [.int x,.int y]:=ai.of hp;refine⟨_,rfl,p,_,0,_,rfl,rfl,hl,rfl,_,_,rfl,rfl,_,rfl,?_⟩;refine gp (fun hx=>?_) (fun hx=>?_)
  ·refine⟨_,rfl,p,_,0,_,rfl,rfl,hl,rfl,_,rfl,_,_,rfl,rfl,m0,?_⟩
   refine⟨_,rfl,p,_,0,_,rfl,rfl,hl,rfl,_,rfl,_,_,rfl,rfl,⟨m0,by omega⟩,_,rfl,p,_,0,0,rfl,rfl,hp,rfl,?_⟩
   refine⟨_,rfl,?_⟩;exact q _ _ _ (FG _ (by omega)) (FH _ m0) (Int.ediv_nonneg x0 (by omega)) y0 y1
  ·refine⟨_,rfl,p,_,1,_,rfl,rfl,hl,rfl,_,_,rfl,rfl,.inr ⟨by decide,by decide⟩,_,_,rfl,rfl,_,_,rfl,rfl,(by show(0:Int) < 2147483647;decide),_,rfl,p,_,1,1,rfl,rfl,hp,rfl,?_⟩
   have h1:=FG (y * 39373+20011) (show(2147483647:Int)≠0 by decide)
   have h2:=FH (y * 39373+20011) (show(0:Int) < 2147483647 by decide)
   refine⟨_,rfl,p,_,1,_,rfl,rfl,ai.of ag,rfl,_,rfl,p,_,1,_,rfl,rfl,ai.of ag,rfl,_,_,rfl,rfl,.inl ⟨Int.lt_of_lt_of_le (by decide) h1,Int.lt_of_lt_of_le h2 (by decide)⟩,_,_,rfl,rfl,(by show(0:Int) < 2147483563;decide),_,_,rfl,rfl,⟨by decide,by decide⟩,_,rfl,_,_,rfl,rfl,m0,?_⟩
   exact q _ x _ (FG _ (by omega)) (FH _ m0) x0 h1 (by omega)
def eQ (p:Addr) (H:Hp):Prop:= ∃x y:Int,H p=some (.lst [.int x,.int y])/\0<=x/\0<=y/\y < 4294967296
structure ba (p:Addr) (H H':Hp):Prop where
 ok:eQ p H'
 kp:∀b o,H b=some o->b≠p->H' b=some o
section
variable{o:HO}
theorem ba.refl (h:eQ p H):ba p H H:=⟨h,fun _ _ e _=>e⟩
theorem ba.trans (a:ba p H H1) (b:ba p H1 H2):ba p H H2:=⟨b.ok,fun c o e n=>b.kp c o (a.kp c o e n) n⟩
theorem eQ.ne (h:eQ p H) (hq:H q=none):p≠q:=let ⟨_,_,e,_⟩:=h;au e hq
theorem ba.new (a:ba p H H1) (hq:H1 q=none):ba p H (upd H1 q o):=by
 refine⟨?_,fun b u e n=>?_⟩
 ·obtain⟨x,y,e,r⟩:=id a.ok
  exact⟨x,y,by rw[ae (a.ok.ne hq)];exact e,r⟩
 ·rw[ae (au (a.kp b u e n) hq)];exact a.kp b u e n
theorem ba.free (a:ba p H H1) (hq:H1 q=none):H q=none:=by
 cases e:H q with
 |none=>rfl
 |some u =>
  by_cases h:q=p
  ·subst h;obtain⟨_,_,z,_⟩:=a.ok;rw[z]at hq;cases hq
  ·rw[a.kp q u e h]at hq;cases hq
theorem ba.write (a:ba p H H1) (hq:H q=none) (hp:p≠q):ba p H (upd H1 q o):=by
 refine⟨?_,fun b u e n=>?_⟩
 ·obtain⟨x,y,e,r⟩:=id a.ok
  exact⟨x,y,by rw[ae hp];exact e,r⟩
 ·rw[ae (au e hq)];exact a.kp b u e n
theorem e9 {m:Int}{Q:VK}{E:XK} (h:eQ p H) (m0:0 < m) (m1:m < 4611686018427387904) (k:∀d H',0<=d->d < m->ba p H H'->Q (.int d) H'):lF [.ref p,.int m] H Q E:=by
 obtain⟨x,y,e,x0,y0,y1⟩:=h;exact⟨rfl,e,x0,y0,y1,m0,m1,fun d x' y' d0 d1 h1 h2 h3=>k d _ d0 d1 ⟨⟨x',y',ag,h1,h2,h3⟩,fun b o z n=>by rw[ae n];exact z⟩⟩
end
theorem Ho:∀cs:List Nat,((cs.map sign).map (·.length)).sum=cs.length
 |[]=>rfl
 |c::cs=>by
  have e:(sign c).length=1:=rfl;simp only[cA,FF,Ho cs,gi,e];omega
abbrev m9:Str:= "abcdefghijklmnopqrstuvwxyz"
theorem Hq {d:Int} (h0:0<=d) (h1:d < 26):∃c:Nat,c7 m9.cps.toList d=some c/\97<=c/\c<=122/\c=97+d.toNat:=by
 have all:∀i:Nat,i < 26->m9.cps.toList[i]? = some (97+i):=by decide +kernel
 refine⟨97+d.toNat,?_,by omega,by omega,rfl⟩
 rw[show d=((d.toNat:Nat):Int) by omega]
 exact cW (all d.toNat (by omega))
inductive kj (vs:List V) (H:Hp) (Q:VK) (E:XK):Prop
 |mk {p:Addr}{m:Nat} (_:vs = [.ref p,.int m]) (_:eQ p H) (_:m<=20) (_:∀ (l:Addr) (ys:List Str) (H':Hp),H l=none->ys.length=m->(∀y∈ys,Nm y)->ys.Nodup->ba p H H'->H' l=some (.lst (ys.map V.str))->Q (.ref l) H'):kj vs H Q E
abbrev wq:List Str:= ["_law_pot_here","_law_many","_law_letters","_law_found","_law_k","_law_size","_law_name","_law_some"]
theorem lG:bx wq ["_law_pot_here","_law_many"] (aN ku):=bS (by decide +kernel)
def IV (s:Stmt):List Stmt:=match s with|.If _ b _ _=>b|_=>[]
abbrev W2:Scope:=di (jM (iE (bZ (vX (bZ (bF ku) 2)) 1)))
abbrev W3:Scope:=di (iE (bZ (IV (bZ (vX (bZ (bF ku) 2)) 2)) 0))
abbrev W4:Scope:=di (WZ (iE (bZ (IV (bZ (vX (bZ (bF ku) 2)) 2)) 1)))
theorem LO:cg wq (aN ku) ["_law_turn","_law_letters","_law_pot_here"] [none,some 2,some 0] W2:=fg (by decide +kernel)
theorem LP:cg wq (aN ku) ["_law_turn","_law_letters","_law_name"] [none,some 2,some 6] W3:=fg (by decide +kernel)
theorem LQ:cg wq (aN ku) ["_law_one","_law_found"] [none,some 3] W4:=fg (by decide +kernel)
theorem RQ {oK:FuncData} (F:aW K "_law_names" "_law_names" ku f fd) (B:gN mg) (FD:aW K "_law_digit" "_law_digit" sj fD oK) (bD:Binds K oK ["_law_pot_here","_law_many"] []) (mD:mg "_law_digit" = some (.ref fD)) :
  aU P w K mg base aQ 3 f fd ["_law_pot_here","_law_many"] kj:=by
 have GD:aU P w K mg base aQ 1 fD oK ["_law_pot_here","_law_many"] lF:=An FD;refine F.ok lG (fun vs H Q E h=>?_) (fun aF A outer s H vs Q E hr h=>?_)
 ·obtain⟨rfl,_⟩:=h;rfl
 ·obtain @⟨p,m,rfl,hp,m1,q⟩:=h
  have bO:aX 1 _:=hr.mono (by decide)
  refine⟨_,aE (a4 (i:=2) lG.nd rfl (Or.inr rfl) df)
   (aE (a4 (i:=3) lG.nd rfl (Or.inr rfl) (fX ah))
   (aE (gV gx rfl (rK rfl B.range (aa (pv 1) ah)) (bc (i:=4) lG.nd rfl (Or.inl rfl))
    (aE (a4 (i:=5) lG.nd rfl (Or.inl rfl) (bJ iQ ay (gU GD bO rfl mD FD.kp bD .nil ff (aa (pv 0) (aa (bo fc (fX (aa ay (aa ay (aa ay ah))))
      (gU GD bO rfl mD FD.kp bD .nil ff (aa (pv 0) (aa ay ah))) (fun _ _=>rfl)) ah)))))
    (aE (a4 (i:=6) lG.nd rfl (Or.inr rfl) (kz PySem.F.plainAttrs_str PySem.F.slot_str_join PySem.F.type_str_join Su df
      (aa (gk rfl LO (rK rfl B.range (aa (pv 5) ah)) (fun s H fp=>⟨bc (i:=0) LO.nd rfl (Or.inl rfl),gz,bo IM (pv 1) (gU GD bO rfl mD FD.kp bD .nil ff (aa (pv 2) (aa ay ah))) (fun _ _=>rfl)⟩)) ah)))
    (aE (cL (cD pz (pv 6) (pv 3) rfl)
      (aE (rG (i:=7) rfl LP lG.nd rfl rfl (rK rfl B.range (aa (bJ iQ (pv 1) ay) ah)) (fun s H fp=>⟨bc (i:=0) LP.nd rfl (Or.inl rfl),gz,
        bJ F4 (bJ F4 (m3 Us (pv 2) m7 (m8 ay)) (bo IM (pv 1) (pv 0) (fun _ _=>rfl))) df⟩))
      (aP (a4 (i:=6) lG.nd rfl (Or.inr rfl) (bo fc (gk rfl LQ (eP (pv 7)) (fun s H fp=>⟨bc (i:=0) LQ.nd rfl (Or.inl rfl),m4 (cD (PX K rfl) (pv 0) (pv 1) rfl),pv 0⟩)) ay (fun _ _=>rfl)))))
      cV)
    (aP (jc (kz rB zB zC pA (pv 3) (aa (pv 6) ah))))))))
   (aP (bz (pv 3))))),?_⟩
  refine⟨bw _,fun l hl=>?_⟩;have cF:p≠l:=hp.ne hl;have em:((m:Int)).toNat=m:=Fb m;refine⟨_,rfl,(m:Int),rfl,by omega,by omega,vz (fun i σ H1=>∃ (ys:List Str) (v4 v5 v6 v7:Option V),σ = [some (.ref p),some (.int m),some (.str m9),some (.ref l),v4,v5,v6,v7]/\ys.length=i/\(∀y∈ys,Nm y)/\ys.Nodup/\ba p H H1/\H1 l=some (.lst (ys.map V.str)))
   ⟨[],none,none,none,none,rfl,rfl,(fun y hy=>by simp at hy),lu,(ba.refl hp).new hl,ag⟩ ?_ ?_⟩
  ·rintro i σ H1 hi ⟨ys,v4,v5,v6,v7,rfl,hlen,yA,eV,pa,mx⟩
   rw[em]at hi;refine⟨_,rfl,kR,fun a hq=>⟨_,rfl,?_⟩⟩;have nqp:a≠p:=aV (pa.ok.ne hq);refine e9 (p:=p) (m:=3) ((ba.refl pa.ok).new hq).ok (by decide) (by decide) fun d H2 d0 d1 pb=>?_
   obtain⟨mv,DC,mv0,mv1⟩:∃mv:Int,c7 [V.int 1,V.int 2,V.int 8] d=some (V.int mv)/\0 < mv/\mv<=8:=by
    have:d=0\/d=1\/d=2:=by omega
    rcases this with rfl|rfl|rfl
    ·exact⟨1,rfl,by decide,by decide⟩
    ·exact⟨2,rfl,by decide,by decide⟩
    ·exact⟨8,rfl,by decide,by decide⟩
   refine⟨a,_,d,_,rfl,rfl,ai.of (pb.kp a _ ag nqp),DC,?_⟩;refine e9 (p:=p) (m:=mv) pb.ok mv0 (by omega) fun e H3 e0 e1 pc=>⟨_,_,rfl,rfl,?_⟩
   have pd:ba p H1 H3:=(((ba.refl pa.ok).new hq).trans pb).trans pc;have hl3:H3 l=some (.lst (ys.map V.str)):=pd.kp l _ mx (aV cF);refine⟨rfl,_,rfl,1+e,rfl,by omega,by omega,fun a1 i4=>?_⟩
   have yk:p≠a1:=pc.ok.ne i4;refine Ga (fun i zs τ H4=>∃ (cs:List Nat) (t0:Option V),zs=(cs.map sign).map V.str/\cs.length=i/\(∀c∈cs,97<=c/\c<=122)/\τ = [t0,some (.str m9),some (.ref p)]/\ba p H3 H4/\H4 a1=some (.lst zs))
    ⟨[],none,rfl,rfl,(fun c hc=>by simp at hc),rfl,(ba.refl pc.ok).new i4,ag⟩ (fun i zs τ H4 ⟨_,_,_,_,_,_,_,z⟩=>z) ?_ ?_
   ·rintro j zs τ H4 hj ⟨cs,t0,rfl,jT,DK,rfl,pe,hz⟩
    refine⟨_,rfl,_,rfl,e9 (p:=p) (m:=26) pe.ok (by decide) (by decide) fun d H5 d0 d1 pf=>?_⟩
    obtain⟨c,hc,c0,c1,_⟩:=Hq d0 d1;have hz5:H5 a1=_:=pf.kp a1 _ hz (aV yk);refine⟨m9,d,c,rfl,rfl,(by rw[aT];decide +kernel),hc,hz5,?_,cw_next hj ⟨cs ++ [c],_,?_,?_,?_,rfl,?_,ag⟩⟩
    ·rw[aJ,aJ,jT,aT];omega
    ·rw[bQ,bQ];rfl
    ·rw[e7,jT];rfl
    ·intro x hx
     rcases dS.mp hx with h|h
     ·exact DK x h
     ·have:x=c:=by simpa using h
      rw[this];exact⟨c0,c1⟩
    ·exact(pe.trans pf).write ((ba.refl pc.ok).free i4) yk
   ·rintro zs τ H4 ⟨cs,t0,rfl,jT,DK,rfl,pe,hz⟩
    have hsl:((cs.map sign).map (·.length)).sum=cs.length:=by
     exact Ho cs
    refine⟨("" : Str),a1,cs.map sign,rfl,rfl,.inl (ai.of hz),?_,?_⟩
    ·have:(Str.length ("" : Str))=0:=rfl
     rw[hsl,this,jT];omega
    rw[PU];generalize Kc:(⟨cs.toArray⟩:Str)=nm;have BU:Nm nm:=by
     have el:nm.length=cs.length:=by rw[<-Kc];show cs.toArray.size=_;simp
     refine⟨by omega,by omega,fun c hc=>DK c ?_⟩
     rw[<-Kc]at hc;simpa using hc
    have pg:ba p H1 H4:=pd.trans pe;have oM:H4 l=some (.lst (ys.map V.str)):=pe.kp l _ hl3 (aV cF);refine⟨_,rfl,_,rfl,l,_,rfl,.inl (ai.of oM),rfl,mZ _,_,rfl,?_⟩;rw[ar cz,pG];refine gp (fun iL=>?_) (fun iL=>?_)
    ·
     refine⟨_,rfl,_,_,rfl,rfl,(m:Int)+1,rfl,by omega,by omega,fun a2 qF=>?_⟩
     refine Ga (fun i zs τ H5=>∃t0:Option V,zs=((List.range i).map fun j=>Txt.slice nm none (some 6)++sign (97+j)++("q" : Str)).map V.str/\τ = [t0,some (.str m9),some (.str nm)]/\H5=upd H4 a2 (.lst zs))
      ⟨none,rfl,rfl,rfl⟩ (fun i zs τ H5 ⟨_,_,_,z⟩=>by rw[z];exact ag) ?_ ?_
     ·rintro j zs τ H5 hj ⟨t0,rfl,rfl,rfl⟩
      have hj':j < m+1:=by omega
      obtain⟨c,hc,c0,c1,hce⟩:=Hq (d:=0+(j:Int)) (by omega) (by omega)
      have W5:c=97+j:=by rw[hce];omega
      have l1:(Txt.slice nm none (some 6)).length<=6:=Gd nm;refine⟨_,rfl,_,rfl,nm,rfl,by have:=BU.hi;omega,_,rfl,_,rfl,m9,_,c,rfl,rfl,(by rw[aT];decide +kernel),hc,_,_,rfl,rfl,?_,_,_,rfl,rfl,?_,ag,?_,cw_next hj ⟨_,?_,rfl,?_⟩⟩
      ·show _+1<=sizeLine;rw[aT];omega
      ·have e1:(Txt.slice nm none (some 6)++(⟨#[c]⟩:Str)).length=(Txt.slice nm none (some 6)).length+1:=by
        show(_ ++ #[c]:Array Nat).size=_;rw[Fo];rfl
       have e2:(("q" : Str)).length=1:=by decide +kernel
       show(Txt.slice nm none (some 6)++(⟨#[c]⟩:Str)).length+_<=sizeLine;rw[e1,e2,aT];omega
      ·rw[aJ,aJ,Oi,aT];omega
      ·rw[List.range_succ,bQ,bQ,W5];rfl
      ·rw[hW]
     ·rintro zs τ H5 ⟨t0,rfl,rfl,rfl⟩
      have em1:((m:Int)+1).toNat=m+1:=by omega
      generalize ee:(List.range ((m:Int)+1).toNat).map (fun j=>Txt.slice nm none (some 6)++sign (97+j)++("q" : Str))=cands;have cnd:cands.Nodup:=by
       rw[<-ee];refine List.Pairwise.map _ (fun a b LN h=>LN ?_) List.nodup_range;have:=Rr h;omega
      have cnm:∀y∈cands,Nm y:=by
       intro y hy;rw[<-ee]at hy;obtain⟨j,hj,rfl⟩:=bt.mp hy;have:=mS.mp hj;exact Sv BU.az ⟨by omega,by omega⟩
      have af1:cands.length=m+1:=by rw[<-ee,aJ,Oi,em1]
      have yB:upd H4 a2 (.lst (cands.map V.str)) l=some (.lst (ys.map V.str)):=by rw[ae (au oM qF)];exact oM
      refine⟨_,rfl,a2,rfl,⟨_,ai.of ag⟩,fun a3 g9=>?_⟩;refine iz (xs:=cands.map V.str) (fun i zs τ H6=>∃t0:Option V,zs=((cands.take i).filter (fun y=>!decide (y∈ys))).map V.str/\τ = [t0,some (.ref l)]/\H6=upd (upd H4 a2 (.lst (cands.map V.str))) a3 (.lst zs))
       ⟨none,rfl,rfl,rfl⟩ (fun i zs τ H6 ⟨_,_,_,z⟩=>by rw[z];exact⟨ag,ai.of (by rw[ae (au ag g9)];exact ag)⟩) ?_ ?_
      ·rintro j x zs τ H6 hx ⟨t0,rfl,rfl,rfl⟩
       rw[gS]at hx;obtain⟨y,hy,rfl⟩:=lj.mp hx;have b7:j < (cands.map V.str).length:=by rw[aJ];exact(b4.mp hy).1
       have tk:cands.take (j+1)=cands.take j ++ [y]:=by rw[dj,hy];rfl
       have yC:(upd (upd H4 a2 (.lst (cands.map V.str))) a3 (.lst (((cands.take j).filter (fun y=>!decide (y∈ys))).map V.str))) l=some (.lst (ys.map V.str)):=by rw[ae (au yB g9)];exact yB
       refine⟨_,rfl,_,rfl,l,_,rfl,.inl (ai.of yC),rfl,mZ _,_,rfl,?_⟩;rw[aB rfl,pG];refine gp (fun hn=>?_) (fun hn=>?_)
       ·refine⟨_,rfl,ag,?_,cw_next b7 ⟨_,?_,rfl,?_⟩⟩
        ·have h1:=lx (fun y=>!decide (y∈ys)) (cands.take j)
         have h2:(cands.take j).length<=cands.length:=by rw[c8];omega
         rw[aJ,aT];omega
        ·rw[tk,ly,bQ,OF,aB hn];rfl
        ·rw[hW]
       ·refine cw_next b7 ⟨_,?_,rfl,rfl⟩
        rw[tk,ly,OF,ar hn,List.filter_nil,iw]
      ·rintro zs τ H6 ⟨t0,rfl,rfl,rfl⟩
       rw[aJ,dc];obtain⟨y0,hy0,hyn⟩:=A0 (found:=ys) cnd (by omega)
       have Kd:y0∈cands.filter (fun y=>!decide (y∈ys)):=i8.mpr ⟨hy0,by simpa using hyn⟩
       cases hf:cands.filter (fun y=>!decide (y∈ys)) with
       |nil=>rw[hf]at Kd;simp at Kd
       |cons z1 zr =>
        have hz1:z1∈cands.filter (fun y=>!decide (y∈ys)):=by rw[hf];exact br
        obtain⟨zc,zn⟩:=i8.mp hz1;have zn':z1 ∉ ys:=by simpa using zn
        have yC:(upd (upd H4 a2 (.lst (cands.map V.str))) a3 (.lst ((z1::zr).map V.str))) l=some (.lst (ys.map V.str)):=by rw[ae (au yB g9)];exact yB
        have ph:ba p H (upd (upd H4 a2 (.lst (cands.map V.str))) a3 (.lst ((z1::zr).map V.str))):=((pa.trans pg).new qF).new g9;refine⟨a3,_,0,V.str z1,rfl,rfl,ai.of ag,(show c7 ((z1::zr).map V.str) ((0:Nat):Int)=some (V.str z1) from cW rfl),?_⟩;refine⟨_,rfl,.inl ⟨rfl,_,ai.of yC⟩,_,rfl,l,_,_,rfl,rfl,yC,?_,?_⟩
        ·rw[aJ,aT];omega
        ·refine⟨ys ++ [z1],_,_,_,_,rfl,by rw[e7,hlen];rfl,?_,?_,?_,?_⟩
         ·intro y hy
          rcases dS.mp hy with h|h
          ·exact yA y h
          ·have:y=z1:=by simpa using h
           rw[this];exact cnm z1 zc
         ·rw[jy]
          exact⟨eV,by simp,fun a ha b hb=>by rw[show b=z1 by simpa using hb];exact fun h=>zn' (h ▸ ha)⟩
         ·exact ph.write hl cF
         ·rw[ag,bQ];rfl
    ·have tK:nm ∉ ys:=by simpa using iL
     have ph:ba p H H4:=pa.trans pg;refine⟨_,rfl,.inl ⟨rfl,_,ai.of oM⟩,_,rfl,l,_,_,rfl,rfl,oM,?_,?_⟩
     ·rw[aJ,aT];omega
     ·refine⟨ys ++ [nm],_,_,_,_,rfl,by rw[e7,hlen];rfl,?_,?_,?_,?_⟩
      ·intro y hy
       rcases dS.mp hy with h|h
       ·exact yA y h
       ·have:y=nm:=by simpa using h
        rw[this];exact BU
      ·rw[jy]
       exact⟨eV,by simp,fun a ha b hb=>by rw[show b=nm by simpa using hb];exact fun h=>tK (h ▸ ha)⟩
      ·exact ph.write hl cF
      ·rw[ag,bQ];rfl
  ·rintro σ H1 ⟨ys,v4,v5,v6,v7,rfl,hlen,yA,eV,pa,mx⟩
   rw[em]at hlen;exact⟨_,rfl,q l ys H1 hl hlen yA eV pa mx⟩
end fw
namespace fw
open PySem L2 PySem.W HT
theorem Pt (K:Frag) (h:X.K=K):dZ X (.type "list") (fun xs H Q=>∃p ys,xs = [.ref p]/\(ai K H p ys\/aG K H p ys) /\ ∀l,H l=none->Q (.ref l) (upd H l (.lst ys))):=by subst h;exact rC
theorem Pu (K:Frag) (h:X.K=K) (hc:X.calm=true):dZ X (.builtin "any") (fun xs H Q=>∃ (p:Addr) (bs:List Bool),xs = [.ref p]/\ai K H p (bs.map V.bl)/\Q (.bl (bs.any id)) H):=by subst h;exact Hd hc
theorem QT (K:Frag) (h:X.K=K):qw X (JM K):=by subst h;exact vT
def hZ (av:Addr->Prop) (H:Hp) (vs:List V) (rows:List (List Str)):Prop:=Paired (fun y r=>∃a,y=V.ref a/\av a/\H a=some (.lst (r.map V.str))) vs rows
theorem pD {av:Addr->Prop}{H:Hp}:∀ {vs:List V}{rows:List (List Str)}{i:Nat}{v:V},hZ av H vs rows->vs[i]? = some v -> ∃a r,v=V.ref a/\rows[i]? = some r/\av a/\H a=some (.lst (r.map V.str))
 |_,_,i,v,.nil,e=>by simp at e
 |_,_,0,v,.cons p _,e=>by
  obtain⟨a,rfl,n,q⟩:=p;simp at e;subst e;exact⟨a,_,rfl,rfl,n,q⟩
 |_,_,i+1,v,.cons _ t,e=>by
  obtain⟨a,r,e1,e2,n,q⟩:=pD (i:=i) t (by simpa using e)
  exact⟨a,r,e1,by simpa using e2,n,q⟩
theorem lC {LR:Addr->Prop} (h:hZ av H vs rows) (f:∀a xs,av a->H a=some (.lst xs)->LR a/\H' a=some (.lst xs)):hZ LR H' vs rows:=
 Paired.imp' (fun _ _ ⟨a,e,n,q⟩=>⟨a,e,(f a _ n q).1,(f a _ n q).2⟩) h
theorem zM (h:hZ av H vs rows) (n:av a) (q:H a=some (.lst (r.map V.str))):hZ av H (vs ++ [.ref a]) (rows ++ [r]):=lq h ⟨a,rfl,n,q⟩
theorem mX (h:hZ av H vs rows):vs.length=rows.length:=eu h
theorem wK (h:Nm x):PyData.strOk x=true:=by
 unfold PyData.strOk;rw[<-Array.all_toList,vg];intro c hc;have:=(h.az c hc).2;exact gj (by omega)
theorem Ao (H:Hp):∀xs:List Str,dg H (xs.map V.str) (xs.map PyData.str)
 |[]=>.nil
 |x::xs=>.cons (.str x) (Ao H xs)
theorem Ap:∀ {xs:List Str},(∀x∈xs,Nm x)->PyData.canLayAll0 (xs.map PyData.str)=true
 |[],_=>rfl
 |x::xs,h=>by
  show(PyData.strOk x && PyData.canLayAll0 (xs.map PyData.str))=true;rw[wK (h x br),Ap fun y hy=>h y (bU _ hy)];rfl
theorem zY:∀xs:List Str,PyData.depthAll (xs.map PyData.str)=0
 |[]=>rfl
 |x::xs=>by rw[cA];simp only[PyData.depthAll,PyData.depth,zY xs,Nat.max_self]
theorem ne_nil {xs:List Str}{Q:VK} (ha:H a=some (.lst (xs.map V.str))) (hb:H b=some (.lst [])) (hn:∀x∈xs,Nm x) (q:Q (.bl (!xs.isEmpty)) H):JV (.ref a) (.ref b) H Q:=by
 refine⟨.list (xs.map PyData.str),.list [],.lst ha (Ao _ _),.lst hb .nil,Ap hn,rfl,by show PyData.depthAll _+1<=60;rw[zY];decide,?_⟩
 cases xs with
 |nil=>exact q
 |cons x xs=>exact q
theorem eq_nil {xs:List Str}{Q:VK} (ha:H a=some (.lst (xs.map V.str))) (hb:H b=some (.lst [])) (hn:∀x∈xs,Nm x) (q:Q (.bl xs.isEmpty) H):JU (.ref a) (.ref b) H Q:=by
 refine⟨.list (xs.map PyData.str),.list [],.lst ha (Ao _ _),.lst hb .nil,Ap hn,rfl,by show PyData.depthAll _+1<=60;rw[zY];decide,?_⟩
 cases xs with
 |nil=>exact q
 |cons x xs=>exact q
theorem Aq (xs:List V) (k:Nat):gX xs (some (k:Int)) none=xs.drop k:=by
 unfold gX;rw[HT.Rl,HT.R8]
 by_cases h:k<=xs.length
 ·rw[Nat.min_eq_left h,OG (by rw[Ob];omega)]
 ·rw[Nat.min_eq_right (by omega),OE,afs (by omega)];simp
def busy (rest:List (List Str)) (x:Str):Bool:=rest.any fun o=>decide (x∈o.drop 1)
def cN (all:List (List Str)):List (List Str)->List Str
 |[]=>[]
 |[]::rest=>cN all rest
 |(x::_)::rest=>if busy all x then cN all rest else x::cN all rest
theorem vF {n:Str}:∀ {k:Nat}{rest:List (List Str)},dq k rest n=none ↔ ∀r∈rest,n∈r->r.head? = some n
 |k,[]=>by simp[dq]
 |k,[]::rest=>by
  show dq (k+1) rest n=none ↔ _;rw[vF (k:=k+1) (rest:=rest)];simp
 |k,(x::r)::rest=>by
  show(if n∈x::r/\x≠n then some (k,x) else dq (k+1) rest n)=none ↔ _
  by_cases h:n∈x::r/\x≠n
  ·rw[aB h]
   constructor
   ·intro z;cases z
   ·intro z
    have:=z _ br h.1;exact absurd (by simpa using this) h.2
  ·rw[ar h,vF (k:=k+1) (rest:=rest)]
   constructor
   ·intro z q hq hn
    rcases b9.mp hq with rfl|hq
    ·by_cases e:x=n
     ·rw[e];rfl
     ·exact absurd ⟨hn,e⟩ h
    ·exact z q hq hn
   ·exact fun z q hq=>z q (bU _ hq)
theorem HP {all:List (List Str)} (eV:∀r∈all,r.Nodup) (x:Str):busy all x=false ↔ dq 0 all x=none:=by
 rw[vF];unfold busy;rw[E7]
 constructor
 ·intro h q hq hx
  have h1:=h q hq;cases q with
  |nil=>simp at hx
  |cons y t =>
   rcases b9.mp hx with rfl|hx
   ·rfl
   ·exact absurd (by simpa using hx) h1
 ·intro h r hr
  cases r with
  |nil=>simp
  |cons y t =>
   intro hx;have hx:x∈t:=by simpa using hx
   obtain rfl:y=x:=by simpa using h _ hr (bU _ hx)
   exact(gR.mp (eV _ hr)).1 hx
theorem zZ {all:List (List Str)} (eV:∀r∈all,r.Nodup):∀rest:List (List Str),(cN all rest).head? = ja all rest
 |[]=>rfl
 |[]::rest=>zZ eV rest
 |(x::t)::rest=>by
  show(if busy all x then cN all rest else x::cN all rest).head? = if (dq 0 all x).isNone then some x else ja all rest;cases hb:busy all x with
  |false=>rw[(HP eV x).mp hb];rfl
  |true =>
   have hn:(dq 0 all x).isNone=false:=by
    cases z:dq 0 all x with
    |none=>rw[(HP eV x).mpr z]at hb;cases hb
    |some _=>rfl
   rw[hn];exact zZ eV rest
theorem rH (all:List (List Str)) (r:List Str):∀rest:List (List Str),cN all (rest ++ [r])=cN all rest++cN all [r]
 |[]=>rfl
 |[]::rest=>rH all r rest
 |(x::t)::rest=>by
  show(if busy all x then cN all (rest ++ [r]) else x::cN all (rest ++ [r]))=(if busy all x then cN all rest else x::cN all rest)++cN all [r];rw[rH all r rest];split <;> rfl
theorem Aa (all:List (List Str)):∀rest:List (List Str),(cN all rest).length<=rest.length
 |[]=>aO _
 |[]::rest=>Ow (Aa all rest)
 |(x::t)::rest=>by
  have:=Aa all rest;show(if busy all x then cN all rest else x::cN all rest).length<=rest.length+1;split
  ·omega
  ·rw[gi];omega
theorem vG {all:List (List Str)}{n:Str}:∀ {rest:List (List Str)},n∈cN all rest -> ∃r∈rest,n∈r
 |[],h=>by simp[cN]at h
 |[]::rest,h=>let ⟨r,hr,e⟩:=vG (rest:=rest) h;⟨r,bU _ hr,e⟩
 |(x::t)::rest,h=>by
  have h:n∈(if busy all x then cN all rest else x::cN all rest):=h;split at h
  ·obtain⟨r,hr,e⟩:=vG (rest:=rest) h
   exact⟨r,bU _ hr,e⟩
  ·rcases b9.mp h with rfl|h
   ·exact⟨_,br,br⟩
   ·obtain⟨r,hr,e⟩:=vG (rest:=rest) h
    exact⟨r,bU _ hr,e⟩
theorem Gj (h:∀r∈rest,r.Nodup):∀r∈L2.without n rest,r.Nodup:=by
 intro r hr;obtain⟨q,hq,rfl⟩:=bt.mp hr;exact(h q hq).filter _
structure Ke (H:Hp) (rows:List (List Str)) (l fa:Addr) (m:Nat) (σ:St) (H1:Hp) (rest:List (List Str)) (lv:List V) (acc:List Str) (la:Addr):Prop where
 st:∃v3:Option V,σ = [some (.ref l),some (.ref la),some (.ref fa),v3]
 mm:m=total rest
 ju:H1 la=some (.lst lv)
 rr:hZ (fun a=>a≠fa) H1 lv rest
 ne:la≠fa
 i5:H1 fa=some (.lst (acc.map V.str))
 sm:Small rest
 nd:∀r∈rest,r.Nodup
 same:aw H H1
 lim:acc.length+total rest<=1000
 eq:cj (total rows) rows=(cj (total rest) rest).map (acc ++ ·)
abbrev ud:List Str:= ["_law_rows","_law_left","_law_found","_law_free"]
theorem sY:bx ud ["_law_rows"] (aN jz):=bS (by decide +kernel)
def QU (s:Stmt):Expr:=match s with|.While t _ _ _=>t|_=>.Constant .none 0 ⟨0,0,0,0⟩
def IW (e:Expr):Expr:=match e with|.ListComp _ (⟨_,_,i::_,_⟩::_) _ _=>i|_=>.Constant .none 0 ⟨0,0,0,0⟩
def IX (e:Expr) (i:Nat):Expr:=match e with|.BoolOp _ es _=>es.getD i (.Constant .none 0 ⟨0,0,0,0⟩)|_=>.Constant .none 0 ⟨0,0,0,0⟩
def W6 (e:Expr):Expr:=match e with|.UnaryOp _ x _=>x|_=>.Constant .none 0 ⟨0,0,0,0⟩
abbrev sW:Stmt:=bZ (bF jz) 2
abbrev eA:Expr:=iE (bZ (bF jz) 0)
abbrev eB:Expr:=jM (QU sW)
abbrev eC:Expr:=iE (bZ (rN sW) 0)
abbrev eD:Expr:=jM (W6 (IX (IW eC) 1))
abbrev eE:Expr:=iE (bZ (rN sW) 3)
theorem LS:cg ud (aN jz) ["_law_row"] [none] (di eA):=fg (by decide +kernel)
theorem LU:cg ud (aN jz) ["_law_row"] [none] (di eB):=fg (by decide +kernel)
theorem LV:cg ud (aN jz) ["_law_row","_law_left"] [none,some 1] (di eC):=fg (by decide +kernel)
theorem csD:cg ["_law_row","_law_left"] (relabel (di eC) env) ["_law_other","_law_row"] [none,some 0] (di eD):=nest rfl (by decide +kernel) (by decide +kernel) rfl (by decide +kernel) (by decide +kernel)
theorem ndD:(["_law_other","_law_row"]:List Str).Nodup:=by decide +kernel
theorem LW:cg ud (aN jz) ["_law_row","_law_free"] [none,some 3] (di eE):=fg (by decide +kernel)
theorem csG:cg ["_law_row","_law_free"] (relabel (di eE) env) ["_law_name","_law_free"] [none,some 1] (di (Jn eE)):=nest rfl (by decide +kernel) (by decide +kernel) rfl (by decide +kernel) (by decide +kernel)
theorem ndG:(["_law_name","_law_free"]:List Str).Nodup:=by decide +kernel
inductive xf (vs:List V) (H:Hp) (Q:VK) (E:XK):Prop
 |mk {l:Addr}{ws:List V}{rows:List (List Str)} (_:vs = [.ref l]) (_:H l=some (.lst ws)) (_:hZ (fun _=>True) H ws rows) (_:Small rows) (_:(∀r∈rows,r.Nodup)) (_:(cj (total rows) rows=none -> ∀H',aw H H'->Q .aH H')) (_:(∀o,cj (total rows) rows=some o -> ∀p H',H p=none->aw H H'->H' p=some (.lst (o.map V.str))->Q (.ref p) H')):xf vs H Q E
theorem VC (F:aW K "_law_merged" "_law_merged" jz f fd) (B:gN mg):aU P w K mg base aQ 1 f fd ["_law_rows"] xf:=by
 refine F.ok sY (fun vs H Q E h=>?_) (fun aF A outer s H vs Q E hr h=>?_)
 ·obtain⟨rfl,_⟩:=h;rfl
 ·obtain @⟨l,ws,rows,rfl,hl,hR,hS,eV,qn,qs⟩:=h
  have hu:=hr.units;refine⟨_,aE (a4 (i:=1) sY.nd rfl (Or.inr rfl) (gk rfl LS (eP (pv 0)) (fun s H fp=>⟨bc (i:=0) LS.nd rfl (Or.inl rfl),gz,fS (Pt K rfl) rfl B.list boot_list (aa (pv 0) ah)⟩)))
   (aE (a4 (i:=2) sY.nd rfl (Or.inl rfl) (fX ah))
   (aE (vH gx (pE (cQ (Hd rfl) rfl B.any boot_any (aa (gk rfl LU (eP (pv 1)) (fun s H fp=>⟨bc (i:=0) LU.nd rfl (Or.inl rfl),gz,pJ (AY hu) (pv 0) (fX ah) (cR _)⟩)) ah)) (fun _=>rfl))
    (aE (a4 (i:=3) sY.nd rfl (Or.inr rfl) (gk rfl LV (eP (pv 1)) (fun s H fp=>⟨bc (i:=0) LV.nd rfl (Or.inr rfl),
      m4 (PW.pt (pw_and (cD (AY hu) (pv 0) (fX ah) (cR _)) (pw_and1 (kq (jC (cQ (Pu K rfl rfl) rfl B.any boot_any (aa (gk rfl csD (GY K rfl (pv 1)) (fun s H fp=>⟨bc (i:=0) ndD rfl (Or.inl rfl),gz,pJ (Sx K rfl) (bo (z6 K rfl) (pv 1) ay (fun _ _=>rfl)) (m3 (QT K rfl) (pv 0) (m8 ay) m7) rfl⟩)) ah))))))),
      bo (z6 K rfl) (pv 0) ay (fun _ _=>rfl)⟩)))
    (aE (cL (cD (Ul hu) (pv 3) (fX ah) (cR _)) (aP (bz jd)) cV)
    (aE (jc (kz rB zB zC pA (pv 2) (aa (bo fc (pv 3) ay (fun _ _=>rfl)) ah)))
    (aP (a4 (i:=1) sY.nd rfl (Or.inr rfl) (gk rfl LW (eP (pv 1)) (fun s H fp=>⟨bc (i:=0) LW.nd rfl (Or.inl rfl),gz,
      gk rfl csG (GY K rfl (pv 0)) (fun s H fp=>⟨bc (i:=0) ndG rfl (Or.inl rfl),m4 (cD sx (pv 0) (bo (z6 K rfl) (pv 1) ay (fun _ _=>rfl)) (cR _)),pv 0⟩)⟩))))))))
   (aP (bz (pv 2))))),?_⟩
  refine⟨_,rfl,l,rfl,⟨_,ai.of hl⟩,fun yD nP=>?_⟩;refine iz (xs:=ws) (fun i ys τ H1=>∃t0:Option V,τ = [t0]/\H1 yD=some (.lst ys)/\aw H H1/\hZ (fun a=>a≠yD) H1 ys (rows.take i)) ⟨none,rfl,ag,aA nP,.nil⟩ (fun i ys τ H1 ⟨_,_,z1,z2,_⟩=>⟨z1,ai.of (z2 _ _ hl)⟩) ?_ ?_
  ·rintro i x ys τ H1 hx ⟨t0,rfl,h1,S1,ue⟩
   obtain⟨a,r,rfl,gr,_,gf⟩:=pD hR hx;have aZ:i < ws.length:=(b4.mp hx).1;have tk:rows.take (i+1)=rows.take i ++ [r]:=by rw[dj,gr];rfl
   refine⟨_,rfl,a,_,rfl,.inl (ai.of (S1 _ _ gf)),fun c hc=>?_⟩;have Sc:=aA (o:= .lst (r.map V.str)) hc;have LX:c≠yD:=aV (au h1 hc);refine⟨Sc _ _ h1,?_,cw_next aZ ⟨_,rfl,ag,fun b o hb=>?_,?_⟩⟩
   ·have h2:=mX ue
    have h3:=hS.a8;rw[c8]at h2;rw[aT];omega
   ·rw[ae (au hb nP)];exact Sc _ _ (S1 b o hb)
   ·rw[tk]
    refine zM (lC ue fun b xs nb hb=>⟨nb,by rw[ae nb];exact Sc _ _ hb⟩) LX ?_
    rw[ae LX];exact ag
  ·rintro lv0 τ H1 ⟨t0,rfl,h1,S1,ue⟩
   rw[mX hR,dc]at ue;refine⟨bw _,fun fa i5=>?_⟩;have Sf:=aA (o:= .lst []) i5;have qg:H fa=none:=S1.free i5;refine⟨fun m σ H2=>∃rest lv acc la,Ke H rows l fa m σ H2 rest lv acc la,⟨_,rows,lv0,[],yD,⟨none,rfl⟩,rfl,Sf _ _ h1,lC ue fun b xs nb hb=>⟨au hb i5,Sf _ _ hb⟩,au h1 i5,ag,hS,eV,S1.trans Sf,by have:=vw hS.short;have:=hS.a8;simp only[jx];omega,by cases cj (total rows) rows <;> rfl⟩,?_⟩
   rintro m σ H2 ⟨rest,lv,acc,la,R⟩;obtain⟨v3,rfl⟩:=R.st;refine⟨_,rfl,la,rfl,⟨_,ai.of R.ju⟩,fun pb LY=>?_⟩;refine iz (xs:=lv) (fun i ys τ H3=>∃t0:Option V,τ = [t0]/\ys=((rest.take i).map fun r=>!r.isEmpty).map V.bl/\H3 pb=some (.lst ys)/\aw H2 H3) ⟨none,rfl,rfl,ag,aA LY⟩ (fun i ys τ H3 ⟨_,_,_,z1,z2⟩=>⟨z1,ai.of (z2 _ _ R.ju)⟩) ?_ ?_
   ·rintro i x ys τ H3 hx ⟨t0,rfl,rfl,h3,S3⟩
    obtain⟨a,r,rfl,gr,_,gf⟩:=pD R.rr hx;have aZ:i < lv.length:=(b4.mp hx).1;have tk:rest.take (i+1)=rest.take i ++ [r]:=by rw[dj,gr];rfl
    have uf:=ix gr;refine⟨_,rfl,bw _,fun z hz=>?_⟩;have Sz:=aA (o:= .lst []) hz;refine ne_nil (Sz _ _ (S3 _ _ gf)) ag (R.sm.nm r uf) ?_;refine⟨Sz _ _ h3,?_,cw_next aZ ⟨_,rfl,by rw[tk,bQ,bQ];rfl,ag,fun b o hb=>by rw[ae (au hb LY)];exact Sz _ _ (S3 b o hb)⟩⟩
    have h4:=R.sm.a8;rw[aJ,aJ,c8,aT];omega
   ·rintro bs τ H3 ⟨t0,rfl,rfl,h3,S3⟩
    rw[mX R.rr,dc]at h3;refine⟨pb,_,rfl,ai.of h3,_,rfl,?_⟩;have ean:((rest.map fun r=>!r.isEmpty).any id)=rest.any fun r=>!r.isEmpty:=by rw[Fp];rfl
    rw[ean];have lS:=S3 _ _ R.ju;have qh:=S3 _ _ R.i5;have ug:hZ (fun a=>a≠fa) H3 lv rest:=lC R.rr fun b xs nb hb=>⟨nb,S3 _ _ hb⟩;have LZ:=R.same.trans S3;refine gp (fun hA=>?_) (fun hA=>?_)
    ·refine⟨fun aI H'=>∃m',m' < m /\ ∃rest lv acc la,Ke H rows l fa m' aI H' rest lv acc la,fun _ _ z=>z,?_⟩
     refine⟨_,rfl,la,rfl,⟨_,ai.of lS⟩,fun pc DL=>?_⟩;refine iz (xs:=lv) (fun i ys τ H4=>∃t0:Option V,τ = [t0,some (.ref la)]/\ys=(cN rest (rest.take i)).map V.str/\H4 pc=some (.lst ys)/\aw H3 H4) ⟨none,rfl,rfl,ag,aA DL⟩ (fun i ys τ H4 ⟨_,_,_,z1,z2⟩=>⟨z1,ai.of (z2 _ _ lS)⟩) ?_ ?_
     ·rintro i x ys τ H4 hx ⟨t0,rfl,rfl,h4,S4⟩
      obtain⟨a,r,rfl,gr,_,gf⟩:=pD ug hx;have aZ:i < lv.length:=(b4.mp hx).1;have tk:rest.take (i+1)=rest.take i ++ [r]:=by rw[dj,gr];rfl
      have uf:=ix gr;have Kf:=S4 _ _ gf;refine⟨_,rfl,bw _,fun z hz=>?_⟩;have Sz:=aA (o:= .lst []) hz;refine ne_nil (Sz _ _ Kf) ag (R.sm.nm r uf) ⟨_,rfl,?_⟩;have h5:=Sz _ _ h4;cases r with
      |nil=>exact cw_next aZ ⟨_,rfl,by rw[tk,rH];show _=(_ ++ []).map _;rw[iw],h5,S4.trans Sz⟩
      |cons y t =>
       refine⟨_,rfl,la,rfl,⟨_,ai.of (Sz _ _ (S4 _ _ lS))⟩,fun pd uh=>?_⟩;have npd:pc≠pd:=au h5 uh;refine iz (xs:=lv) (fun j ys τ H6=>∃t1:Option V,τ = [t1,some (.ref a)]/\ys=((rest.take j).map fun o=>decide (y∈o.drop 1)).map V.bl/\H6 pd=some (.lst ys)/\aw (upd H4 z (.lst [])) H6) ⟨none,rfl,rfl,ag,aA uh⟩ (fun j ys τ H6 ⟨_,_,_,z1,z2⟩=>⟨z1,ai.of (z2 _ _ (Sz _ _ (S4 _ _ lS)))⟩) ?_ ?_
       ·rintro j x ys τ H6 L3 ⟨t1,rfl,rfl,h6,S6⟩
        obtain⟨b,o,rfl,hoj,_,DM⟩:=pD ug L3;have b7:j < lv.length:=(b4.mp L3).1;have gu:rest.take (j+1)=rest.take j ++ [o]:=by rw[dj,hoj];rfl
        have L4:=S4.trans (Sz.trans S6);refine⟨_,rfl,a,_,0,.str y,rfl,rfl,ai.of (L4 _ _ gf),mG,?_⟩;refine⟨_,rfl,_,rfl,b,_,rfl,ai.of (L4 _ _ DM),fun p2 iJ=>?_⟩;have ec:gX (o.map V.str) (some 1) none=(o.drop 1).map V.str:=by
         rw[show(1:Int)=((1:Nat):Int) from rfl,Aq,OH]
        rw[ec];have S7:=aA (o:= .lst ((o.drop 1).map V.str)) iJ;refine⟨p2,_,rfl,.inl (ai.of ag),rfl,mZ _,?_⟩;rw[ar cz,pG];refine⟨S7 _ _ h6,?_,cw_next b7 ⟨_,rfl,by rw[gu,bQ,bQ];rfl,ag,fun c u hc=>by rw[ae (au hc uh)];exact S7 _ _ (S6 c u hc)⟩⟩
        have h8:=R.sm.a8;rw[aJ,aJ,c8,aT];omega
       ·rintro bs2 τ H6 ⟨t1,rfl,rfl,h6,S6⟩
        rw[mX ug,dc]at h6;refine⟨pd,_,rfl,ai.of h6,_,rfl,?_⟩;have eb:((rest.map fun o=>decide (y∈o.drop 1)).any id)=busy rest y:=by unfold busy;rw[Fp];rfl
        rw[eb];have ui:=Sz.trans S6;cases hb:busy rest y with
        |true =>
         refine cw_next aZ ⟨_,rfl,?_,S6 _ _ h5,S4.trans ui⟩;rw[tk,rH];show _=(_++(if busy rest y then cN rest [] else y::cN rest [])).map _;rw[hb];show _=(_ ++ []).map _;rw[iw]
        |false =>
         refine⟨_,rfl,a,_,0,.str y,rfl,rfl,ai.of (ui _ _ Kf),mG,S6 _ _ h5,?_,cw_next aZ ⟨_,rfl,?_,ag,fun c u hc=>by rw[ae (au hc DL)];exact ui _ _ (S4 c u hc)⟩⟩
         ·have h8:=Aa rest (rest.take i)
          have h9:=R.sm.a8;rw[c8]at h8;rw[aJ,aT];omega
         ·rw[tk,rH]
          show _=(_++(if busy rest y then cN rest [] else y::cN rest [])).map _;rw[hb,bQ];rfl
     ·rintro fr τ H4 ⟨t0,rfl,rfl,h4,S4⟩
      rw[mX ug,dc]at h4;have L5:∀x∈cN rest rest,Nm x:=fun x hx=>by
       obtain⟨r,hr,e⟩:=vG hx;exact R.sm.nm r hr x e
      have hfh:=zZ R.nd rest;refine⟨_,rfl,bw _,fun z hz=>?_⟩;have Sz:=aA (o:= .lst []) hz;refine eq_nil (Sz _ _ h4) ag L5 ⟨_,rfl,?_⟩;have yE:gy rest=(cN rest rest).head?:=hfh.symm;have DN:=LZ.trans (S4.trans Sz);have h5:=Sz _ _ h4;have Kg:=Sz _ _ (S4 _ _ lS);have BV:=Sz _ _ (S4 _ _ qh);generalize cN rest rest=fr at yE h5 L5 ⊢;cases fr with
      |nil =>
       refine qn ?_ _ DN;rw[R.eq,zW hA yE];rfl
      |cons n ft =>
       have e:gy rest=some n:=yE;have lt:=o7 (pC e);generalize hG:upd H4 z (.lst [])=G at DN h5 Kg BV Sz ⊢;have rrG:hZ (fun a=>a≠fa) G lv rest:=lC ug fun b xs nb hb=>⟨nb,Sz _ _ (S4 _ _ hb)⟩;refine⟨_,rfl,.inl ⟨rfl,_,ai.of BV⟩,_,rfl,pc,_,0,.str n,rfl,rfl,ai.of h5,mG,fa,_,_,rfl,rfl,BV,by have:=R.lim;rw[aJ,aT];omega,?_⟩
       have qJ:pc≠fa:=aV (au qh DL);have h6:(upd G fa (.lst (acc.map V.str ++ [.str n]))) pc=some (.lst ((n::ft).map V.str)):=by rw[ae qJ];exact h5
       have BW:(upd G fa (.lst (acc.map V.str ++ [.str n]))) la=some (.lst lv):=by rw[ae R.ne];exact Kg
       have xg:(upd G fa (.lst (acc.map V.str ++ [.str n]))) fa=some (.lst ((acc ++ [n]).map V.str)):=by rw[ag,bQ];rfl
       have L6:aw H (upd G fa (.lst (acc.map V.str ++ [.str n]))):=fun b o hb=>by rw[ae (au hb qg)];exact DN b o hb
       have DO:hZ (fun a=>a≠fa) (upd G fa (.lst (acc.map V.str ++ [.str n]))) lv rest:=lC rrG fun b xs nb hb=>⟨nb,by rw[ae nb];exact hb⟩
       generalize upd G fa (.lst (acc.map V.str ++ [.str n]))=G6 at h6 BW xg L6 DO ⊢;refine⟨_,rfl,la,rfl,⟨_,ai.of BW⟩,fun le hle=>?_⟩;have nle:le≠fa:=aV (au xg hle);refine iz (xs:=lv) (fun i ys τ H7=>∃t0:Option V,τ = [t0,some (.ref pc)]/\H7 le=some (.lst ys)/\aw G6 H7/\hZ (fun a=>a≠fa/\a≠le) H7 ys (L2.without n (rest.take i))) ⟨none,rfl,ag,aA hle,.nil⟩ (fun i ys τ H7 ⟨_,_,z1,z2,_⟩=>⟨z1,ai.of (z2 _ _ BW)⟩) ?_ ?_
       ·rintro i x ys τ H7 hx ⟨t0,rfl,h7,S7,uj⟩
        obtain⟨a,r,rfl,gr,_,gf⟩:=pD DO hx;have aZ:i < lv.length:=(b4.mp hx).1;have tk:rest.take (i+1)=rest.take i ++ [r]:=by rw[dj,gr];rfl
        have uf:=ix gr;have BX:=S7 _ _ gf;have Kh:=S7 _ _ h6;refine⟨_,rfl,a,rfl,⟨_,ai.of BX⟩,fun b1 ir=>?_⟩;have DJ:a≠b1:=au BX ir;have yF:pc≠b1:=au Kh ir;have L7:b1≠le:=aV (au h7 ir);have nbf:b1≠fa:=aV (au (S7 _ _ xg) ir);refine iz (xs:=r.map V.str) (fun j zs fu H8=>∃t1:Option V,fu = [t1,some (.ref pc)]/\zs=((r.take j).filter fun y=>!decide (y=n)).map V.str/\H8=upd H7 b1 (.lst zs)) ⟨none,rfl,rfl,rfl⟩ (fun j zs fu H8 ⟨_,_,_,z⟩=>by rw[z];exact⟨ag,ai.of (by rw[ae DJ];exact BX)⟩) ?_ ?_
        ·rintro j x zs fu H8 dJ ⟨t1,rfl,rfl,rfl⟩
         have b7:j < (r.map V.str).length:=(b4.mp dJ).1;have jY:j < r.length:=by simpa using b7
         obtain rfl:V.str r[j]=x:=by simpa [jY] using dJ
         have gu:r.take (j+1)=r.take j ++ [r[j]]:=by rw[dj,bK jY];rfl
         refine⟨_,rfl,_,rfl,pc,_,0,.str n,rfl,rfl,ai.of (by rw[ae yF];exact Kh),mG,rfl,_,rfl,?_⟩
         refine gp (fun bC=>?_) (fun bC=>?_)
         ·have nO:r[j]≠n:=fun z=>by rw[z]at bC;simp at bC
          refine⟨_,rfl,ag,?_,cw_next b7 ⟨_,rfl,?_,by rw[hW]⟩⟩
          ·have h1:=lx (fun y=>!decide (y=n)) (r.take j)
           have h2:(r.take j).length<=r.length:=by rw[c8];omega
           have h3:=R.sm.short r uf;rw[aJ,aT];omega
          ·rw[gu,ly,bQ,vo (by simpa using nO)];rfl
         ·have hy:r[j]=n:=by
           by_cases z:r[j]=n
           ·exact z
           ·exact absurd (by simp[z]) bC
          refine cw_next b7 ⟨_,rfl,?_,rfl⟩;rw[gu];simp[hy]
        ·rintro zs fu H8 ⟨t1,rfl,rfl,rfl⟩
         rw[aJ,dc];have Sb:=aA (o:= .lst ((r.filter fun y=>!decide (y=n)).map V.str)) ir;refine⟨Sb _ _ h7,?_,cw_next aZ ⟨_,rfl,ag,fun b o hb=>?_,?_⟩⟩
         ·have h1:=mX uj
          have h2:(L2.without n (rest.take i)).length<=rest.length:=by unfold L2.without;rw[aJ,c8];omega
          have h3:=R.sm.a8;rw[aT];omega
         ·rw[ae (au hb hle)];exact Sb _ _ (S7 b o hb)
         ·have e1:L2.without n (rest.take (i+1))=L2.without n (rest.take i) ++ [r.filter fun y=>!decide (y=n)]:=by rw[tk];unfold L2.without;rw[bQ];rfl
          rw[e1];refine zM (lC uj fun b xs nb hb=>⟨nb,by rw[ae nb.2];exact Sb _ _ hb⟩) ⟨nbf,L7⟩ ?_
          rw[ae L7];exact ag
       ·rintro ys τ H7 ⟨t0,rfl,h7,S7,uj⟩
        rw[mX DO,dc]at uj;refine⟨_,by rw[R.mm];exact lt,L2.without n rest,ys,acc ++ [n],le,⟨_,rfl⟩,rfl,h7,lC uj fun b xs nb hb=>⟨nb.1,hb⟩,nle,S7 _ _ xg,FR R.sm,Gj R.nd,L6.trans S7,?_,?_⟩
        ·have:=R.lim;rw[e7,zq];omega
        ·rw[R.eq,zX hA e,Option.map_map]
         congr 1
         funext z
         simp
    ·refine⟨_,rfl,qs acc ?_ fa H3 qg LZ qh⟩
     rw[R.eq,zV (by simpa using hA)]
     show some (acc ++ [])=some acc;rw[iw]
structure lU (mg:Str->Option Value):Prop where
 yG:mg "isinstance" = none
 str:mg "str" = none
 dict:mg "dict" = none
 sorted:mg "sorted" = none
theorem vN:bootBuiltins "isinstance" = some (.builtin "isinstance"):=by decide +kernel
theorem boot_str:bootBuiltins "str" = some (.type "str"):=by decide +kernel
theorem boot_dict:bootBuiltins "dict" = some (.type "dict"):=by decide +kernel
theorem boot_sorted:bootBuiltins "sorted" = some (.builtin "sorted"):=by decide +kernel
theorem boot_all:bootBuiltins "all" = some (.builtin "all"):=by decide +kernel
theorem Pw (K:Frag) (h:X.K=K) (hc:X.calm=true):dZ X (.builtin "all") (fun xs H Q=>∃ (p:Addr) (bs:List Bool),xs = [.ref p]/\ai K H p (bs.map V.bl)/\Q (.bl (bs.all id)) H):=by subst h;exact GZ hc
theorem ite_tt {A B:Prop}{k:Bool} (hk:k=true) (h:A):if k=true then A else B:=by subst hk;exact h
inductive pS (vs:List V) (H:Hp) (Q:VK) (E:XK):Prop
 |mk {x:Str} (_:vs = [.str x]) (_:Nm x) (_:∀H',aw H H'->Q (.bl true) H'):pS vs H Q E
theorem UI:bx ["thing"] ["thing"] (aN r9):=bS (by decide +kernel)
abbrev W7:Expr:=jM (xc (bZ (bF r9) 1))
theorem Jo:cg ["thing"] (aN r9) ["sign"] [none] (di W7):=fg (by decide +kernel)
theorem Tf (F:aW K "is_name" "is_name" r9 f fd) (B:gN mg) (B2:lU mg):aU P w K mg base aQ 1 f fd ["thing"] pS:=by
 refine F.ok UI (fun vs H Q E h=>?_) (fun aF A outer s H vs Q E hr h=>?_)
 ·obtain⟨rfl,_⟩:=h;rfl
 ·obtain @⟨x,rfl,hx,q⟩:=h
  have hu:=hr.units;refine⟨_,aE (cL (PW.pt (pw_or (kq (jC (cQ vI rfl B2.yG vN (aa (pv 0) (aa (vQ (v:= .ty "str") rfl B2.str boot_str rfl) ah)))))
     (pw_or1 (kq (Rg Jc Jc ay (cQ O0 rfl B.len lz (aa (pv 0) ah)) ay))))) (aP (bz wB)) cV)
   (aP (bz (cQ (GZ rfl) rfl B.all boot_all (aa (gk rfl Jo (Uv (pv 0)) (fun s H fp=>⟨bc (i:=0) Jo.nd rfl (Or.inl rfl),gz,Rf He He df (pv 0) df⟩)) ah)))),?_⟩
  have mx:=hx.lo;have qy:=hx.hi;have hlc:x.cps.size<=8:=hx.hi;refine⟨_,rfl,⟨_,.inr ⟨"str",rfl⟩⟩,.str x,.ty "str",.type "str",.type "str",true,rfl,rfl,.inl (.str x),rfl,true,rfl,?_⟩;refine⟨_,rfl,x,rfl,by rw[aT];omega,1,x.length,rfl,rfl,_,rfl,?_⟩
  refine ite_tt (gj (by omega)) ?_
  refine⟨x.length,8,rfl,rfl,_,rfl,?_⟩;have e8:decide ((x.length:Int)<=8)=true:=gj (by omega)
  rw[e8];refine⟨_,rfl,x,rfl,fun p hp=>?_⟩;refine Ry (fun i ys τ H1=>∃t0:Option V,τ = [t0]/\ys=(List.replicate i true).map V.bl/\H1=upd H p (.lst ys)) ⟨none,rfl,rfl,rfl⟩ (fun i ys τ H1 ⟨_,_,_,z⟩=>by rw[z];exact ag) ?_ ?_
  ·rintro i c ys τ H1 hc ⟨t0,rfl,rfl,rfl⟩
   have ck:i < x.cps.size:=by
    obtain⟨h,_⟩:=Oh.mp hc;exact h
   have hcz:=hx.az c (Array.mem_def.mp (afw hc));have e1:(!decide ((⟨#[c]⟩:Str).cps.toList < (Str.ofString "a").cps.toList))=true:=by
    have : ¬ ([c] < [97]):=by simp[afT];omega
    have hA:(Str.ofString "a").cps.toList = [97]:=by decide +kernel
    rw[hA];simpa using this
   have e2:(!decide ((Str.ofString "z").cps.toList < (⟨#[c]⟩:Str).cps.toList))=true:=by
    have : ¬ ([122] < [c]):=by simp[afT];omega
    have hA:(Str.ofString "z").cps.toList = [122]:=by decide +kernel
    rw[hA];simpa using this
   refine⟨_,rfl,_,_,rfl,rfl,_,rfl,ite_tt e1 ⟨_,_,rfl,rfl,ag,by rw[aJ,afi,aT];omega,cw_next ck ⟨_,rfl,?_,?_⟩⟩⟩
   ·rw[e2,List.replicate_succ',bQ];rfl
   ·rw[hW]
  ·rintro ys τ H1 ⟨t0,rfl,rfl,rfl⟩
   refine⟨p,_,rfl,ai.of ag,?_⟩;have:(List.replicate x.cps.size true).all id=true:=by simp
   rw[this];exact q _ (aA hp)
theorem QV {g:Str->V}{Q:VK} (ha:H a=some (.tup (ps.map V.str))) (hd:H d=some (.dK kvs)) (hg:∀x∈ps,a7 kvs (Sum.inr x)=some (g x)) (hp:H p=none) (hs:ps.length<=100)
  (q:Q (.ref p) (upd H p (.lst (ps.map g)))):jI (kO K a) (nF 0) wD (Bf (lO 1) (lO 0)) [none,some (.ref d)] Q p H:=by
 have uk:a≠p:=au ha hp;have um:d≠p:=au hd hp;refine rP (xs:=ps.map V.str) (fun j zs τ H2=>∃t1:Option V,τ = [t1,some (.ref d)]/\zs=(ps.take j).map g/\H2=upd H p (.lst zs)) ⟨none,rfl,rfl,rfl⟩ (fun j zs τ H2 ⟨_,_,_,z⟩=>by rw[z];exact⟨ag,aG.of (by rw[ae uk];exact ha)⟩) ?_ ?_
 ·rintro j x zs τ H2 hx ⟨t1,rfl,rfl,rfl⟩
  obtain⟨b7,jY,rfl,gu⟩:=A1 hx;refine⟨_,rfl,_,rfl,d,g ps[j],rfl,?_,ag,?_,cw_next b7 ⟨_,rfl,?_,by rw[hW]⟩⟩
  ·rw[<-hg _ (mV jY)];exact cp.k (k:=Sum.inr ps[j]) (by rw[ae um];exact hd)
  ·rw[aJ,c8,aT];omega
  ·rw[gu,bQ];rfl
 ·rintro zs τ H2 ⟨t1,rfl,rfl,rfl⟩
  rw[aJ,dc];exact q
theorem QW {g:Str->V}{Q:VK} (ha:H a=some (.lst (ps.map V.str))) (hd:H d=some (.dK kvs)) (hg:∀x∈ps,a7 kvs (Sum.inr x)=some (g x)) (hp:H p=none) (hs:ps.length<=100)
  (q:Q (.ref p) (upd H p (.lst (ps.map g)))):jI (oj K a) (nF 0) wD (Bf (lO 1) (lO 0)) [none,some (.ref d)] Q p H:=by
 have uk:a≠p:=au ha hp;have um:d≠p:=au hd hp;refine iz (xs:=ps.map V.str) (fun j zs τ H2=>∃t1:Option V,τ = [t1,some (.ref d)]/\zs=(ps.take j).map g/\H2=upd H p (.lst zs)) ⟨none,rfl,rfl,rfl⟩ (fun j zs τ H2 ⟨_,_,_,z⟩=>by rw[z];exact⟨ag,ai.of (by rw[ae uk];exact ha)⟩) ?_ ?_
 ·rintro j x zs τ H2 hx ⟨t1,rfl,rfl,rfl⟩
  obtain⟨b7,jY,rfl,gu⟩:=A1 hx;refine⟨_,rfl,_,rfl,d,g ps[j],rfl,?_,ag,?_,cw_next b7 ⟨_,rfl,?_,by rw[hW]⟩⟩
  ·rw[<-hg _ (mV jY)];exact cp.k (k:=Sum.inr ps[j]) (by rw[ae um];exact hd)
  ·rw[aJ,c8,aT];omega
  ·rw[gu,bQ];rfl
 ·rintro zs τ H2 ⟨t1,rfl,rfl,rfl⟩
  rw[aJ,dc];exact q
def rowsOf (L:Str->List Str) (ps:List Str):List (List Str):=ps.map L ++ [ps]
def hJ (H:Hp) (kvs:List (Key×V)) (L:Str->List Str) (x:Str):Prop:= ∃a,a7 kvs (Sum.inr x)=some (.ref a)/\H a=some (.tup ((L x).map V.str))
theorem hJ.same (h:hJ H kvs L x) (s:aw H H'):hJ H' kvs L x:=let ⟨a,e,q⟩:=h;⟨a,e,s _ _ q⟩
theorem Tg (h:∀x∈ps,hJ H kvs L x):∃g:Str->V,(∀x∈ps,a7 kvs (Sum.inr x)=some (g x))/\dz H (ps.map g) (ps.map L):=by
 refine⟨fun x=>(a7 kvs (Sum.inr x)).getD .aH,fun x hx=>?_,?_⟩
 ·obtain⟨a,e,_⟩:=h x hx;show _=some ((a7 kvs (Sum.inr x)).getD V.aH);rw[e];rfl
 ·induction ps with
  |nil=>exact .nil
  |cons x ps ih =>
   obtain⟨a,e,q⟩:=h x br;exact .cons ⟨a,by show(a7 kvs (Sum.inr x)).getD V.aH=_;rw[e];rfl,q⟩ (ih fun y hy=>h y (bU _ hy))
inductive xh (vs:List V) (H:Hp) (Q:VK) (E:XK):Prop
 |mk {d pa:Addr}{kvs:List (Key×V)}{L:Str->List Str}{k:Str}{ps o:List Str} (_:vs = [.ref d,.str k,.ref pa]) (_:H d=some (.dK kvs)) (_:H pa=some (.tup (ps.map V.str))) (_:(∀x∈ps,hJ H kvs L x)) (_:Small (rowsOf L ps)) (_:cj (total (rowsOf L ps)) (rowsOf L ps)=some o) (_:o.length<=100) (_:∀p H',aw H H'->H' p=some (.tup ((k::o).map V.str))->Q (.ref p) H'):xh vs H Q E
abbrev L8:List Str:= ["lines","kind","parents","rows","refusal"]
theorem Ki:bx L8 ["lines","kind","parents"] (aN rM):=bS (by decide +kernel)
def Kj (e:Expr):Expr:=match e with|.BinOp a _ _ _=>a|_=>.Constant .none 0 ⟨0,0,0,0⟩
abbrev eLF:Expr:=Kj (jM (iE (bZ (bF rM) 0)))
theorem Kk:cg L8 (aN rM) ["parent","lines"] [none,some 0] (di eLF):=fg (by decide +kernel)
theorem VD {fM:Addr}{uo:FuncData} (F:aW K "line_from" "line_from" rM f fd) (B:gN mg) (GM:b8 P w K mg base aQ 3 fM uo ["rows"] vM "merged") :
  aU P w K mg base aQ 4 f fd ["lines","kind","parents"] xh:=by
 refine F.ok Ki (fun vs H Q E h=>?_) (fun aF A outer s H vs Q E hr h=>?_)
 ·obtain⟨rfl,_⟩:=h;rfl
 ·obtain @⟨d,pa,kvs,L,k,ps,o,rfl,hd,DP,hl,hS,hm,mq,q⟩:=h
  have hu:=hr.units;have bu:=ie hu;refine⟨_,aE (a4 (i:=3) Ki.nd rfl (Or.inl rfl) (fS o8 rfl B.tuple boot_tuple (aa (bJ nB (gk rfl Kk (pL (pv 2)) (fun s H fp=>⟨bc (i:=0) Kk.nd rfl (Or.inl rfl),gz,gm bu (pv 1) (pv 0) (fun _ _=>rfl)⟩)) (fX (aa (pv 2) ah))) ah)))
   (aP (Rx (aP (bz (bJ Ip (cw (aa (pv 1) ah)) (bA GM hr (aa (pv 3) ah))))) rfl)),?_⟩
  obtain⟨g,hg,hR⟩:=Tg hl;have cF:ps.length<=20:=hS.short ps (eZ _ br);refine⟨_,rfl,pa,rfl,⟨_,aG.of DP⟩,fun c hc=>QV DP hd hg hc (by omega) ?_⟩
  have S1:=aA (o:= .lst (ps.map g)) hc;refine⟨_,rfl,mr,fun c2 gI=>?_⟩;have S2:=S1.trans (aA (o:= .lst [V.ref pa]) gI);refine⟨c,c2,_,_,rfl,rfl,by rw[ae (au ag gI)];exact ag,ag,by rw[aJ,aT];show _+1<=_;omega,fun c3 oN=>?_⟩
  have S3:=S2.trans (aA (o:= .lst (ps.map g ++ [V.ref pa])) oN);refine⟨c3,_,rfl,.inl ⟨ai.of ag,fun r hr=>?_⟩⟩;have S4:=S3.trans (aA (o:= .tup (ps.map g ++ [V.ref pa])) hr);refine⟨_,rfl,mr,fun c4 yx=>?_⟩;have S5:=S4.trans (aA (o:= .tup [V.str k]) yx);refine⟨_,rfl,vM.mk rfl (rows:=rowsOf L ps) (by rw[ae (au ag yx)];exact ag) (dz.append (hR.same S5) (S5 _ _ DP)) hS hm fun m H6 hm6 S6 h6=>?_⟩
  refine⟨c4,m,_,_,rfl,rfl,S6 _ _ ag,h6,by rw[aJ,aT];show 1+_<=_;omega,fun p H7 S7 h7=>?_⟩
  exact q p H7 (S5.trans (S6.trans S7)) h7
def cY (H:Hp) (vs:List V) (aK:List (Str×List Str)):Prop:=Paired (fun y p=>∃a b,y=V.ref a/\H a=some (.tup [.str p.1,.ref b])/\H b=some (.tup (p.2.map V.str))) vs aK
theorem cY.keep (h:cY H vs aK) (s:∀b xs,H b=some (.tup xs)->H' b=some (.tup xs)):cY H' vs aK:=Paired.imp' (fun _ _ ⟨a,b,e,q,r⟩=>⟨a,b,e,s _ _ q,s _ _ r⟩) h
theorem cY.same (h:cY H vs aK) (s:aw H H'):cY H' vs aK:=h.keep fun _ _ e=>s _ _ e
theorem cY.length (h:cY H vs aK):vs.length=aK.length:=eu h
theorem cY.append {p:Str×List Str} (h:cY H vs aK) (q:H a=some (.tup [.str p.1,.ref b])) (r:H b=some (.tup (p.2.map V.str))):cY H (vs ++ [.ref a]) (aK ++ [p]):=lq h ⟨a,b,rfl,q,r⟩
structure lK (aK:List (Str×List Str)) (L:Str->List Str):Prop where
 nd:(aK.map (·.1)).Nodup
 a8:aK.length<=8
 nm:∀p∈aK,Nm p.1
 up:∀p∈aK,∀x∈p.2,∃q∈aK,q.1=x
 rank:∃r:Str->Nat,∀p∈aK,∀x∈p.2,r x < r p.1
 line:∀p∈aK,Small (rowsOf L p.2) /\ ∃o,cj (total (rowsOf L p.2)) (rowsOf L p.2)=some o/\L p.1=p.1::o/\o.length<=100
theorem lK.perm {sZ:List (Str×List Str)} (h:lK aK L) (p:sZ.Perm aK):lK sZ L:=by
 have m:∀ {q},q∈sZ ↔ q∈aK:=fun {q}=>p.mem_iff;obtain⟨r,hr⟩:=h.rank;exact⟨(p.map _).nodup_iff.mpr h.nd,by rw[p.length_eq];exact h.a8,fun q hq=>h.nm q (m.mp hq),fun q hq x hx=>let ⟨z,hz,e⟩:=h.up q (m.mp hq) x hx;⟨z,m.mpr hz,e⟩,⟨r,fun q hq=>hr q (m.mp hq)⟩,fun q hq=>h.line q (m.mp hq)⟩
def isDone (kvs:List (Key×V)) (x:Str):Bool:=(a7 kvs (Sum.inr x)).isSome
theorem RS {rest:List (Str×List Str)} (ok:lK aK L) (sub:∀p∈rest,p∈aK) (all:∀p∈aK,dn p.1=true\/p∈rest) (ne:rest ≠ []):∃p∈rest,∀x∈p.2,dn x=true:=by
 obtain⟨r,hr⟩:=ok.rank;have key:∀n,∀p∈rest,r p.1=n -> ∃q∈rest,∀x∈q.2,dn x=true:=by
  intro n
  induction n using Nat.strongRecOn with
  |_ n ih =>
   intro p hp e
   by_cases h:∀x∈p.2,dn x=true
   ·exact⟨p,hp,h⟩
   ·simp only[Classical.not_forall]at h
    obtain⟨x,hx,eV⟩:=h;obtain⟨q,hq,rfl⟩:=ok.up p (sub p hp) x hx;have lt:=hr p (sub p hp) q.1 hx;rcases all q hq with z|z
    ·exact absurd z eV
    ·exact ih _ (by omega) q z rfl
 cases rest with
 |nil=>exact absurd rfl ne
 |cons p t=>exact key _ p br rfl
def gB (dn:Str->Bool) (rest:List (Str×List Str)):List (Str×List Str):=rest.filter fun p=>(p.2.map dn).all id
theorem Hr {rest:List (Str×List Str)}{p:Str×List Str}:p∈gB dn rest ↔ p∈rest /\ ∀x∈p.2,dn x=true:=by
 unfold gB;rw[i8,List.all_map,vg];rfl
theorem Gk {α:Type} (f:α->Bool):∀l:List α,(l.filter f).length+(l.filter fun x=>!f x).length=l.length
 |[]=>rfl
 |x::l=>by
  have ih:=Gk f l;cases h:f x <;> simp[OF,h] <;> omega
theorem QX {yH:Str->Bool}{rest:List (Str×List Str)} (h:∀p∈gB dn rest,yH p.1=true):(rest.filter fun p=>!yH p.1).length+(gB dn rest).length<=rest.length:=by
 have e:rest.length=(rest.filter fun p=>(p.2.map dn).all id).length+(rest.filter fun p=>!(p.2.map dn).all id).length:=by
  exact(Gk (fun p:Str×List Str=>(p.2.map dn).all id) rest).symm
 have le:(rest.filter fun p=>!yH p.1).length<=(rest.filter fun p=>!(p.2.map dn).all id).length:=by
  rw[<-afU,<-afU];refine List.countP_mono_left fun p hp h1=>?_;cases z:(p.2.map dn).all id with
  |false=>rfl
  |true =>
   have:=h p (i8.mpr ⟨hp,z⟩);rw[this]at h1;cases h1
 unfold gB;omega
theorem RT {Q:VK} (ha:H a=some (.tup (ps.map V.str))) (hd:H d=some (.dK kvs)) (hp:H p=none) (hs:ps.length<=100)
  (q:Q (.ref p) (upd H p (.lst ((ps.map (isDone kvs)).map V.bl)))):jI (kO K a) (nF 0) wD (J0 (lO 0) (lO 1)) [none,some (.ref d)] Q p H:=by
 have uk:a≠p:=au ha hp;have um:d≠p:=au hd hp;refine rP (xs:=ps.map V.str) (fun j zs τ H2=>∃t1:Option V,τ = [t1,some (.ref d)]/\zs=((ps.take j).map (isDone kvs)).map V.bl/\H2=upd H p (.lst zs)) ⟨none,rfl,rfl,rfl⟩ (fun j zs τ H2 ⟨_,_,_,z⟩=>by rw[z];exact⟨ag,aG.of (by rw[ae uk];exact ha)⟩) ?_ ?_
 ·rintro j x zs τ H2 hx ⟨t1,rfl,rfl,rfl⟩
  obtain⟨b7,jY,rfl,gu⟩:=A1 hx;refine⟨_,rfl,_,rfl,d,_,rfl,cp.k (k:=Sum.inr ps[j]) (by rw[ae um];exact hd),ag,?_,cw_next b7 ⟨_,rfl,?_,by rw[hW]⟩⟩
  ·rw[aJ,aJ,c8,aT];omega
  ·rw[gu,bQ,bQ];rfl
 ·rintro zs τ H2 ⟨t1,rfl,rfl,rfl⟩
  rw[aJ,dc];exact q
def nK (aK:List (Str×List Str)) (kvs:List (Key×V)):Prop:=(kvs.map (·.1)).Nodup /\ ∀k∈kvs.map (·.1),∃p∈aK,k=Sum.inr p.1
theorem Hs (kvs:List (Key×V)) (k:Key) (v:V):(k∈kvs.map (·.1)/\(putK kvs k v).map (·.1)=kvs.map (·.1))\/(k ∉ kvs.map (·.1)/\(putK kvs k v).map (·.1)=kvs.map (·.1) ++ [k]):=by
 have e:(kvs.any fun kv=>decide (kv.1=k))=true ↔ k∈kvs.map (·.1):=by
  rw[vm,bt];exact⟨fun⟨x,h,d⟩=>⟨x,h,iP d⟩,fun⟨x,h,d⟩=>⟨x,h,gj d⟩⟩
 unfold putK
 by_cases h:k∈kvs.map (·.1)
 ·refine .inl ⟨h,?_⟩
  rw[aB (e.mpr h),dY];refine rq fun kv _=>?_;show(if kv.1=k then (kv.1,v) else kv).1=kv.1;split <;> rfl
 ·refine .inr ⟨h,?_⟩
  rw[ar fun z=>h (e.mp z),bQ];rfl
theorem RU {k j:Key}:j∈(putK kvs k v).map (·.1) ↔ j=k\/j∈kvs.map (·.1):=by
 rcases Hs kvs k v with⟨h,e⟩|⟨h,e⟩
 ·rw[e];exact⟨.inr,fun z=>z.elim (fun e=>e ▸ h) id⟩
 ·rw[e,dS,i'];exact Or.comm
theorem Ti {k:Key} (h:(kvs.map (·.1)).Nodup):((putK kvs k v).map (·.1)).Nodup:=by
 rcases Hs kvs k v with⟨_,e⟩|⟨hn,e⟩
 ·rw[e];exact h
 ·rw[e,jy]
  exact⟨h,by simp,fun a ha b hb e=>hn (by rw[<-(i'.mp hb),<-e];exact ha)⟩
theorem nK.put {p:Str×List Str} (h:nK aK kvs) (hp:p∈aK):nK aK (putK kvs (Sum.inr p.1) v):=by
 refine⟨Ti h.1,fun k hk=>?_⟩;rcases RU.mp hk with z|z
 ·exact⟨p,hp,z⟩
 ·exact h.2 k z
theorem HQ:∀ {kvs:List (Key×V)}{x:Str},isDone kvs x=true->Sum.inr x∈kvs.map (·.1)
 |[],x,h=>by cases h
 |(a,b)::kvs,x,h=>by
  by_cases e:a=Sum.inr x
  ·rw[e];exact br
  ·unfold isDone at h;rw[gA e]at h
   exact bU _ (HQ h)
theorem Qd {α:Type}{a b:List α} (ha:a.Nodup) (hb:b.Nodup) (h:∀x,x∈a ↔ x∈b):a.Perm b:=(List.perm_ext_iff_of_nodup ha hb).mpr h
theorem UJ {l:List Str} (h:l.Nodup):(l.map (Sum.inr:Str->Key)).Nodup:=by
 induction l with
 |nil=>exact lu
 |cons x l ih =>
  rw[gR]at h;rw[cA,gR];refine⟨fun z=>?_,ih h.2⟩;obtain⟨y,hy,e⟩:=bt.mp z;exact h.1 (jw e ▸ hy)
theorem nK.perm (h:nK aK kvs) (ok:lK aK L) (all:∀p∈aK,isDone kvs p.1=true):(kvs.map (·.1)).Perm ((aK.map (·.1)).map Sum.inr):=by
 refine Qd h.1 (UJ ok.nd) fun x=>⟨fun hx=>?_,fun hx=>?_⟩
 ·obtain⟨p,hp,rfl⟩:=h.2 x hx
  exact bt.mpr ⟨p.1,bt.mpr ⟨p,hp,rfl⟩,rfl⟩
 ·obtain⟨y,hy,rfl⟩:=bt.mp hx
  obtain⟨p,hp,rfl⟩:=bt.mp hy;exact HQ (all p hp)
structure Kl (H:Hp) (aK:List (Str×List Str)) (L:Str->List Str) (t d:Addr) (m:Nat) (σ:St) (H1:Hp) (kvs:List (Key×V)) (rest:List (Str×List Str)) (wv:List V) (wa:Addr):Prop where
 st:∃v3 v4 v5:Option V,σ = [some (.ref t),some (.ref d),some (.ref wa),v3,v4,v5]
 mm:m=rest.length
 hd:H1 d=some (.dK kvs)
 hw:H1 wa=some (.lst wv)
 fv:cY H1 wv rest
 sub:∀p∈rest,p∈aK
 all:∀p∈aK,isDone kvs p.1=true\/p∈rest
 ln:∀x,isDone kvs x=true->hJ H1 kvs L x
 same:aw H H1
 lim:kvs.length+rest.length<=8
 ky:nK aK kvs
inductive vY (vs:List V) (H:Hp) (Q:VK) (E:XK):Prop
 |mk {t:Addr}{o:Obj}{ws:List V}{aK:List (Str×List Str)}{L:Str->List Str} (_:vs = [.ref t]) (_:H t=some (.a6 o (.tup ws))) (_:cY H ws aK) (_:lK aK L) (_:∀d kvs H',H d=none->aw H H'->H' d=some (.dK kvs)->(∀p∈aK,hJ H' kvs L p.1)->(kvs.map (·.1)).Perm ((aK.map (·.1)).map Sum.inr)->Q (.ref d) H'):vY vs H Q E
abbrev DQ:List Str:= ["family","lines","waiting","ready","kind","parents"]
theorem nQ:bx DQ ["family"] (aN pQ):=bS (by decide +kernel)
abbrev Km:Stmt:=bZ (bF pQ) 2
abbrev BY:Expr:=iE (bZ (rN Km) 0)
abbrev W8:Expr:=jM (IW BY)
abbrev W9:Expr:=iE (bZ (rN Km) 3)
theorem Jp:cg DQ (aN pQ) ["pair","lines"] [none,some 1] (di BY):=fg (by decide +kernel)
theorem VE:cg ["pair","lines"] (relabel (di BY) env) ["parent","lines"] [none,some 1] (di W8):=nest rfl (by decide +kernel) (by decide +kernel) rfl (by decide +kernel) (by decide +kernel)
theorem VF:(["parent","lines"]:List Str).Nodup:=by decide +kernel
theorem Jq:cg DQ (aN pQ) ["pair","lines"] [none,some 1] (di W9):=fg (by decide +kernel)
theorem RV {fF:Addr}{fdF:FuncData} (F:aW K "lines_of" "lines_of" pQ f fd) (B:gN mg) (GF:b8 P w K mg base aQ 4 fF fdF ["lines","kind","parents"] xh "line_from") :
  aU P w K mg base aQ 5 f fd ["family"] vY:=by
 refine F.ok nQ (fun vs H Q E h=>?_) (fun aF A outer s H vs Q E hr h=>?_)
 ·obtain⟨rfl,_⟩:=h;rfl
 ·obtain @⟨t,o,ws,aK,L,rfl,ht,W',ok,q⟩:=h
  have hu:=hr.units;have bu:=ie hu;refine⟨_,aE (a4 (i:=1) nQ.nd rfl (Or.inr rfl) rR)
   (aE (a4 (i:=2) nQ.nd rfl (Or.inl rfl) (fS rC rfl B.list boot_list (aa (pv 0) ah)))
   (aE (vH gx (pE (pv 2) (fun _=>rfl))
    (aE (rG rfl Jp nQ.nd (i:=3) rfl rfl (eP (pv 2)) (fun s H fp=>⟨bc (i:=0) Jp.nd rfl (Or.inl rfl),
      m4 (jC (cQ (Pw K rfl rfl) rfl B.all boot_all (aa (gk rfl VE (HB K rfl (bo (vJ K rfl) (pv 0) ay (fun _ _=>rfl))) (fun s H fp=>⟨bc (i:=0) VF rfl (Or.inl rfl),gz,TY (pP bu (pv 0) (pv 1))⟩)) ah))),
      pv 0⟩))
    (aE (cL (kq (pE (pv 3) (fun _=>rfl))) (aP (bz (pv 1))) cV)
    (aE (gV gx rfl (eP (pv 3)) (lI rfl (eG (bc (i:=4) nQ.nd rfl (Or.inl rfl)) (eG (bc (i:=5) nQ.nd rfl (Or.inl rfl)) jB)))
     (aP (kf bu (pv 1) (pv 4) (bA GF hr (aa (pv 1) (aa (pv 4) (aa (pv 5) ah)))) rfl)))
    (aP (rG rfl Jq nQ.nd (i:=2) rfl rfl (eP (pv 2)) (fun s H fp=>⟨bc (i:=0) Jq.nd rfl (Or.inl rfl),
      m4 (nt (Hb bu (bo (vJ K rfl) (pv 0) ay (fun _ _=>rfl)) (pv 1))),pv 0⟩)))))))
   (aP (bz (pv 1))))),?_⟩
  intro d hd;have Sd:=aA (o:= .dK []) hd;refine⟨_,rfl,t,ws,rfl,.inr (.inl (.inr ⟨o,Sd _ _ ht⟩)),fun wa L9=>?_⟩;have Sw:=Sd.trans (aA (o:= .lst ws) L9);have nwd:d≠wa:=au ag L9;refine⟨fun m σ H1=>∃kvs rest wv wa,Kl H aK L t d m σ H1 kvs rest wv wa,⟨_,[],aK,ws,wa,⟨none,none,none,rfl⟩,rfl,by rw[ae nwd];exact ag,ag,W'.same Sw,fun _ h=>h,fun _ h=>.inr h,fun x h=>(by cases h),Sw,by have:=ok.a8;rw[jx];omega,⟨lu,fun _ h=>(by cases h)⟩⟩,?_⟩
  rintro m σ H1 ⟨kvs,rest,wv,wa,R⟩;obtain⟨v3,v4,v5,rfl⟩:=R.st;have uq:=R.fv.length;refine⟨_,rfl,_,.inl ⟨_,ai.of R.hw,rfl⟩,?_⟩;refine gp (fun bC=>?_) (fun bC=>?_)
  ·refine⟨fun aI H'=>∃m',m' < m /\ ∃kvs rest wv wa,Kl H aK L t d m' aI H' kvs rest wv wa,fun _ _ z=>z,?_⟩
   refine⟨_,rfl,wa,rfl,⟨_,ai.of R.hw⟩,fun ra DR=>?_⟩;have ur:∀ {b:Addr}{u:HO},H b=some u->b≠d:=fun e=>au e hd;have Ma:d≠ra:=au R.hd DR;refine iz (xs:=wv) (fun i ys τ H3=>∃t0:Option V,τ = [t0,some (.ref d)]/\H3 ra=some (.lst ys)/\aw H1 H3/\cY H3 ys (gB (isDone kvs) (rest.take i))) ⟨none,rfl,ag,aA DR,.nil⟩ (fun i ys τ H3 ⟨_,_,z1,z2,_⟩=>⟨z1,ai.of (z2 _ _ R.hw)⟩) ?_ ?_
   ·rintro i x ys τ H3 hx ⟨t0,rfl,h3,S3,F3⟩
    have aZ:i < wv.length:=(b4.mp hx).1;obtain⟨p,hp,a,b,rfl,ha,hb⟩:=pK R.fv hx;have tk:rest.take (i+1)=rest.take i ++ [p]:=by rw[dj,hp];rfl
    have yI:=R.sub p (ix hp);have cF:p.2.length<=20:=(ok.line p yI).1.short p.2 (eZ _ br);have g9:=S3 _ _ ha;have qK:=S3 _ _ hb;refine⟨_,rfl,a,_,1,.ref b,rfl,rfl,aG.of g9,(show c7 [V.str p.1,V.ref b] ((1:Nat):Int)=some (.ref b) from cW rfl),?_⟩;refine⟨b,rfl,⟨_,aG.of qK⟩,fun c hc=>RT qK (S3 _ _ R.hd) hc (by omega) ?_⟩
    have Sc:=aA (o:= .lst ((p.2.map (isDone kvs)).map V.bl)) hc;refine⟨c,_,rfl,ai.of ag,_,rfl,?_⟩;refine gp (fun yi=>?_) (fun yi=>?_)
    ·refine⟨_,rfl,Sc _ _ h3,?_,cw_next aZ ⟨_,rfl,ag,fun b o hb=>by rw[ae (au hb DR)];exact Sc _ _ (S3 b o hb),?_⟩⟩
     ·have h1:=F3.length
      have h2:(gB (isDone kvs) (rest.take i)).length<=(rest.take i).length:=lx _ _;have h3:=R.lim;rw[c8]at h2;rw[aT];omega
     ·have e1:gB (isDone kvs) (rest.take (i+1))=gB (isDone kvs) (rest.take i) ++ [p]:=by
       rw[tk];unfold gB;rw[ly,vo (by exact yi)];rfl
      rw[e1];refine cY.append (F3.keep fun b xs hb=>?_) ?_ ?_ (b:=b)
      ·rw[ae (aS hb h3 (by intro z;cases z))];exact Sc _ _ hb
      ·rw[ae (aS g9 h3 (by intro z;cases z))];exact Sc _ _ g9
      ·rw[ae (aS qK h3 (by intro z;cases z))];exact Sc _ _ qK
    ·refine cw_next aZ ⟨_,rfl,Sc _ _ h3,S3.trans Sc,?_⟩
     have e1:gB (isDone kvs) (rest.take (i+1))=gB (isDone kvs) (rest.take i):=by
      rw[tk];unfold gB;rw[ly,zD (by exact yi)];simp
     rw[e1];exact F3.same Sc
   ·rintro rv τ H3 ⟨t0,rfl,h3,S3,F3⟩
    rw[uq,dc]at F3;have gO:=F3.length;have uu:=S3 _ _ R.hd;have Mb:=S3 _ _ R.hw;have gq:cY H3 wv rest:=R.fv.same S3;have nO:rest ≠ []:=fun z=>by
     rw[z]at uq;have:wv = []:=OI uq;rw[this]at bC;cases bC
    obtain⟨p0,uv,Xa⟩:=RS ok R.sub R.all nO;have yJ:p0∈gB (isDone kvs) rest:=Hr.mpr ⟨uv,Xa⟩;generalize tT:gB (isDone kvs) rest=ready at F3 gO yJ;have Xb:(!rv.isEmpty)=true:=by
     cases rv with
     |nil =>
      have:ready = []:=OI gO.symm;rw[this]at yJ;cases yJ
     |cons _ _=>rfl
    refine⟨_,rfl,_,.inl ⟨_,ai.of h3,rfl⟩,?_⟩;rw[Xb];refine⟨_,rfl,ra,rfl,⟨_,ai.of h3⟩,lD (xs:=rv) (fun i σ H4=>∃ (cU:List (Key×V)) (v4 v5:Option V),σ = [some (.ref t),some (.ref d),some (.ref wa),some (.ref ra),v4,v5]/\H4 d=some (.dK cU)/\cU.length<=kvs.length+i /\
     (∀b u,b≠d->H3 b=some u->H4 b=some u)/\(∀x,isDone cU x=true->hJ H4 cU L x)/\(∀x,isDone kvs x=true->isDone cU x=true)/\(∀p∈ready.take i,isDone cU p.1=true)/\nK aK cU)
     ⟨kvs,v4,v5,rfl,uu,aO _,fun _ _ _ e=>e,fun x hx=>(R.ln x hx).same S3,fun _ h=>h,fun p hp=>(by cases hp),R.ky⟩ (fun i σ H4 _ ⟨_,_,_,_,_,_,z,_⟩=>ai.of (z _ _ (aV Ma) h3)) ?_ ?_⟩
    ·rintro i x σ H4 hx ⟨cU,v4,v5,rfl,iM,oM,fH,yK,mF,yL,DS⟩
     have aZ:i < rv.length:=(b4.mp hx).1;obtain⟨p,hp,a,b,rfl,ha,hb⟩:=pK F3 hx;have tk:ready.take (i+1)=ready.take i ++ [p]:=by rw[dj,hp];rfl
     have hpr:p∈gB (isDone kvs) rest:=by rw[tT];exact ix hp
     obtain⟨yI,uh⟩:=Hr.mp hpr;obtain⟨uw,oo,oB,hL,mq⟩:=ok.line p (R.sub p yI);have ha4:=fH _ _ (aS ha uu (by intro z;cases z)) ha
     have hb4:=fH _ _ (aS hb uu (by intro z;cases z)) hb
     refine⟨a,_,rfl,aG.of ha4,rfl,_,_,rfl,_,_,rfl,rfl,?_⟩;refine⟨_,rfl,_,rfl,_,rfl,xh.mk rfl iM hb4 (fun x hx=>yK x (mF x (uh x hx))) uw oB mq fun q5 H5 S5 h5=>?_⟩;refine⟨_,rfl,_,rfl,d,_,rfl,gY.k (k:=Sum.inr p.1) (S5 _ _ iM) ?_,?_⟩
     ·have h1:=R.lim
      have h2:ready.length<=rest.length:=by rw[<-tT];exact lx _ _
      rw[aT];omega
     ·have nq:q5≠d:=aS h5 (S5 _ _ iM) (by intro z;cases z)
      refine⟨_,_,_,rfl,ag,?_,fun b u nb e=>?_,fun x hx=>?_,fun x hx=>?_,fun y hy=>?_,DS.put (R.sub p yI)⟩
      ·have:=rE cU (Sum.inr p.1) (V.ref q5);omega
      ·rw[ae nb];exact S5 _ _ (fH b u nb e)
      ·unfold hJ
       rw[m5]
       by_cases e:x=p.1
       ·subst e
        refine⟨q5,by rw[aB rfl],?_⟩
        rw[ae nq,hL];exact h5
       ·have e2 : ¬ ((Sum.inr x:Key)=Sum.inr p.1):=fun z=>e (jw z)
        have dJ:isDone cU x=true:=by unfold isDone at hx ⊢;rw[m5,ar e2]at hx;exact hx
        obtain⟨a',ea,Mc⟩:=yK x dJ;refine⟨a',by rw[ar e2];exact ea,?_⟩
        rw[ae (aS Mc iM (by intro z;cases z))];exact S5 _ _ Mc
      ·unfold isDone;rw[m5]
       split
       ·rfl
       ·exact mF x hx
      ·unfold isDone;rw[m5]
       split
       ·rfl
       ·rename_i hn
        rw[tk]at hy;rcases dS.mp hy with z|z
        ·exact yL _ z
        ·have:y=p:=by simpa using z
         exact absurd (by rw[this]) hn
    ·rintro σ H4 ⟨cU,v4,v5,rfl,iM,oM,fH,yK,mF,yL,DS⟩
     rw[gO,dc]at yL;have hf4:cY H4 wv rest:=gq.keep fun b xs e=>fH _ _ (aS e uu (by intro z;cases z)) e
     have Md:=fH _ _ (aS Mb uu (by intro z;cases z)) Mb
     have SH4:aw H H4:=fun b u e=>fH b u (ur e) (S3 _ _ (R.same b u e));refine⟨_,rfl,wa,rfl,⟨_,ai.of Md⟩,fun wb DT=>?_⟩;have nwb:d≠wb:=au iM DT;refine iz (xs:=wv) (fun i ys τ H5=>∃t0:Option V,τ = [t0,some (.ref d)]/\H5 wb=some (.lst ys)/\aw H4 H5/\cY H5 ys ((rest.take i).filter fun p=>!isDone cU p.1)) ⟨none,rfl,ag,aA DT,.nil⟩ (fun i ys τ H5 ⟨_,_,z1,z2,_⟩=>⟨z1,ai.of (z2 _ _ Md)⟩) ?_ ?_
     ·rintro i x ys τ H5 hx ⟨t0,rfl,h5,S5,F5⟩
      have aZ:i < wv.length:=(b4.mp hx).1;obtain⟨p,hp,a,b,rfl,ha,hb⟩:=pK hf4 hx;have tk:rest.take (i+1)=rest.take i ++ [p]:=by rw[dj,hp];rfl
      have DU:=S5 _ _ ha;have Me:=S5 _ _ hb;refine⟨_,rfl,a,_,0,.str p.1,rfl,rfl,aG.of DU,(show c7 [V.str p.1,V.ref b] ((0:Nat):Int)=some (.str p.1) from cW rfl),?_⟩;refine⟨_,rfl,d,_,rfl,cp.k (k:=Sum.inr p.1) (S5 _ _ iM),_,rfl,?_⟩;refine gp (fun iL=>?_) (fun iL=>?_)
      ·refine⟨_,rfl,h5,?_,cw_next aZ ⟨_,rfl,ag,fun b o hb=>by rw[ae (au hb DT)];exact S5 b o hb,?_⟩⟩
       ·have h1:=F5.length
        have h2:=lx (fun p:Str×List Str=>!isDone cU p.1) (rest.take i);have h3:=R.lim;rw[c8]at h2;rw[aT];omega
       ·rw[tk,ly,vo (by exact iL)]
        refine cY.append (F5.keep fun b xs hb=>?_) ?_ ?_ (b:=b)
        ·rw[ae (aS hb h5 (by intro z;cases z))];exact hb
        ·rw[ae (aS DU h5 (by intro z;cases z))];exact DU
        ·rw[ae (aS Me h5 (by intro z;cases z))];exact Me
      ·refine cw_next aZ ⟨_,rfl,h5,S5,?_⟩
       rw[tk,ly,zD (by exact iL),List.filter_nil,iw]
       exact F5
     ·rintro ys τ H5 ⟨t0,rfl,h5,S5,F5⟩
      rw[uq,dc]at F5;have less:=QX (dn:=isDone kvs) (yH:=isDone cU) (rest:=rest) (by rw[tT];exact yL)
      rw[tT]at less;have hrp:0 < ready.length:=afr yJ;refine⟨_,by rw[R.mm];omega,cU,rest.filter fun p=>!isDone cU p.1,ys,wb,⟨_,_,_,rfl⟩,rfl,S5 _ _ iM,h5,F5,fun p hp=>R.sub p (i8.mp hp).1,fun p hp=>?_,fun x hx=>(yK x hx).same S5,SH4.trans S5,?_,?_⟩
      ·cases e:isDone cU p.1 with
       |true=>exact .inl rfl
       |false =>
        refine .inr ?_;rcases R.all p hp with z|z
        ·rw[mF _ z]at e;cases e
        ·exact i8.mpr ⟨z,by rw[e];rfl⟩
      ·have h1:=R.lim
       omega
      ·exact DS
  ·have hn:rest = []:=by
    cases wv with
    |nil=>exact OI uq.symm
    |cons _ _=>exact absurd rfl bC
   have dn:∀p∈aK,isDone kvs p.1=true:=fun p hp=>by
    rcases R.all p hp with z|z
    ·exact z
    ·rw[hn]at z;cases z
   exact⟨_,rfl,q d kvs H1 hd R.same R.hd (fun p hp=>R.ln p.1 (dn p hp)) (R.ky.perm ok dn)⟩
def eN (H:Hp) (kvs:List (Key×V)) (L:Str->List Str) (x:Str):Prop:= ∃a,a7 kvs (Sum.inr x)=some (.ref a)/\H a=some (.lst ((L x).map V.str))
theorem eN.same (h:eN H kvs L x) (s:aw H H'):eN H' kvs L x:=let ⟨a,e,q⟩:=h;⟨a,e,s _ _ q⟩
theorem Tj (h:∀x∈ps,eN H kvs L x):∃g:Str->V,(∀x∈ps,a7 kvs (Sum.inr x)=some (g x))/\hZ (fun _=>True) H (ps.map g) (ps.map L):=by
 refine⟨fun x=>(a7 kvs (Sum.inr x)).getD .aH,fun x hx=>?_,?_⟩
 ·obtain⟨a,e,_⟩:=h x hx;show _=some ((a7 kvs (Sum.inr x)).getD V.aH);rw[e];rfl
 ·induction ps with
  |nil=>exact .nil
  |cons x ps ih =>
   obtain⟨a,e,q⟩:=h x br;exact .cons ⟨a,by show(a7 kvs (Sum.inr x)).getD V.aH=_;rw[e];rfl,trivial,q⟩ (ih fun y hy=>h y (bU _ hy))
theorem Ht:∀ {m:Nat}{rows:List (List Str)}{o:List Str},cj m rows=some o->o.length<=m
 |0,rows,o,h=>by
  unfold cj at h
  first
   |(cases h;exact aO _)
   |(split at h <;> first|(cases h;exact aO _)|cases h)
 |m+1,rows,o,h=>by
  unfold cj at h;split at h
  ·cases e:gy rows with
   |none=>rw[e]at h;cases h
   |some n =>
    rw[e]at h;obtain⟨o',h',rfl⟩:=lj.mp h;have:=Ht h';rw[gi];omega
  ·cases h;exact bw _
inductive tf (vs:List V) (H:Hp) (Q:VK) (E:XK):Prop
 |mk {d oa:Addr}{kvs:List (Key×V)}{L:Str->List Str}{k:Str}{own:List Str} (_:vs = [.ref d,.str k,.ref oa]) (_:H d=some (.dK kvs)) (_:H oa=some (.lst (own.map V.str))) (_:(∀x∈own,eN H kvs L x)) (_:Small (rowsOf L own)) (_:(∀r∈rowsOf L own,r.Nodup)) (_:(cj (total (rowsOf L own)) (rowsOf L own)=none -> ∀H',aw H H'->Q .aH H')) (_:(∀o,cj (total (rowsOf L own)) (rowsOf L own)=some o -> ∀p H',H p=none->aw H H'->H' p=some (.lst ((k::o).map V.str))->Q (.ref p) H')):tf vs H Q E
abbrev Mf:List Str:= ["_law_lines","_law_kind","_law_own","_law_found"]
theorem Kn:bx Mf ["_law_lines","_law_kind","_law_own"] (aN sk):=bS (by decide +kernel)
abbrev eLL:Expr:=Kj (jM (iE (bZ (bF sk) 0)))
theorem Ko:cg Mf (aN sk) ["_law_one","_law_lines"] [none,some 0] (di eLL):=fg (by decide +kernel)
theorem VG {fM:Addr}{uo:FuncData} (F:aW K "_law_line" "_law_line" sk f fd) (B:gN mg) (FM:aW K "_law_merged" "_law_merged" jz fM uo) (bM:Binds K uo ["_law_rows"] []) (mM:mg "_law_merged" = some (.ref fM)) :
  aU P w K mg base aQ 2 f fd ["_law_lines","_law_kind","_law_own"] tf:=by
 have GM:aU P w K mg base aQ 1 fM uo ["_law_rows"] xf:=VC FM B;refine F.ok Kn (fun vs H Q E h=>?_) (fun aF A outer s H vs Q E hr h=>?_)
 ·obtain⟨rfl,_⟩:=h;rfl
 ·obtain @⟨d,oa,kvs,L,k,own,rfl,hd,ho,hl,hS,eV,qn,qs⟩:=h
  have hu:=hr.units;have bu:=ie hu;refine⟨_,aE (a4 (i:=3) Kn.nd rfl (Or.inl rfl) (gU GM hr rfl mM FM.kp bM .nil ff (aa (bJ nB (gk rfl Ko (eP (pv 2)) (fun s H fp=>⟨bc (i:=0) Ko.nd rfl (Or.inl rfl),gz,gm bu (pv 1) (pv 0) (fun _ _=>rfl)⟩)) (fX (aa (fS rC rfl B.list boot_list (aa (pv 2) ah)) ah))) ah)))
   (aE (cL (cD pN (pv 3) jd (cR _)) (aP (bz jd)) cV)
   (aP (bz (bJ nB (fX (aa (pv 1) ah)) (pv 3))))),?_⟩
  obtain⟨g,hg,hR⟩:=Tj hl;have cF:own.length<=20:=hS.short own (eZ _ br);refine⟨_,rfl,oa,rfl,⟨_,ai.of ho⟩,fun c hc=>QW ho hd hg hc (by omega) ?_⟩
  have S1:=aA (o:= .lst (own.map g)) hc;refine⟨_,rfl,oa,_,rfl,.inl (ai.of (S1 _ _ ho)),fun c1 ux=>?_⟩;have S2:=S1.trans (aA (o:= .lst (own.map V.str)) ux);refine⟨mr,fun c2 gI=>?_⟩;have S3:=S2.trans (aA (o:= .lst [V.ref c1]) gI);have k1:upd (upd H c (.lst (own.map g))) c1 (.lst (own.map V.str)) c=some (.lst (own.map g)):=by rw[ae (au ag ux)];exact ag
  refine⟨c,c2,_,_,rfl,rfl,by rw[ae (au k1 gI)];exact k1,ag,by rw[aJ,aT];show _+1<=_;omega,fun c3 oN=>?_⟩
  have S4:=S3.trans (aA (o:= .lst (own.map g ++ [V.ref c1])) oN);have k4:upd (upd (upd (upd H c (.lst (own.map g))) c1 (.lst (own.map V.str))) c2 (.lst [V.ref c1])) c3 (.lst (own.map g ++ [V.ref c1])) c1=some (.lst (own.map V.str)):=by
   have k2:upd (upd (upd H c (.lst (own.map g))) c1 (.lst (own.map V.str))) c2 (.lst [V.ref c1]) c1=some (.lst (own.map V.str)):=by rw[ae (au ag gI)];exact ag
   rw[ae (au k2 oN)];exact k2
  refine xf.mk rfl (rows:=rowsOf L own) ag (zM (lC hR fun a xs _ e=>⟨trivial,S4 _ _ e⟩) trivial k4) hS eV (fun e H5 S5=>?_) (fun o e p H5 hp S5 h5=>?_)
  ·exact⟨_,rfl,rfl,_,rfl,qn e H5 (S4.trans S5)⟩
  ·refine⟨_,rfl,rfl,_,rfl,?_⟩
   refine⟨_,rfl,mr,fun c5 uy=>?_⟩;have S6:=S5.trans (aA (o:= .lst [V.str k]) uy);have hz:=(Ht e);have ht:=vw hS.short;have hfw:=hS.a8;refine⟨_,rfl,c5,p,_,_,rfl,rfl,ag,by rw[ae (au h5 uy)];exact h5,by rw[aJ,aT];show 1+_<=_;omega,fun c6 Mg=>?_⟩
   exact qs o e c6 _ (S4.free (S6.free Mg)) (S4.trans (S6.trans (aA Mg))) ag
theorem Gm {α:Type}:∀ (l:List α) (k:Nat) (h:k < l.length),(l[k]::l.eraseIdx k).Perm l
 |[],k,h=>absurd h (Ox _)
 |x::l,0,_=>Fw _
 |x::l,k+1,h=>(List.Perm.swap _ _ _).trans ((Gm l k (afB h)).cons x)
theorem Hu {α β:Type} (f:α->β):∀ (l:List α) (k:Nat),(l.map f).eraseIdx k=(l.eraseIdx k).map f
 |[],_=>rfl
 |_::_,0=>rfl
 |x::l,k+1=>d7 (f x :: ·) (Hu f l k)
theorem boot_min:bootBuiltins "min" = some (.builtin "min"):=by decide +kernel
theorem VH {d:Int} (h0:0<=d) (h1:d < 7):∃v:Int,c7 [V.int 0,.int 1,.int 1,.int 2,.int 2,.int 3,.int 4] d=some (.int v)/\0<=v/\v<=4:=by
 obtain⟨n,rfl⟩:=lA h0
 match n,(show n < 7 by omega) with
 |0,_=>exact⟨0,cW rfl,by decide,by decide⟩
 |1,_=>exact⟨1,cW rfl,by decide,by decide⟩
 |2,_=>exact⟨1,cW rfl,by decide,by decide⟩
 |3,_=>exact⟨2,cW rfl,by decide,by decide⟩
 |4,_=>exact⟨2,cW rfl,by decide,by decide⟩
 |5,_=>exact⟨3,cW rfl,by decide,by decide⟩
 |6,_=>exact⟨4,cW rfl,by decide,by decide⟩
theorem two_at {d a b m:Int} (h0:0<=d) (h1:d < 2) (ha:0<=a/\a < m) (hb:0<=b/\b < m):∃v:Int,c7 [V.int a,.int b] d=some (.int v)/\0<=v/\v < m:=by
 obtain⟨n,rfl⟩:=lA h0
 match n,(show n < 2 by omega) with
 |0,_=>exact⟨a,cW rfl,ha⟩
 |1,_=>exact⟨b,cW rfl,hb⟩
inductive wL (vs:List V) (H:Hp) (Q:VK) (E:XK):Prop
 |mk {p n:Addr}{ys:List Str} (_:vs = [.ref p,.ref n]) (_:eQ p H) (_:p≠n) (_:H n=some (.lst (ys.map V.str))) (_:ys.length<=20) (_:∀ (l:Addr) (own rest:List Str) (H':Hp),H l=none->(own++rest).Perm ys->own.length<=4->ba p H H'->H' l=some (.lst (own.map V.str))->Q (.ref l) H'):wL vs H Q E
abbrev Xc:List Str:= ["_law_pot_here","_law_made","_law_left","_law_own","_law_turn","_law_at"]
theorem sP:bx Xc ["_law_pot_here","_law_made"] (aN z9):=bS (by decide +kernel)
theorem UK {oK:FuncData} (F:aW K "_law_parents" "_law_parents" z9 f fd) (B:gN mg) (FD:aW K "_law_digit" "_law_digit" sj fD oK) (bD:Binds K oK ["_law_pot_here","_law_many"] []) (mD:mg "_law_digit" = some (.ref fD)) :
  aU P w K mg base aQ 2 f fd ["_law_pot_here","_law_made"] wL:=by
 have GD:aU P w K mg base aQ 1 fD oK ["_law_pot_here","_law_many"] lF:=An FD;refine F.ok sP (fun vs H Q E h=>?_) (fun aF A outer s H vs Q E hr h=>?_)
 ·obtain⟨rfl,_⟩:=h;rfl
 ·obtain @⟨p,n,ys,rfl,hp,hpn,hn,hlen,q⟩:=h
  have bO:aX 1 _:=hr;refine⟨_,aE (a4 (i:=2) sP.nd rfl (Or.inl rfl) (fS rC rfl B.list boot_list (aa (pv 1) ah)))
   (aE (a4 (i:=3) sP.nd rfl (Or.inl rfl) (fX ah))
   (aE (gV gx rfl (rK rfl B.range (aa (cQ (Gv rfl) rfl B.min boot_min (aa (cQ lB rfl B.len lz (aa (pv 2) ah))
     (aa (bo fc (fX (aa ay (aa ay (aa ay (aa ay (aa ay (aa ay (aa ay ah)))))))) (gU GD bO rfl mD FD.kp bD .nil ff (aa (pv 0) (aa ay ah))) (fun _ _=>rfl)) ah))) ah)) (bc (i:=4) sP.nd rfl (Or.inl rfl))
    (aE (a4 (i:=5) sP.nd rfl (Or.inl rfl) (bo fc (fX (aa (gU GD bO rfl mD FD.kp bD .nil ff (aa (pv 0) (aa (cQ lB rfl B.len lz (aa (pv 2) ah)) ah)))
      (aa (bJ sf (cQ lB rfl B.len lz (aa (pv 2) ah)) ay) ah))) (gU GD bO rfl mD FD.kp bD .nil ff (aa (pv 0) (aa ay ah))) (fun _ _=>rfl)))
    (aP (jc (kz rB zB zC pA (pv 3)
     (aa (kz rB PySem.F.slot_list_pop PySem.F.type_list_pop Rn (pv 2) (aa (pv 5) ah)) ah))))))
   (aP (bz (pv 3))))),?_⟩
  refine⟨_,rfl,n,_,rfl,.inl (ai.of hn),fun la ju=>?_⟩;refine⟨bw _,fun fa i5=>?_⟩;have yM:p≠la:=hp.ne ju;have DV:la≠fa:=au ag i5;have qg:H fa=none:=(aA ju).free i5;have qJ:p≠fa:=hp.ne qg;have P0:ba p H (upd (upd H la (.lst (ys.map V.str))) fa (.lst [])):=((ba.refl hp).new ju).new i5;have nP:(upd (upd H la (.lst (ys.map V.str))) fa (.lst [])) la=some (.lst (ys.map V.str)):=by rw[ae DV];exact ag
  have BZ:(upd (upd H la (.lst (ys.map V.str))) fa (.lst [])) fa=some (.lst []):=ag;generalize upd (upd H la (.lst (ys.map V.str))) fa (.lst [])=H0 at P0 nP BZ ⊢;refine⟨_,rfl,la,_,rfl,.inl (ai.of nP),?_⟩;refine⟨by show 7<=sizeLine;rw[aT];decide,fun c hc=>?_⟩
  have Pc:=P0.new (o:= .lst [V.int 0,.int 1,.int 1,.int 2,.int 2,.int 3,.int 4]) hc;refine⟨_,rfl,e9 (p:=p) (m:=7) Pc.ok (by decide) (by decide) fun d H1 d0 d1 yN=>?_⟩
  have DW:p≠c:=P0.ok.ne hc;obtain⟨v,hv,v0,v4⟩:=VH d0 d1;refine⟨c,_,d,.int v,rfl,rfl,ai.of (yN.kp _ _ ag (aV DW)),hv,?_⟩;have P1:=Pc.trans yN;have jN:H1 la=some (.lst (ys.map V.str)):=yN.kp _ _ (by rw[ae (au nP hc)];exact nP) (aV yM)
  have tm:H1 fa=some (.lst []):=yN.kp _ _ (by rw[ae (au BZ hc)];exact BZ) (aV qJ)
  refine⟨_,v,rfl,?_⟩;rw[aJ];obtain⟨N,hN,hN4,hNl⟩:∃N:Nat,(if v < (ys.length:Int) then v else (ys.length:Int))=N/\N<=4/\N<=ys.length:=by
   split
   ·exact⟨v.toNat,by omega,by omega,by omega⟩
   ·exact⟨ys.length,rfl,by omega,aO _⟩
  rw[hN];refine⟨(N:Int),rfl,by omega,by omega,vz (fun i σ H1=>∃ (zs ls:List Str) (v4 v5:Option V),σ = [some (.ref p),some (.ref n),some (.ref la),some (.ref fa),v4,v5]/\zs.length=i/\(zs++ls).Perm ys/\ba p H H1/\H1 la=some (.lst (ls.map V.str))/\H1 fa=some (.lst (zs.map V.str)))
   ⟨[],ys,none,none,rfl,rfl,Fw _,P1,jN,tm⟩ ?_ ?_⟩
  ·rintro i σ H1 hi ⟨zs,ls,v4,v5,rfl,hz,hP,pa,jN,tm⟩
   have VI:=hP.length_eq;rw[e7]at VI;have Ds:i < N:=by simpa using hi
   have Ka:0 < ls.length:=by omega
   refine⟨_,rfl,_,rfl,la,_,rfl,.inl (ai.of jN),?_⟩;refine e9 (p:=p) pa.ok (by rw[aJ];omega) (by rw[aJ];omega) fun d H2 d0 d1 pb=>?_
   have B0:=pb.kp _ _ jN (aV yM);have Kq:=pb.kp _ _ tm (aV qJ);rw[aJ]at d1;refine⟨_,rfl,la,_,rfl,.inl (ai.of B0),_,1,rfl,rfl,?_⟩;rw[aJ];refine⟨eT,fun c2 gI=>?_⟩;have Mh:=(pa.trans pb).new (o:= .lst [V.int d,.int ((ls.length:Int) - 1)]) gI;have Xd:p≠c2:=pb.ok.ne gI;refine⟨_,rfl,e9 (p:=p) (m:=2) Mh.ok (by decide) (by decide) fun e H3 e0 e1 pe=>?_⟩
   obtain⟨v,hv,v0,v1⟩:=two_at (a:=d) (b:=(ls.length:Int) - 1) (m:=(ls.length:Int)) e0 e1 ⟨d0,d1⟩ ⟨by omega,by omega⟩
   have lS:H3 la=some (.lst (ls.map V.str)):=pe.kp _ _ (by rw[ae (au B0 gI)];exact B0) (aV yM)
   have qh:H3 fa=some (.lst (zs.map V.str)):=pe.kp _ _ (by rw[ae (au Kq gI)];exact Kq) (aV qJ)
   have P3:=Mh.trans pe;refine⟨c2,_,e,.int v,rfl,rfl,ai.of (pe.kp _ _ ag (aV Xd)),hv,?_⟩;have hd:v.toNat < ls.length:=by omega
   refine⟨_,rfl,.inl ⟨rfl,_,ai.of qh⟩,_,rfl,.inl ⟨rfl,_,ai.of lS⟩,_,rfl,?_⟩;refine⟨la,_,v,v.toNat,.str ls[v.toNat],rfl,rfl,lS,by omega,by omega,Fd v0 (by rw[aJ];exact v1),by rw[gS,bK hd];rfl,?_⟩
   have Xe:(upd H3 la (.lst ((ls.map V.str).eraseIdx v.toNat))) fa=some (.lst (zs.map V.str)):=by rw[ae (aV DV)];exact qh
   refine⟨fa,_,_,rfl,rfl,Xe,by rw[aJ,aT];omega,?_⟩
   refine⟨zs ++ [ls[v.toNat]],ls.eraseIdx v.toNat,_,_,rfl,by rw[e7];simp[hz],?_,(P3.write ju yM).write qg qJ,?_,?_⟩
   ·refine List.Perm.trans ?_ hP
    rw[List.append_assoc];exact List.Perm.append_left zs (Gm ls _ hd)
   ·rw[ae DV,ag,Hu]
   ·rw[ag,bQ];rfl
  ·rintro σ H1 ⟨zs,ls,v4,v5,rfl,hz,hP,pa,jN,tm⟩
   have yt:zs.length=N:=by simpa using hz
   exact⟨_,rfl,q fa zs ls H1 qg hP (by omega) pa tm⟩
end fw
namespace fw
open PySem L2 HT
def kept (rows:List (List Str)) (o:List Str):Bool:=rows.all fun r=>decide ((o.filter fun n=>decide (n∈r))=r)
theorem z0 {all:List (List Str)}{n:Str}:∀ {rest:List (List Str)},ja all rest=some n->dq 0 all n=none /\ ∃ (i:Nat) (r:List Str),rest[i]? = some r/\r.head? = some n /\ ∀ (j:Nat) (q:List Str) (y:Str),rest[j]? = some q->q.head? = some y->dq 0 all y=none->i<=j
 |[],h=>by cases h
 |[]::rest,h=>by
  obtain⟨h1,i,r,e1,e2,e3⟩:=z0 (rest:=rest) h;refine⟨h1,i+1,r,by simpa using e1,e2,fun j q y hj hq hy=>?_⟩
  cases j with
  |zero =>
   obtain rfl : []=q:=by simpa using hj
   simp at hq
  |succ j=>have:=e3 j q y (by simpa using hj) hq hy;omega
 |(x::t)::rest,h=>by
  have h:(if (dq 0 all x).isNone then some x else ja all rest)=some n:=h
  by_cases c:(dq 0 all x).isNone=true
  ·rw[aB c]at h
   cases h
   exact⟨by simpa using c,0,_,rfl,rfl,fun _ _ _ _ _ _=>bw _⟩
  ·rw[ar c]at h
   obtain⟨h1,i,r,e1,e2,e3⟩:=z0 (rest:=rest) h;refine⟨h1,i+1,r,by simpa using e1,e2,fun j q y hj hq hy=>?_⟩
   cases j with
   |zero =>
    obtain rfl:x::t=q:=by simpa using hj
    obtain rfl:x=y:=by simpa using hq
    exact absurd (by rw[hy];rfl) c
   |succ j=>have:=e3 j q y (by simpa using hj) hq hy;omega
def Tn (rest:List (List Str)) (q:List Str):Prop:=q.Nodup /\ ∀x,x∈q ↔ ∃r∈rest,x∈r
theorem Ar {q:List Str}:kept rest q=true ↔ ∀r∈rest,(q.filter fun n=>decide (n∈r))=r:=by
 unfold kept;rw[vg];simp
theorem F1:(∃r∈L2.without n rest,x∈r) ↔ x≠n /\ ∃r∈rest,x∈r:=by
 constructor
 ·rintro⟨r,hr,hx⟩
  obtain⟨q,hq,rfl⟩:=bt.mp hr;have:=i8.mp hx;exact⟨by simpa using this.2,q,hq,this.1⟩
 ·rintro⟨h,q,hq,hx⟩
  exact⟨_,bt.mpr ⟨q,hq,rfl⟩,i8.mpr ⟨hx,by simpa using h⟩⟩
theorem To:(rest.any fun r=>!r.isEmpty)=true ↔ ∃r∈rest,∃x,x∈r:=by
 rw[vm]
 constructor
 ·rintro⟨r,hr,e⟩
  cases r with
  |nil=>simp at e
  |cons x t=>exact⟨_,hr,x,br⟩
 ·rintro⟨r,hr,x,hx⟩
  refine⟨r,hr,?_⟩;cases r with
  |nil=>simp at hx
  |cons y t=>rfl
theorem sound:∀ (m:Nat) (rest:List (List Str)),total rest=m->(∀r∈rest,r.Nodup) -> ∀o,cj (total rest) rest=some o->Tn rest o/\kept rest o=true:=by
 intro m
 induction m using Nat.strongRecOn with
 |_ m ih =>
  intro rest hm eV o ho;cases hA:rest.any fun r=>!r.isEmpty with
  |false =>
   rw[zV hA]at ho;cases ho
   have emp:∀r∈rest,∀x,x ∉ r:=fun r hr x hx=>by
    have:=To.mpr ⟨r,hr,x,hx⟩;rw[hA]at this;cases this
   refine⟨⟨lu,fun x=>⟨fun h=>by simp at h,fun⟨r,hr,hx⟩=>absurd hx (emp r hr x)⟩⟩,Ar.mpr fun r hr=>?_⟩
   cases r with
   |nil=>rfl
   |cons y t=>exact absurd br (emp _ hr y)
  |true =>
   cases e:gy rest with
   |none=>rw[zW hA e]at ho;cases ho
   |some n =>
    rw[zX hA e]at ho;obtain⟨o',fq,rfl⟩:=lj.mp ho;have lt:=o7 (pC e);obtain⟨⟨h1,h2⟩,h3⟩:=ih _ (by omega) (L2.without n rest) rfl (Gj eV) o' fq
    rw[Ar]at h3;have eR:n ∉ o':=fun z=>((F1.mp ((h2 n).mp z)).1 rfl);obtain⟨su,_⟩:=z0 e;rw[vF]at su;refine⟨⟨gR.mpr ⟨eR,h1⟩,fun x=>?_⟩,Ar.mpr fun r hr=>?_⟩
    ·rw[b9,h2,F1]
     constructor
     ·rintro(rfl|h)
      ·exact pC e
      ·exact h.2
     ·intro h
      by_cases z:x=n
      ·exact .inl z
      ·exact .inr ⟨z,h⟩
    ·have gK:=h3 _ (bt.mpr ⟨r,hr,rfl⟩)
     have same:(o'.filter fun y=>decide (y∈r))=o'.filter fun y=>decide (y∈r.filter fun y=>!decide (y=n)):=by
      apply List.filter_congr
      intro y hy;have:y≠n:=fun z=>eR (z ▸ hy);simp[this]
     by_cases hn:n∈r
     ·have hh:=su r hr hn
      cases r with
      |nil=>simp at hn
      |cons z t =>
       obtain rfl:z=n:=by simpa using hh
       have ht:z ∉ t:=(gR.mp (eV _ hr)).1;have et:((z::t).filter fun y=>!decide (y=z))=t:=by
        rw[zD (by simp)]
        exact afV.mpr fun y hy=>by
         have:y≠z:=fun w=>ht (w ▸ hy)
         simpa using this
       rw[vo (by simp),same,gK,et]
     ·have er:(r.filter fun y=>!decide (y=n))=r:=afV.mpr fun y hy=>by
       have:y≠n:=fun w=>hn (w ▸ hy)
       simpa using this
      rw[zD (by simpa using hn),same,gK,er]
end fw
namespace fw
open PySem L2 PySem.W HT
theorem len_sub {a b:List Str} (nd:a.Nodup) (h:∀x∈a,x∈b):a.length<=b.length:=UG nd h
structure Fm (done:List Str) (L Ps:Str->List Str):Prop where
 ps:∀x∈done,(Ps x).Nodup/\(Ps x).length<=4 /\ ∀y∈Ps x,y∈done
 ln:∀x∈done,∃o,cj (total (rowsOf L (Ps x))) (rowsOf L (Ps x))=some o/\L x=x::o
 ld:∀x∈done,(L x).Nodup /\ ∀y∈L x,y∈done
theorem Gn:r∈rowsOf L own ↔ (∃y∈own,r=L y)\/r=own:=by
 unfold rowsOf;rw[dS,bt,i']
 constructor
 ·rintro(⟨y,h,rfl⟩|h)
  ·exact .inl ⟨y,h,rfl⟩
  ·exact .inr h
 ·rintro(⟨y,h,rfl⟩|h)
  ·exact .inl ⟨y,h,rfl⟩
  ·exact .inr h
theorem Fm.pT (F:Fm done L Ps) (nd:own.Nodup) (sub:∀y∈own,y∈done):∀r∈rowsOf L own,r.Nodup /\ ∀y∈r,y∈done:=fun r hr=>by
 rcases Gn.mp hr with⟨y,hy,rfl⟩|rfl
 ·exact F.ld y (sub y hy)
 ·exact⟨nd,sub⟩
theorem Fm.small (F:Fm done L Ps) (hk:∀x∈done,Nm x) (h8:done.length<=8) (nd:own.Nodup) (h4:own.length<=4) (sub:∀y∈own,y∈done):Small (rowsOf L own):=by
 refine⟨?_,fun r hr=>?_,fun r hr y hy=>?_⟩
 ·unfold rowsOf;rw[e7,aJ,zq];omega
 ·obtain⟨h1,h2⟩:=F.pT nd sub r hr
  have:=len_sub h1 h2;omega
 ·exact hk y ((F.pT nd sub r hr).2 y hy)
theorem Fm.order (F:Fm done L Ps) {o:List Str} (nd:own.Nodup) (sub:∀y∈own,y∈done) (hm:cj (total (rowsOf L own)) (rowsOf L own)=some o):o.Nodup/\(∀y∈o,y∈done) /\ ∀r∈rowsOf L own,∀y∈r,y∈o:=by
 obtain⟨⟨h1,h2⟩,_⟩:=sound _ _ rfl (fun r hr=>(F.pT nd sub r hr).1) o hm;refine⟨h1,fun y hy=>?_,fun r hr y hy=>(h2 y).mpr ⟨r,hr,hy⟩⟩;obtain⟨r,hr,h⟩:=(h2 y).mp hy;exact(F.pT nd sub r hr).2 y h
theorem Qe {L':Str->List Str} (h:∀y∈own,L' y=L y):rowsOf L' own=rowsOf L own:=by
 unfold rowsOf;rw[rq h]
theorem Fm.add (F:Fm done L Ps) {k:Str}{o:List Str} (hk:k ∉ done) (nd:own.Nodup) (h4:own.length<=4) (sub:∀y∈own,y∈done) (hm:cj (total (rowsOf L own)) (rowsOf L own)=some o) :
  Fm (done ++ [k]) (fun x=>if x=k then k::o else L x) (fun x=>if x=k then own else Ps x):=by
 have nk:∀ {y},y∈done->y≠k:=fun h z=>hk (z ▸ h);have ext:∀ {ps:List Str},(∀y∈ps,y∈done)->rowsOf (fun x=>if x=k then k::o else L x) ps=rowsOf L ps:=fun h=>Qe fun y hy=>ar (nk (h y hy));obtain⟨o1,o2,_⟩:=F.order nd sub hm;refine⟨fun x hx=>?_,fun x hx=>?_,fun x hx=>?_⟩
 ·by_cases e:x=k
  ·rw[aB e];exact⟨nd,h4,fun y hy=>j5 _ (sub y hy)⟩
  ·rw[ar e]
   obtain⟨a,b,c⟩:=F.ps x (by rcases dS.mp hx with z|z;exact z;exact absurd (by simpa using z) e)
   exact⟨a,b,fun y hy=>j5 _ (c y hy)⟩
 ·by_cases e:x=k
  ·refine⟨o,?_,by rw[aB e,e]⟩
   rw[aB e,ext sub];exact hm
  ·have dJ:x∈done:=by rcases dS.mp hx with z|z;exact z;exact absurd (by simpa using z) e
   obtain⟨o',h1,h2⟩:=F.ln x dJ;refine⟨o',?_,by rw[ar e];exact h2⟩
   rw[ar e,ext (F.ps x dJ).2.2];exact h1
 ·by_cases e:x=k
  ·rw[aB e]
   refine⟨gR.mpr ⟨fun z=>hk (o2 k z),o1⟩,fun y hy=>?_⟩;rcases b9.mp hy with z|z
   ·rw[z];exact eZ _ br
   ·exact j5 _ (o2 y z)
  ·rw[ar e]
   have dJ:x∈done:=by rcases dS.mp hx with z|z;exact z;exact absurd (by simpa using z) e
   obtain⟨a,b⟩:=F.ld x dJ;exact⟨a,fun y hy=>j5 _ (b y hy)⟩
def iC (Ps:Str->List Str) (ks:List Str):List (Str×List Str):=ks.map fun x=>(x,Ps x)
theorem Gp (Ps:Str->List Str) (ks:List Str):(iC Ps ks).map (·.1)=ks:=by
 unfold iC;rw[dY];exact List.map_id' _
theorem Fm.VJ (F:Fm ks L Ps) (nd:ks.Nodup) (hk:∀x∈ks,Nm x) (h8:ks.length<=8):lK (iC Ps ks) L:=by
 have mem:∀ {p:Str×List Str},p∈iC Ps ks->p.1∈ks/\p.2=Ps p.1:=fun {p} hp=>by
  obtain⟨x,hx,rfl⟩:=bt.mp hp;exact⟨hx,rfl⟩
 refine⟨by rw[Gp];exact nd,by unfold iC;rw[aJ];exact h8,fun p hp=>hk _ (mem hp).1,fun p hp x hx=>?_,⟨fun x=>(L x).length,fun p hp x hx=>?_⟩,fun p hp=>?_⟩
 ·obtain⟨h1,h2⟩:=mem hp
  rw[h2]at hx;exact⟨(x,Ps x),bt.mpr ⟨x,(F.ps _ h1).2.2 x hx,rfl⟩,rfl⟩
 ·obtain⟨h1,h2⟩:=mem hp
  rw[h2]at hx;obtain⟨o,hm,hL⟩:=F.ln _ h1;obtain⟨n1,_,n3⟩:=F.ps _ h1;obtain⟨_,_,h5⟩:=F.order n1 n3 hm;have:=len_sub (F.ld x (n3 x hx)).1 fun y hy=>h5 (L x) (Gn.mpr (.inl ⟨x,hx,rfl⟩)) y hy;show(L x).length < (L p.1).length;rw[hL,gi];omega
 ·obtain⟨h1,h2⟩:=mem hp
  rw[h2];obtain⟨o,hm,hL⟩:=F.ln _ h1;obtain⟨n1,n2,n3⟩:=F.ps _ h1;obtain⟨h3,h4,_⟩:=F.order n1 n3 hm;exact⟨F.small hk h8 n1 n2 n3,o,hm,hL,by have:=len_sub h3 h4;omega⟩
theorem RW (xs:List Str):gX (xs.map V.str) none (some (-1))=xs.dropLast.map V.str:=by
 unfold gX;have e1:HT.aY (xs.map V.str).length 0 none=0:=rfl;have e2:HT.aY (xs.map V.str).length (xs.map V.str).length (some (-1))=xs.length - 1:=by
  rw[aJ];unfold HT.aY;simp;omega
 rw[e1,e2,Ft,Ol,<-List.map_take,List.dropLast_eq_take]
theorem jA {xs:List Str} (h:eQ p H) (e:H a=some (.lst (xs.map V.str))):a≠p:=by
 rintro rfl;obtain⟨x,y,e2,_⟩:=h;rw[e]at e2;have e3:xs.map V.str = [.int x,.int y]:=HO.lst.inj (eF e2);cases xs with
 |nil=>cases e3
 |cons z t=>cases e3
theorem eN.eW (h:eN H kvs L x) (ok:eQ p H) (s:ba p H H'):eN H' kvs L x:=let ⟨a,e,q⟩:=h;⟨a,e,s.kp _ _ q (jA ok q)⟩
theorem eN.write {Xf:List (Key×V)}{u:HO} (h:eN H kvs L x) (hd:H d=some (.dK Xf)) (e:H'=upd H d u):eN H' kvs L x:=let ⟨a,e1,q⟩:=h;⟨a,e1,by rw[e,ae (aS q hd (by intro z;cases z))];exact q⟩
theorem ng (ok:eQ p H) (s:ba p H H') (e:H d=some (.dK kvs)):H' d=some (.dK kvs):=by
 obtain⟨x,y,ep,_⟩:=ok;exact s.kp _ _ e (aS e ep (by intro z;cases z))
theorem As (h:eQ p H) (s:aw H H'):ba p H H':=by
 obtain⟨x,y,e,r⟩:=h;exact⟨⟨x,y,s _ _ e,r⟩,fun b o e _=>s b o e⟩
theorem ID {k:Str}{l:List Str} (hd:H d=some (.dK kvs)) (hl:H a=some (.lst (l.map V.str))) (h:x≠k->eN H kvs L x) :
  eN (upd H d (.dK (putK kvs (Sum.inr k) (.ref a)))) (putK kvs (Sum.inr k) (.ref a)) (fun x=>if x=k then l else L x) x:=by
 unfold eN;rw[m5]
 by_cases e:x=k
 ·subst e
  refine⟨a,by rw[aB rfl],?_⟩
  rw[ae (aS hl hd (by intro z;cases z))];show H a=some (.lst ((if x=x then l else L x).map V.str));rw[aB rfl];exact hl
 ·obtain⟨b,e1,e2⟩:=h e
  refine⟨b,by rw[ar (fun z=>e (jw z))];exact e1,?_⟩
  rw[ae (aS e2 hd (by intro z;cases z))];show H b=some (.lst ((if x=k then l else L x).map V.str));rw[ar e];exact e2
theorem HR {k:Str} (h:kvs.map (·.1)=done.map Sum.inr) (hk:k ∉ done):(putK kvs (Sum.inr k) v).map (·.1)=(done ++ [k]).map Sum.inr:=by
 have hv:a7 kvs (Sum.inr k)=none:=by
  have:(a7 kvs (Sum.inr k)).isSome=false:=by
   rw[<-lE,E7];intro kv d5 hd;have e:kv.1=Sum.inr k:=iP hd;have:kv.1∈kvs.map (·.1):=bt.mpr ⟨kv,d5,rfl⟩;rw[h,e]at this;obtain⟨y,hy,ey⟩:=bt.mp this;exact hk (jw ey ▸ hy)
  cases e:a7 kvs (Sum.inr k) with
  |none=>rfl
  |some _=>rw[e]at this;cases this
 rw[rQ _ hv,bQ,bQ,h];rfl
abbrev Kr:List Str:= ["_law_pot_here","_law_kinds","_law_lines","_law_parents_here","_law_kind","_law_own","_law_turn","_law_family_here"]
theorem lL:bx Kr ["_law_pot_here","_law_kinds"] (aN rX):=bS (by decide +kernel)
abbrev Xg:Expr:=jM (jM (iE (bZ (bF rX) 2)))
theorem cY.keyed (h:cY H vs aK):∃kvs,jF H 1 vs kvs/\kvs.map (·.1)=(aK.map (·.1)).map fun x=>[x]:=by
 induction h with
 |nil=>exact⟨[],.nil,rfl⟩
 |@cons _ p _ _ h _ ih =>
  obtain⟨a,b,e,q,r⟩:=h;obtain⟨kvs,h1,h2⟩:=ih;exact⟨([p.1],[.ref b])::kvs,.cons ⟨a,e,q,rfl⟩ h1,by rw[cA,h2];rfl⟩
structure Xh (p:Addr) (H:Hp) (ks:List Str) (r t d1:Addr) (o:Obj) (ws:List V) (cB:List (Key×V)) (L Ps:Str->List Str) (aK:List (Str×List Str)) (H':Hp):Prop where
 hr:H' r=some (.tup [.ref t,.ref d1])
 ht:H' t=some (.a6 o (.tup ws))
 od:o.dict=none
 fv:cY H' ws aK
 pm:aK.Perm (iC Ps ks)
 fm:Fm ks L Ps
 h1:H' d1=some (.dK cB)
 k1:cB.map (·.1)=ks.map Sum.inr
 l1:∀x∈ks,eN H' cB L x
 pa:ba p H H'
 n1:H d1=none
inductive xi (vs:List V) (H:Hp) (Q:VK) (E:XK):Prop
 |mk {p n:Addr}{ks:List Str} (_:vs = [.ref p,.ref n]) (_:eQ p H) (_:H n=some (.lst (ks.map V.str))) (_:ks.Nodup) (_:(∀x∈ks,Nm x)) (_:ks.length<=8) (_:∀r t d1 o ws cB L Ps aK H',Xh p H ks r t d1 o ws cB L Ps aK H'->Q (.ref r) H'):xi vs H Q E
theorem Jr:cg Kr (aN rX) ["_law_kind","_law_parents_here"] [none,some 3] (di Xg):=fg (by decide +kernel)
theorem VL {fP:Addr}{dP:FuncData} (F:aW K "_law_family" "_law_family" rX f fd) (B:gN mg) (B2:lU mg)
  (GP:aU P w K mg base aQ 2 fP dP ["_law_pot_here","_law_made"] wL) (kP:keepIn K (.ref fP)=true) (bP:Binds K dP ["_law_pot_here","_law_made"] []) (mP:mg "_law_parents" = some (.ref fP))
  (GL:aU P w K mg base aQ 2 fL dL ["_law_lines","_law_kind","_law_own"] tf) (kL:keepIn K (.ref fL)=true) (bL:Binds K dL ["_law_lines","_law_kind","_law_own"] []) (mL:mg "_law_line" = some (.ref fL)) :
  aU P w K mg base aQ 3 f fd ["_law_pot_here","_law_kinds"] xi:=by
 refine F.ok lL (fun vs H Q E h=>?_) (fun aF A outer s H vs Q E hr h=>?_)
 ·obtain⟨rfl,_⟩:=h;rfl
 ·obtain @⟨p,n,ks,rfl,hp,hn,knd,mH,k8,q⟩:=h
  have hu:=hr.units;have bu:=Nat.lt_of_le_of_lt (Nat.add_le_add_left (show 1<=64 by decide) _) hu
  refine⟨_,aE (nu (cw (aa rR (aa rR ah))) (lI rfl (eG (bc (i:=2) lL.nd rfl (Or.inl rfl)) (eG (bc (i:=3) lL.nd rfl (Or.inr rfl)) jB))))
   (aE (gV gx rfl (eP (pv 1)) (bc (i:=4) lL.nd rfl (Or.inl rfl))
    (aE (a4 (i:=5) lL.nd rfl (Or.inl rfl) (gU GP hr rfl mP kP bP .nil ff (aa (pv 0) (aa (fS (zR rfl) rfl B.list boot_list (aa (pv 2) ah)) ah))))
    (aE (gV gx rfl (rK rfl B.range (aa ay ah)) (bc (i:=6) lL.nd rfl (Or.inl rfl))
     (aP (cL (cD pN (gU GL hr rfl mL kL bL .nil ff (aa (pv 2) (aa (pv 4) (aa (pv 5) ah)))) jd (cR _))
      (aP (a4 (i:=5) lL.nd rfl (Or.inl rfl) (m3 vT (pv 5) m7 (m8 (U6 T1 ay))))) cV)))
    (aE (kf bu (pv 2) (pv 4) (gU GL hr rfl mL kL bL .nil ff (aa (pv 2) (aa (pv 4) (aa (pv 5) ah)))) rfl)
    (aP (kf bu (pv 3) (pv 4) (pv 5) rfl))))))
   (aE (a4 (i:=7) lL.nd rfl (Or.inl rfl) (fS OS rfl B.tuple boot_tuple (aa (cQ zJ rfl B2.sorted boot_sorted (aa (gk rfl Jr (eP (pv 1)) (fun s H fp=>⟨bc (i:=0) Jr.nd rfl (Or.inl rfl),gz,
     cw (aa (pv 0) (aa (fS (FU K rfl) rfl B.tuple boot_tuple (aa (gm bu (pv 1) (pv 0) (fun _ _=>rfl)) ah)) ah))⟩)) ah)) ah)))
   (aP (bz (cw (aa (pv 7) (aa (pv 2) ah))))))),?_⟩
  intro d1 uz d2 hd2;have S2:aw H (upd (upd H d1 (.dK [])) d2 (.dK [])):=(aA uz).trans (aA hd2);have DX:d1≠d2:=au ag hd2;have Ks:H d2=none:=(aA uz).free hd2;refine⟨by show 2<=sizeLine;rw[aT];decide,fun tp uA=>?_⟩
  have k2:(upd (upd H d1 (.dK [])) d2 (.dK [])) d1=some (.dK []):=by rw[ae DX];exact ag
  have S3:=S2.trans (aA (o:= .tup [V.ref d1,.ref d2]) uA);have Kt:upd (upd (upd H d1 (.dK [])) d2 (.dK [])) tp (.tup [V.ref d1,.ref d2]) d1=some (.dK []):=by rw[ae (au k2 uA)];exact k2
  have Ku:upd (upd (upd H d1 (.dK [])) d2 (.dK [])) tp (.tup [V.ref d1,.ref d2]) d2=some (.dK []):=by rw[ae (au ag uA)];exact ag
  refine⟨tp,_,rfl,aG.of ag,rfl,_,_,rfl,_,_,rfl,rfl,?_⟩;generalize upd (upd (upd H d1 (.dK [])) d2 (.dK [])) tp (.tup [V.ref d1,.ref d2])=H0 at S3 Kt Ku ⊢;have P0:ba p H H0:=As hp S3;have np1:p≠d1:=hp.ne uz;have np2:p≠d2:=hp.ne Ks;have DY:n≠p:=jA hp hn;refine⟨_,rfl,n,rfl,⟨_,ai.of (P0.kp _ _ hn DY)⟩,lD (xs:=ks.map V.str) (fun i σ H1=>∃ (cB lV:List (Key×V)) (L Ps:Str->List Str) (v4 v5 v6:Option V),σ = [some (.ref p),some (.ref n),some (.ref d1),some (.ref d2),v4,v5,v6,none]/\ba p H H1 /\
   H1 d1=some (.dK cB)/\H1 d2=some (.dK lV)/\cB.map (·.1)=(ks.take i).map Sum.inr/\lV.map (·.1)=(ks.take i).map Sum.inr/\(∀x∈ks.take i,eN H1 cB L x)/\(∀x∈ks.take i,eN H1 lV Ps x)/\Fm (ks.take i) L Ps)
   ⟨[],[],fun _=>[],fun _=>[],none,none,none,rfl,P0,Kt,Ku,rfl,rfl,fun x hx=>(by cases hx),fun x hx=>(by cases hx),⟨fun x hx=>(by cases hx),fun x hx=>(by cases hx),fun x hx=>(by cases hx)⟩⟩ (fun i σ H1 _ ⟨_,_,_,_,_,_,_,_,z,_⟩=>ai.of (z.kp _ _ hn DY)) ?_ ?_⟩
  ·rintro i x σ H1 hx ⟨cB,lV,L,Ps,v4,v5,v6,rfl,P1,yO,qL,e1,e2,l1,l2,fm⟩
   have ck:i < ks.length:=by simpa using (b4.mp hx).1
   obtain rfl:V.str ks[i]=x:=by simpa [ck] using hx
   have d6:ks.take (i+1)=ks.take i ++ [ks[i]]:=by rw[dj,bK ck];rfl
   have nR:ks[i] ∉ ks.take i:=by
    have:(ks.take (i+1)).Nodup:=knd.sublist (mU _ _);rw[d6]at this;exact fun z=>(jy.mp this).2.2 _ z _ br rfl
   have dnd:(ks.take i).Nodup:=knd.sublist (mU _ _);have Mi:∀x∈ks.take i,Nm x:=fun x hx=>mH x (vp hx);have d8:(ks.take i).length<=8:=by rw[c8];omega
   have lk1:cB.length=(ks.take i).length:=by have:=d7 List.length e1;simpa using this
   have lk2:lV.length=(ks.take i).length:=by have:=d7 List.length e2;simpa using this
   refine⟨_,rfl,_,rfl,d1,cB,rfl,yO,fun l hl=>?_⟩;have ek:cB.map (fun kv=>kV kv.1)=(ks.take i).map V.str:=by
    have:cB.map (fun kv=>kV kv.1)=(cB.map (·.1)).map kV:=by rw[dY];rfl
    rw[this,e1,dY];rfl
   rw[ek];have Pl:=P1.new (o:= .lst ((ks.take i).map V.str)) hl;have Sl:=aA (o:= .lst ((ks.take i).map V.str)) hl;refine wL.mk rfl Pl.ok (P1.ok.ne hl) ag (by omega) fun oa own rest H3 kT lM i3 pb h3=>?_
   have P3:=Pl.trans pb;have i6:own.Nodup:=(jy.mp (lM.nodup_iff.mpr dnd)).1;have ig:∀y∈own,y∈ks.take i:=fun y hy=>lM.mem_iff.mp (j5 _ hy);have DZ:=ng Pl.ok pb (Sl _ _ yO);have h32:=ng Pl.ok pb (Sl _ _ qL);have D0:∀x∈ks.take i,eN H3 cB L x:=fun x hx=>((l1 x hx).same Sl).eW Pl.ok pb;have l32:∀x∈ks.take i,eN H3 lV Ps x:=fun x hx=>((l2 x hx).same Sl).eW Pl.ok pb;refine⟨5,rfl,by decide,by decide,vz (fun j σ H4=>∃ (oa:Addr) (own:List Str) (v6:Option V),σ = [some (.ref p),some (.ref n),some (.ref d1),some (.ref d2),some (.str ks[i]),some (.ref oa),v6,none]/\aw H3 H4/\H4 oa=some (.lst (own.map V.str))/\own.Nodup/\(∀y∈own,y∈ks.take i)/\own.length<=4/\(cj (total (rowsOf L own)) (rowsOf L own)≠none\/own.length+j<=4))
    ⟨oa,own,_,rfl,aw.refl _,h3,i6,ig,i3,.inr i3⟩ ?_ ?_⟩
   ·clear lM i3 i6 ig h3 kT
    rintro j σ H4 hj ⟨oa,own,v6,rfl,S4,h4,i6,ig,i3,D4⟩;have uw:=fm.small Mi d8 i6 i3 ig;have D5:=fun r hr=>(fm.pT i6 ig r hr).1;refine⟨_,rfl,_,rfl,_,rfl,tf.mk rfl (S4 _ _ DZ) h4 (fun x hx=>(D0 x (ig x hx)).same S4) uw D5 (fun e H5 S5=>?_) (fun o e lp H5 hlp S5 h5=>?_)⟩
    ·refine⟨rfl,_,rfl,?_⟩
     refine⟨_,rfl,?_⟩;have bC:own ≠ []:=fun z=>by rw[z]at e;cases e
     have Ka:0 < own.length:=FJ.mpr bC;refine⟨1,rfl,_,rfl,oa,_,rfl,ai.of (S5 _ _ h4),fun c hc=>?_⟩;refine⟨c,own.dropLast,_,rfl,(S4.trans S5).trans (aA hc),?_,i6.sublist (List.dropLast_sublist _),fun y hy=>ig y (List.dropLast_subset _ hy),by rw[afW];omega,.inr ?_⟩
     ·have:=RW own
      rw[ag];exact d7 some (d7 HO.lst this)
     ·rcases D4 with z|z
      ·exact absurd e z
      ·rw[afW];omega
    ·refine⟨rfl,_,rfl,?_⟩
     exact⟨oa,own,_,rfl,S4.trans S5,S5 _ _ h4,i6,ig,i3,.inl (by rw[e];exact Option.some_ne_none _)⟩
   ·clear lM i3 i6 ig h3 kT
    rintro σ H4 ⟨oa,own,v6,rfl,S4,h4,i6,ig,i3,D4⟩;have uw:=fm.small Mi d8 i6 i3 ig;have D5:=fun r hr=>(fm.pT i6 ig r hr).1;have hn0:cj (total (rowsOf L own)) (rowsOf L own)≠none:=by
     rcases D4 with z|z
     ·exact z
     ·exact absurd z (by show ¬ (own.length+Int.toNat 5<=4);have:Int.toNat 5=5:=rfl;omega)
    refine⟨_,rfl,_,rfl,_,rfl,tf.mk rfl (S4 _ _ DZ) h4 (fun x hx=>(D0 x (ig x hx)).same S4) uw D5 (fun e=>absurd e hn0) (fun o e lp H5 hlp S5 h5=>?_)⟩;have mI:=S4.trans S5;have yP:=mI _ _ DZ;have h52:=mI _ _ h32;refine⟨_,rfl,_,rfl,d1,_,rfl,gY.k (k:=Sum.inr ks[i]) yP (by rw[aT];omega),?_⟩
    have D6:upd H5 d1 (.dK (putK cB (Sum.inr ks[i]) (.ref lp))) d2=some (.dK lV):=by rw[ae (aV DX)];exact h52
    refine⟨_,rfl,_,rfl,_,rfl,d2,_,rfl,gY.k (k:=Sum.inr ks[i]) D6 (by rw[aT];omega),?_⟩
    have P5:ba p H H5:=P3.trans (As P3.ok mI);have l61:∀x∈ks.take (i+1),eN (upd H5 d1 (.dK (putK cB (Sum.inr ks[i]) (.ref lp)))) (putK cB (Sum.inr ks[i]) (.ref lp)) (fun x=>if x=ks[i] then ks[i]::o else L x) x:=fun x hx=>ID yP h5 fun ne=>(D0 x (by
     rw[d6]at hx;rcases dS.mp hx with z|z
     ·exact z
     ·exact absurd (by simpa using z) ne)).same mI
    have h6o:upd H5 d1 (.dK (putK cB (Sum.inr ks[i]) (.ref lp))) oa=some (.lst (own.map V.str)):=by rw[ae (aS (S5 _ _ h4) yP (by intro z;cases z))];exact S5 _ _ h4
    refine⟨_,_,_,_,_,_,_,rfl,(P5.write uz np1).write Ks np2,by rw[ae DX];exact ag,ag,by rw[d6];exact HR e1 nR,by rw[d6];exact HR e2 nR,fun x hx=>(l61 x hx).write D6 rfl,fun x hx=>?_,by rw[d6];exact fm.add nR i6 i3 ig e⟩
    refine ID D6 h6o fun ne=>?_;exact((l32 x (by
     rw[d6]at hx;rcases dS.mp hx with z|z
     ·exact z
     ·exact absurd (by simpa using z) ne)).same mI).write yP rfl
  ·rintro σ H1 ⟨cB,lV,L,Ps,v4,v5,v6,rfl,P1,yO,qL,e1,e2,l1,l2,fm⟩
   rw[aJ,dc]at e1 l1 l2 fm;have Mj:=P1.kp _ _ hn DY;refine⟨_,rfl,n,rfl,⟨_,ai.of Mj⟩,fun c hc=>?_⟩;refine iz (xs:=ks.map V.str) (fun i ys τ H2=>∃t0:Option V,τ = [t0,some (.ref d2)]/\H2 c=some (.lst ys)/\aw H1 H2/\cY H2 ys (iC Ps (ks.take i))) ⟨none,rfl,ag,aA hc,.nil⟩ (fun i ys τ H2 ⟨_,_,z1,z2,_⟩=>⟨z1,ai.of (z2 _ _ Mj)⟩) ?_ ?_
   ·rintro i x ys τ H2 hx ⟨t0,rfl,h2,uB,F2⟩
    have b7:i < (ks.map V.str).length:=(b4.mp hx).1;have ck:i < ks.length:=by simpa using b7
    obtain rfl:V.str ks[i]=x:=by simpa [ck] using hx
    have d6:ks.take (i+1)=ks.take i ++ [ks[i]]:=by rw[dj,bK ck];rfl
    obtain⟨a,ea,ha⟩:=(l2 ks[i] (mV ck)).same uB;refine⟨_,rfl,_,rfl,_,rfl,d2,.ref a,rfl,by rw[<-ea];exact cp.k (k:=Sum.inr ks[i]) (uB _ _ qL),?_⟩
    refine⟨a,_,rfl,.inl ⟨ai.of ha,fun b hb=>?_⟩⟩;have Sb:=aA (o:= .tup ((Ps ks[i]).map V.str)) hb;refine⟨by show 2<=sizeLine;rw[aT];decide,fun t ht=>?_⟩
    have St:=Sb.trans (aA (o:= .tup [V.str ks[i],.ref b]) ht);have Ml:upd (upd H2 b (.tup ((Ps ks[i]).map V.str))) t (.tup [V.str ks[i],.ref b]) b=some (.tup ((Ps ks[i]).map V.str)):=by rw[ae (au ag ht)];exact ag
    have D7:=St _ _ h2;refine⟨D7,?_,cw_next b7 ⟨_,rfl,ag,fun x u hx=>by rw[ae (au hx hc)];exact St _ _ (uB x u hx),?_⟩⟩
    ·have:=F2.length
     unfold iC at this;rw[aJ,c8]at this;rw[aT];omega
    ·have ef:iC Ps (ks.take (i+1))=iC Ps (ks.take i) ++ [(ks[i],Ps ks[i])]:=by rw[d6];unfold iC;rw[bQ];rfl
     rw[ef];refine cY.append (F2.keep fun x xs hx=>?_) ?_ ?_ (b:=b)
     ·rw[ae (aS hx h2 (by intro z;cases z))];exact St _ _ hx
     ·rw[ae (aS ag D7 (by intro z;cases z))];exact ag
     ·rw[ae (aS Ml D7 (by intro z;cases z))];exact Ml
   ·rintro ys τ H2 ⟨t0,rfl,h2,uB,F2⟩
    rw[aJ,dc]at F2;obtain⟨kvs,pv,ekv⟩:=F2.keyed;have yE:=F2.length;have DD:(iC Ps ks).length=ks.length:=by unfold iC;exact aJ ..
    refine⟨c,ys,kvs,1,rfl,.inl (ai.of h2),pv,aO _,by rw[ekv,Gp];exact knd.map _ fun a b n e=>n (Oz e).1,by omega,fun D cP cU hD lM hpv Dv hso=>?_⟩
    have SD:=aA (o:= .lst cP) hD;refine⟨D,cP,rfl,ai.of ag,fun t o ht ho=>?_⟩;have St:=SD.trans (aA (o:= .a6 o (.tup cP)) ht);obtain⟨sZ,yQ,F3⟩:=zN lM F2;refine⟨_,rfl,_,rfl,eT,fun r hr=>?_⟩;have Sr:=St.trans (aA (o:= .tup [V.ref t,.ref d1]) hr);have B1:=uB.trans Sr;refine q r t d1 o cP cB L Ps sZ _ ⟨ag,by rw[ae (au ag hr)];exact ag,ho,cY.same F3 Sr,yQ,fm,B1 _ _ yO,e1,fun x hx=>(l1 x hx).same B1,P1.trans (As P1.ok B1),uz⟩
theorem boot_int:bootBuiltins "int" = some (.type "int"):=by decide +kernel
theorem boot_bool:bootBuiltins "bool" = some (.type "bool"):=by decide +kernel
structure Kv (mg:Str->Option Value):Prop where
 int:mg "int" = none
 bool:mg "bool" = none
theorem iT {x:V}:c7 (x::xs) 0=some x:=(show c7 (x::xs) ((0:Nat):Int)=some x from cW rfl)
theorem iU {x:V}:c7 (x::y::xs) 1=some y:=(show c7 (x::y::xs) ((1:Nat):Int)=some y from cW rfl)
theorem Kw {x z:V}:c7 (x::y::z::xs) 2=some z:=(show c7 (x::y::z::xs) ((2:Nat):Int)=some z from cW rfl)
end fw
namespace L2
open PySem PySem.W
theorem Rep.tupI {ds:List PyData} (r:Rep H v (.tuple ds)):∃a vs,v = .ref a/\H a=some (.tup vs)/\dg H vs ds:=by
 cases r with
 |tup e rs=>exact⟨_,_,rfl,e,rs⟩
theorem Rep.tq (r:Rep H v (.str x)):v = .str x:=by cases r;rfl
theorem Rep.xj {x:Int} (r:Rep H v (.int x)):v = .int x:=by cases r;rfl
theorem dg.qb {d:PyData}{ds:List PyData} (r:dg H vs (d::ds)):∃v ws,vs=v::ws/\Rep H v d/\dg H ws ds:=by
 cases r with
 |cons a b=>exact⟨_,_,rfl,a,b⟩
theorem dg.B4 (r:dg H vs []):vs = []:=by cases r;rfl
end L2
namespace fw
open PySem L2 PySem.W HT
inductive kW:PyData->Prop where
 |add (n:Int) (h:n.natAbs<=10 ^ 18):kW (.tuple [.str "add",.int n])
 |times (n:Int) (lo : -9<=n) (hi:n<=9):kW (.tuple [.str "times",.int n])
 |UL:kW (.tuple [.str "onward"])
 |ask (x:Str) (h:Nm x):kW (.tuple [.str "ask",.str x])
inductive Ent:PyData->Prop where
 |plain (n:Int) (h:n.natAbs<=10 ^ 18):Ent (.tuple [.str "plain",.int n])
 |ahead (x:Str) (n:Int) (h:Nm x) (hn:n.natAbs<=10 ^ 18):Ent (.tuple [.str "ahead",.str x,.int n])
 |behind (ds:List PyData) (h4:ds.length<=4) (hs:∀d∈ds,kW d):Ent (.tuple [.str "behind",.tuple ds])
 |Xi (ds:List PyData) (h4:ds.length<=4) (hs:∀d∈ds,kW d):Ent (.tuple [.str "shut",.tuple ds])
theorem two1 {s:Str}{d:PyData} (r:Rep H v (.tuple [.str s,d])):∃a u,v = .ref a/\H a=some (.tup [.str s,u])/\Rep H u d:=by
 obtain⟨a,vs,rfl,ha,rs⟩:=r.tupI;obtain⟨v0,w0,rfl,r0,rs⟩:=rs.qb;obtain⟨v1,w1,rfl,r1,rs⟩:=rs.qb;obtain rfl:=rs.B4;obtain rfl:=r0.tq;exact⟨a,v1,rfl,ha,r1⟩
theorem kW.keep {d:PyData} (s:kW d) (r:Rep H v d) (k:∀b xs,H b=some (.tup xs)->H' b=some (.tup xs)):Rep H' v d:=by
 cases s with
 |add n =>
  obtain⟨a,u,rfl,ha,r1⟩:=two1 r;obtain rfl:=r1.xj;exact .tup (k _ _ ha) (.cons (.str _) (.cons (.int _) .nil))
 |times n =>
  obtain⟨a,u,rfl,ha,r1⟩:=two1 r;obtain rfl:=r1.xj;exact .tup (k _ _ ha) (.cons (.str _) (.cons (.int _) .nil))
 |ask x =>
  obtain⟨a,u,rfl,ha,r1⟩:=two1 r;obtain rfl:=r1.tq;exact .tup (k _ _ ha) (.cons (.str _) (.cons (.str _) .nil))
 |UL =>
  obtain⟨a,vs,rfl,ha,rs⟩:=r.tupI;obtain⟨v0,w0,rfl,r0,rs⟩:=rs.qb;obtain rfl:=rs.B4;obtain rfl:=r0.tq;exact .tup (k _ _ ha) (.cons (.str _) .nil)
theorem Hv (k:∀b xs,H b=some (.tup xs)->H' b=some (.tup xs)) {ds:List PyData} (r:dg H vs ds) (h:∀d∈ds,kW d):dg H' vs ds:=by
 induction vs generalizing ds with
 |nil=>cases r;exact .nil
 |cons x xs ih=>cases r with|cons r rs=>exact .cons ((h _ br).keep r k) (ih rs fun d hd=>h d (bU _ hd))
theorem Ent.keep {d:PyData} (s:Ent d) (r:Rep H v d) (k:∀b xs,H b=some (.tup xs)->H' b=some (.tup xs)):Rep H' v d:=by
 cases s with
 |plain n =>
  obtain⟨a,u,rfl,ha,r1⟩:=two1 r;obtain rfl:=r1.xj;exact .tup (k _ _ ha) (.cons (.str _) (.cons (.int _) .nil))
 |ahead x n =>
  obtain⟨a,vs,rfl,ha,rs⟩:=r.tupI;obtain⟨v0,w0,rfl,r0,rs⟩:=rs.qb;obtain⟨v1,w1,rfl,r1,rs⟩:=rs.qb;obtain⟨v2,w2,rfl,r2,rs⟩:=rs.qb;obtain rfl:=rs.B4;obtain rfl:=r0.tq;obtain rfl:=r1.tq;obtain rfl:=r2.xj;exact .tup (k _ _ ha) (.cons (.str _) (.cons (.str _) (.cons (.int _) .nil)))
 |behind ds h4 hs =>
  obtain⟨a,u,rfl,ha,r1⟩:=two1 r;obtain⟨b,vs,rfl,hb,rs⟩:=r1.tupI;exact .tup (k _ _ ha) (.cons (.str _) (.cons (.tup (k _ _ hb) (Hv k rs hs)) .nil))
 |Xi ds h4 hs =>
  obtain⟨a,u,rfl,ha,r1⟩:=two1 r;obtain⟨b,vs,rfl,hb,rs⟩:=r1.tupI;exact .tup (k _ _ ha) (.cons (.str _) (.cons (.tup (k _ _ hb) (Hv k rs hs)) .nil))
theorem IE (pk:eQ p H) (pa:ba p H H'):∀b xs,H b=some (.tup xs)->H' b=some (.tup xs):=fun b xs e=>by
 obtain⟨x,y,e0,_⟩:=pk;exact pa.kp b _ e (aS e e0 (by intro z;cases z))
inductive qd (vs:List V) (H:Hp) (Q:VK) (E:XK):Prop
 |mk {p:Addr} (_:vs = [.ref p]) (_:eQ p H) (_:∀ (n:Int) (H':Hp),n.natAbs<=10 ^ 18->ba p H H'->Q (.int n) H'):qd vs H Q E
abbrev Xj:List Str:= ["_law_pot_here","_law_near","_law_far"]
theorem Bs:bx Xj ["_law_pot_here"] (aN AK):=bS (by decide +kernel)
theorem UM (F:aW K "_law_number" "_law_number" AK f fd)
  (GD:b8 P w K mg base aQ 1 fD dD ["_law_pot_here","_law_many"] lF "_law_digit"):aU P w K mg base aQ 2 f fd ["_law_pot_here"] qd:=by
 refine F.ok Bs (fun vs H Q E h=>?_) (fun aF A outer s H vs Q E hr h=>?_)
 ·obtain⟨rfl,_⟩:=h;rfl
 ·obtain @⟨p,rfl,pk,q⟩:=h
  have bO:aX 1 _:=hr;refine⟨_,aE (a4 (i:=1) Bs.nd rfl (Or.inl rfl) (bJ sf (bA GD bO (aa (pv 0) (aa ay ah))) ay))
   (aE (a4 (i:=2) Bs.nd rfl (Or.inl rfl) (bJ iQ (bJ sf (bA GD bO (aa (pv 0) (aa (bJ sf (bJ wg ay (bJ AV ay ay)) ay) ah))) (bJ AV ay ay)) ay))
   (aP (bz (bo fc (fX (aa (pv 1) (aa (pv 1) (aa ay (aa (pv 2) ah))))) (bA GD bO (aa (pv 0) (aa ay ah))) (fun _ _=>rfl))))),?_⟩
  refine⟨_,rfl,e9 (p:=p) (m:=41) pk (by decide) (by decide) fun d1 H1 a0 a1 p1=>⟨_,_,rfl,rfl,?_⟩⟩
  refine⟨_,rfl,_,_,rfl,rfl,⟨by decide,by decide,by decide⟩,_,_,rfl,rfl,.inl ⟨by decide,by decide⟩,_,_,rfl,rfl,?_⟩
  refine e9 (p:=p) (m:=2 * 10 ^ (18:Int).toNat - 1) p1.ok (by decide) (by decide) fun d2 H2 b0 b1 p2=>⟨_,_,rfl,rfl,⟨by decide,by decide,by decide⟩,_,_,rfl,rfl,_,_,rfl,rfl,?_⟩
  refine⟨_,rfl,_,rfl,_,rfl,by show 4<=sizeLine;rw[aT];decide,fun c hc=>?_⟩
  have p3:=(p1.trans p2).new (o:= .lst [.int (d1 - 20),.int (d1 - 20),.int 0,.int (d2 - 10 ^ (18:Int).toNat+1)]) hc;refine⟨_,rfl,e9 (p:=p) (m:=4) p3.ok (by decide) (by decide) fun d3 H3 c0 c1 p4=>?_⟩
  have hcp:c≠p:=aV ((p1.trans p2).ok.ne hc);have h3:=p4.kp _ _ ag hcp;obtain⟨j,rfl⟩:=lA c0;have yR:(10:Int) ^ (18:Int).toNat=1000000000000000000:=rfl;have fin:∀n:Int,n.natAbs<=10 ^ 18->Q (.int n) H3:=fun n hn=>q n H3 hn (p3.trans p4);have hj:j=0\/j=1\/j=2\/j=3:=by omega
  rcases hj with rfl|rfl|rfl|rfl
  ·exact⟨c,_,((0:Nat):Int),_,rfl,rfl,ai.of h3,cW rfl,fin _ (by first|omega|(rw[yR]at b1 ⊢;omega))⟩
  ·exact⟨c,_,((1:Nat):Int),_,rfl,rfl,ai.of h3,cW rfl,fin _ (by first|omega|(rw[yR]at b1 ⊢;omega))⟩
  ·exact⟨c,_,((2:Nat):Int),_,rfl,rfl,ai.of h3,cW rfl,fin _ (by first|omega|(rw[yR]at b1 ⊢;omega))⟩
  ·exact⟨c,_,((3:Nat):Int),_,rfl,rfl,ai.of h3,cW rfl,fin _ (by first|omega|(rw[yR]at b1 ⊢;omega))⟩
abbrev Bk:=List (Str×Str×PyData)
def cS (p:Str×Str×PyData):List Str:= [p.1,p.2.1]
def cO (H:Hp) (vs:List V) (bk:Bk):Prop:=Paired (fun v p=>∃a u,v=V.ref a/\H a=some (.tup [.str p.1,.str p.2.1,u])/\Rep H u p.2.2) vs bk
structure jO (bk:Bk):Prop where
 nm:∀p∈bk,Nm p.1/\Nm p.2.1
 ent:∀p∈bk,Ent p.2.2
 nd:(bk.map cS).Nodup
 a8:bk.length<=48
theorem cO.keep (k:∀b xs,H b=some (.tup xs)->H' b=some (.tup xs)) {bk:Bk} (h:cO H vs bk) (he:∀p∈bk,Ent p.2.2):cO H' vs bk:=L2.Paired.JP h fun v p hp x=>by obtain⟨a,u,e,h,r⟩:=x;exact⟨a,u,e,k _ _ h,(he p hp).keep r k⟩
theorem cO.same (S:aw H H') {bk:Bk} (h:cO H vs bk):cO H' vs bk:=Paired.imp' (fun v p x=>by obtain⟨a,u,e,h,r⟩:=x;exact⟨a,u,e,S _ _ h,r.same S⟩) h
theorem cO.length {bk:Bk} (h:cO H vs bk):vs.length=bk.length:=eu h
theorem cO.append {u:V}{p:Str×Str×PyData} (ha:H a=some (.tup [.str p.1,.str p.2.1,u])) (r:Rep H u p.2.2) {bk:Bk} (h:cO H vs bk):cO H (vs ++ [.ref a]) (bk ++ [p]):=lq h ⟨a,u,rfl,ha,r⟩
theorem cO.keyed {bk:Bk} (h:cO H vs bk):∃kvs,jF H 2 vs kvs/\kvs.map (·.1)=bk.map cS:=by
 induction h with
 |nil=>exact⟨[],.nil,rfl⟩
 |cons x _ ih =>
  obtain⟨a,u,e,h,r⟩:=x;obtain⟨kvs,h1,h2⟩:=ih;exact⟨(cS _,[u])::kvs,.cons ⟨a,e,h,rfl⟩ h1,by rw[cA,cA,h2]⟩
inductive wM (vs:List V) (H:Hp) (Q:VK) (E:XK):Prop
 |mk {x:Str} (_:vs = [.str x]) (_:Nm x) (_:∀H',aw H H'->Q .aH H'):wM vs H Q E
theorem cO.perm {Mm:List V}{bk:Bk} (p:Mm.Perm vs) (h:cO H vs bk):∃yS,yS.Perm bk/\cO H Mm yS:=zN p h
def nS (p:Str×Str×PyData):List Key:= [Sum.inr p.1,Sum.inr p.2.1]
def cE (H:Hp) (kvs:List (List Key×V)) (aR:Bk):Prop:=Paired (fun kv p=>kv.1=nS p/\Rep H kv.2 p.2.2) kvs aR
theorem cE.keep (k:∀b xs,H b=some (.tup xs)->H' b=some (.tup xs)) {kvs:List (List Key×V)}{aR:Bk} (h:cE H kvs aR) (he:∀p∈aR,Ent p.2.2):cE H' kvs aR:=L2.Paired.JP h fun v p hp x=>⟨x.1,(he p hp).keep x.2 k⟩
theorem cE.same (S:aw H H') {kvs:List (List Key×V)}{aR:Bk} (h:cE H kvs aR):cE H' kvs aR:=by
 induction h with
 |nil=>exact .nil
 |cons x _ ih=>exact .cons ⟨x.1,x.2.same S⟩ ih
theorem cE.length {kvs:List (List Key×V)}{aR:Bk} (h:cE H kvs aR):kvs.length=aR.length:=eu h
theorem HU {p:Str×Str×PyData}{k:Str}:nS p = [Sum.inr k,Sum.inr n] ↔ cS p = [k,n]:=by
 unfold nS cS
 constructor
 ·intro h
  injection h with h1 h2;injection h2 with h3 _;rw[jw h1,jw h3]
 ·intro h
  injection h with h1 h2;injection h2 with h3 _;rw[h1,h3]
theorem cE.val {H:Hp}{k n:Str}:∀ {kvs:List (List Key×V)}{aR:Bk},cE H kvs aR->(a7 kvs [Sum.inr k,Sum.inr n]=none /\ [k,n] ∉ aR.map cS) \/ ∃v d,a7 kvs [Sum.inr k,Sum.inr n]=some v/\(k,n,d)∈aR/\Rep H v d
 |_,_,.nil=>.inl ⟨rfl,by simp⟩
 |_,_,.cons (a:=kv) (b:=p) ⟨e,r⟩ t=>by
  by_cases hk:kv.1 = [Sum.inr k,Sum.inr n]
  ·have hp:=HU.mp (e.symm.trans hk)
   have e1:p.1=k:=by injection hp
   have e2:p.2.1=n:=by injection hp with _ z;injection z
   exact .inr ⟨kv.2,p.2.2,gT hk,by rw[<-e1,<-e2];exact br,r⟩
  ·have hp:cS p ≠ [k,n]:=fun z=>hk (e.trans (HU.mpr z))
   rcases cE.val (k:=k) (n:=n) t with⟨a,b⟩|⟨v,d,a,b,c⟩
   ·refine .inl ⟨(gA hk).trans a,fun z=>?_⟩
    rw[cA]at z;rcases b9.mp z with z|z
    ·exact hp z.symm
    ·exact b z
   ·exact .inr ⟨v,d,(gA hk).trans a,bU _ b,c⟩
theorem cE.snoc {k:Str}{d:PyData} (r:Rep H v d) {kvs:List (List Key×V)}{aR:Bk} (h:cE H kvs aR):cE H (kvs ++ [([Sum.inr k,Sum.inr n],v)]) (aR ++ [(k,n,d)]):=lq h ⟨rfl,r⟩
theorem Tp {a b:Bk} (p:a.Perm b) (ok:jO b):jO a:=
 ⟨fun q hq=>ok.nm q (p.mem_iff.mp hq),fun q hq=>ok.ent q (p.mem_iff.mp hq),(p.map cS).nodup_iff.mpr ok.nd,by rw[p.length_eq];exact ok.a8⟩
theorem IY:∀ {bk:Bk}{p q:Str×Str×PyData},(bk.map cS).Nodup->p∈bk->q∈bk->p≠q->cS p≠cS q
 |[],_,_,_,h,_,_=>by cases h
 |x::bk,p,q,nd,hp,hq,ne=>by
  rw[cA,gR]at nd;rcases b9.mp hp with e1|iJ
  ·rcases b9.mp hq with e2|jq
   ·exact absurd (e1.trans e2.symm) ne
   ·intro z
    exact nd.1 (e1 ▸ z ▸ bt.mpr ⟨q,jq,rfl⟩)
  ·rcases b9.mp hq with e2|jq
   ·intro z
    exact nd.1 (e2 ▸ z ▸ bt.mpr ⟨p,iJ,rfl⟩)
   ·exact IY nd.2 iJ jq ne
theorem Au (K:Frag) (h:X.K=K) {k:Nat}{t:lZ}{n:Nat} (hc:X.calm=true) (hh:tL X es t)
  (hn:(assignEach es X.env).length=n:=by rfl) (jl:(assignEach es X.env).findIdx? (·.1)=none:=by rfl):PG X (.Tuple es k pos) (JC K n t):=by subst h;exact lI hc hh hn jl
def eI (bk:Bk) (k n:Str):Option PyData:=(bk.find? fun p=>decide (cS p = [k,n])).map (·.2.2)
def cJ (bk:Bk) (n:Str):List Str->Option (Str×PyData)
 |[]=>none
 |x::r=>match eI bk x n with
  |some d=>some (x,d)
  |none=>cJ bk n r
theorem vx {k:Str}{bk:Bk}:eI bk k n=none ↔ [k,n] ∉ bk.map cS:=by
 unfold eI;rw[afX,List.find?_eq_none]
 constructor
 ·intro h z
  obtain⟨p,hp,e⟩:=bt.mp z;exact h p hp (gj e)
 ·intro h p hp z
  exact h (bt.mpr ⟨p,hp,iP z⟩)
theorem vy {k:Str}{d:PyData}{bk:Bk} (h:eI bk k n=some d):(k,n,d)∈bk:=by
 unfold eI at h;obtain⟨p,hp,rfl⟩:=lj.mp h;have hm:=List.mem_of_find?_eq_some hp;have hk:cS p = [k,n]:=iP (List.find?_some (p:=fun q=>decide (cS q = [k,n])) hp);obtain⟨a,b,c⟩:=p;injection hk with e1 e2;injection e2 with e2 _;subst e1 e2;exact hm
theorem Gq {k:Str}{d:PyData}{bk:Bk} (nd:(bk.map cS).Nodup) (h:(k,n,d)∈bk):eI bk k n=some d:=by
 cases e:eI bk k n with
 |none=>exact absurd (bt.mpr ⟨_,h,rfl⟩) (vx.mp e)
 |some d' =>
  have h':=vy e
  by_cases z:d=d'
  ·rw[z]
  ·exact absurd (show cS (k,n,d)=cS (k,n,d') from rfl) (IY nd h h' (fun w=>z (by injection w with _ w;injection w)))
theorem Px {k:Str}{a b:Bk} (p:a.Perm b) (nd:(b.map cS).Nodup):eI a k n=eI b k n:=by
 cases e:eI a k n with
 |none =>
  exact(vx.mpr fun z=>vx.mp e ((p.map cS).mem_iff.mpr z)).symm
 |some d=>exact(Gq nd (p.mem_iff.mp (vy e))).symm
theorem HV {n:Str}{a b:Bk} (p:a.Perm b) (nd:(b.map cS).Nodup):∀l:List Str,cJ a n l=cJ b n l
 |[]=>rfl
 |x::r=>by unfold cJ;rw[Px p nd,HV p nd r]
theorem UN {bk:Bk} (h:eI bk x n=none):cJ bk n (x::r)=cJ bk n r:=by
 show(match eI bk x n with|some d=>some (x,d)|none=>cJ bk n r)=_;rw[h]
theorem Tq {bk:Bk}{d:PyData} (h:eI bk x n=some d):cJ bk n (x::r)=some (x,d):=by
 show(match eI bk x n with|some d=>some (x,d)|none=>cJ bk n r)=_;rw[h]
theorem rJ {bk:Bk}{n:Str}{x:Str}:∀ (l:List Str),(∀y∈l,eI bk y n=none) -> ∀r,cJ bk n (l++r)=cJ bk n r
 |[],_,_=>rfl
 |y::l,h,r=>by
  show cJ bk n (y::(l++r))=_;rw[UN (h y br)];exact rJ (x:=x) l (fun z hz=>h z (bU _ hz)) r
theorem AM {bk:Bk}{n x:Str}{d:PyData}:∀ {l:List Str},cJ bk n l=some (x,d)->x∈l/\eI bk x n=some d
 |[],h=>by cases h
 |y::l,h=>by
  unfold cJ at h;cases e:eI bk y n with
  |some d'=>rw[e]at h;cases h;exact⟨br,e⟩
  |none =>
   rw[e]at h;obtain⟨a,b⟩:=AM (l:=l) h;exact⟨bU _ a,b⟩
theorem cE.look {k:Str}{kvs:List (List Key×V)}{aR:Bk} (h:cE H kvs aR) (nd:(aR.map cS).Nodup):(eI aR k n=none/\a7 kvs [Sum.inr k,Sum.inr n]=none) \/ ∃v d,eI aR k n=some d/\a7 kvs [Sum.inr k,Sum.inr n]=some v/\Rep H v d:=by
 rcases h.val (k:=k) (n:=n) with⟨a,b⟩|⟨v,d,a,b,c⟩
 ·exact .inl ⟨vx.mpr b,a⟩
 ·exact .inr ⟨v,d,Gq nd b,a,c⟩
def nT (H:Hp) (v:V):Option (Str×PyData)->Prop
 |none=>v = .aH
 |some (x,d)=>∃t u,v = .ref t/\H t=some (.tup [.str x,u])/\Rep H u d
theorem nT.keep (k:∀b xs,H b=some (.tup xs)->H' b=some (.tup xs)) {r:Option (Str×PyData)} (h:nT H v r) (he:∀x d,r=some (x,d)->Ent d):nT H' v r:=by
 cases r with
 |none=>exact h
 |some p =>
  obtain⟨t,u,rfl,ht,r⟩:=h;exact⟨t,u,rfl,k _ _ ht,(he _ _ rfl).keep r k⟩
def Tr (e:Expr):Scope:=match e with|.DictComp _ _ _ sc _=>sc|.SetComp _ _ sc _=>sc|_=>{ kind:= .function,names:= [],isGenerator:=false,isCoroutine:=false }
def f7 (line:List Str) (b:Str):List Str:=if b = "" then line else line.drop (line.idxOf b+1)
def fF (dl de dh:Addr) (m:Int):List (Str×V):= [("lines",.ref dl),("entries",.ref de),("hits",.ref dh),("met",.int m)]
theorem km {f g:Str}{x:V}{r:List (Str×V)} (h:g≠f):cx f v ((g,x)::r)=(g,x)::cx f v r:=ar h
theorem Ts {f:Str}{x:V}{r:List (Str×V)}:cx f v ((f,x)::r)=(f,v)::r:=aB rfl
theorem vO {f:Str}:cx f v [] = [(f,v)]:=rfl
theorem Tt (dl de dh:Addr):cx "met" (.int 0) (cx "hits" (.ref dh) (cx "entries" (.ref de) (cx "lines" (.ref dl) [])))=fF dl de dh 0:=by
 rw[vO,km (f:= "entries") (by decide +kernel),vO,km (f:= "hits") (by decide +kernel),km (f:= "hits") (by decide +kernel),vO,km (f:= "met") (by decide +kernel),km (f:= "met") (by decide +kernel),km (f:= "met") (by decide +kernel),vO]
 rfl
theorem UO (dl de dh:Addr) (m m':Int):cx "met" (.int m') (fF dl de dh m)=fF dl de dh m':=by
 unfold fF;rw[km (f:= "met") (by decide +kernel),km (f:= "met") (by decide +kernel),km (f:= "met") (by decide +kernel),Ts]
theorem jJ {α:Type}{y:Str}{v:α}{r:List (Str×α)} (h:x≠y):List.lookup x ((y,v)::r)=List.lookup x r:=by
 rw[eO];have:(x==y)=false:=by simpa using h
 rw[this]
theorem wN {α:Type}{v:α}{r:List (Str×α)}:List.lookup x ((x,v)::r)=some v:=by
 rw[eO,Fe]
section
variable{dl de dh:Addr}{m:Int}
theorem HW:(fF dl de dh m).lookup ("lines" : Str)=some (V.ref dl):=wN
theorem Gr:(fF dl de dh m).lookup ("entries" : Str)=some (V.ref de):=by unfold fF;rw[jJ (by decide +kernel)];exact wN
theorem vZ:(fF dl de dh m).lookup ("hits" : Str)=some (V.ref dh):=by unfold fF;rw[jJ (by decide +kernel),jJ (by decide +kernel)];exact wN
theorem UP:(fF dl de dh m).lookup ("met" : Str)=some (V.int m):=by unfold fF;rw[jJ (by decide +kernel),jJ (by decide +kernel),jJ (by decide +kernel)];exact wN
theorem Js (h1:x ≠ "lines") (h2:x ≠ "entries") (h3:x ≠ "hits") (h4:x ≠ "met"):(fF dl de dh m).lookup x=none:=by unfold fF;rw[jJ h1,jJ h2,jJ h3,jJ h4];rfl
end
structure nU (K:Frag) (mg:Str->Option Value) (C:Addr):Prop where
 cl:iF K C
 nl:gn K C "lines"
 ne:gn K C "entries"
 nh:gn K C "hits"
 nm:gn K C "met"
 D8:mg "Finds" = some (.ref C)
structure FI (C x dx dl de dh:Addr) (kl:List (Key×V)) (ke kh:List (List Key×V)) (m:Int) (bk:Bk) (H:Hp):Prop where
 hx:H x=some (.ins C dx (fF dl de dh m))
 hl:H dl=some (.dK kl)
 he:H de=some (.dT ke)
 hh:H dh=some (.dT kh)
 du:cE H ke bk
 ok:jO bk
 nn:de≠dh
inductive xk (vs:List V) (H:Hp) (Q:VK) (E:XK):Prop
 |mk {t:Addr}{ws:List V}{bk:Bk} (_:vs = [.ref t]) (_:H t=some (.tup ws)) (_:cO H ws bk) (_:jO bk) (_:∀d kvs H',H d=none->aw H H'->H' d=some (.dT kvs)->cE H' kvs bk->Q (.ref d) H'):xk vs H Q E
theorem Xk:bx ["book"] ["book"] (aN rT):=bS (by decide +kernel)
abbrev eEb:Expr:=xc (bZ (bF rT) 0)
theorem xl:cg ["book"] (aN rT) ["kind","name","entry"] [none,none,none] (Tr eEb):=fg (by decide +kernel)
theorem VM (F:aW K "entries_by_place" "entries_by_place" rT f fd):aU P w K mg base aQ 1 f fd ["book"] xk:=by
 refine F.ok Xk (fun vs H Q E h=>?_) (fun aF A outer s H vs Q E hr h=>?_)
 ·obtain⟨rfl,_⟩:=h;rfl
 ·obtain @⟨t,ws,bk,rfl,ht,bv,ok,q⟩:=h
  have hu:=hr.units;have bu:=ie hu;refine⟨_,aP (bz (QI rfl xl (pL (pv 0)) (fun s H fp=>⟨Au (n:=3) K rfl rfl (eG (bc (i:=0) xl.nd rfl (Or.inl rfl)) (eG (bc (i:=1) xl.nd rfl (Or.inl rfl)) (eG (bc (i:=2) xl.nd rfl (Or.inl rfl)) jB))),gz,Vt bu (cw (aa (pv 0) (aa (pv 1) ah))) (pv 2)⟩))),?_⟩;have hlen:=bv.length;have a8:=ok.a8;refine⟨_,rfl,t,rfl,⟨_,aG.of ht⟩,fun c hc=>?_⟩;refine QJ (xs:=ws) (fun i τ H1=>∃ (t0 t1 t2:Option V) (kvs:List (List Key×V)),τ = [t0,t1,t2]/\aw H H1/\H1 c=some (.dT kvs)/\cE H1 kvs (bk.take i)) ⟨none,none,none,[],rfl,aA hc,ag,.nil⟩ (fun i τ H1 ⟨_,_,_,_,_,z,_⟩=>aG.of (z _ _ ht)) ?_ ?_
  ·rintro i x τ H1 hx ⟨t0,t1,t2,kvs,rfl,S1,h1,D1⟩
   have aZ:i < ws.length:=(b4.mp hx).1;obtain⟨p,hp,a,u,rfl,ha,ru⟩:=L2.Paired.get (cO.same S1 bv) hx;have pm:=ix hp;have tk:bk.take (i+1)=bk.take i ++ [p]:=by rw[dj,hp];rfl
   refine⟨a,_,rfl,aG.of ha,rfl,_,_,rfl,_,_,rfl,_,_,rfl,rfl,?_⟩;refine⟨_,rfl,_,rfl,eT,fun kt mJ=>?_⟩;have Sk:=aA (o:= .tup [V.str p.1,V.str p.2.1]) mJ;have uC:upd H1 kt (.tup [V.str p.1,V.str p.2.1]) kt=some (.tup ((nS p).map kV)):=ag;have g9:=Sk _ _ ha;have Mn:=ru.same Sk;have D3:=cE.same Sk D1;have oO:=Sk _ _ h1;generalize upd H1 kt (.tup [V.str p.1,V.str p.2.1])=H3 at Sk uC g9 Mn D3 oO ⊢;have kl:=D3.length;have eR:a7 kvs (nS p)=none:=by
    rcases D3.val (k:=p.1) (n:=p.2.1) with⟨z,_⟩|⟨v,d',_,z2,_⟩
    ·exact z
    ·exfalso
     have nd:((bk.take (i+1)).map cS).Nodup:=ok.nd.sublist (List.Sublist.map _ (mU _ _));rw[tk,bQ]at nd;exact(jy.mp nd).2.2 _ (bt.mpr ⟨_,z2,rfl⟩) (cS p) (by simp) rfl
   refine⟨_,rfl,kvs,nS p,kt,rfl,uC,oO,?_,RG aZ ⟨_,_,_,_,rfl,fun b v e=>?_,ag,?_⟩⟩
   ·rw[c8]at kl
    rw[aT];omega
   ·rw[ae (au e hc)];exact Sk _ _ (S1 _ _ e)
   ·rw[tk,rQ _ eR]
    have up:∀b xs,H3 b=some (.tup xs)->upd H3 c (.dT (kvs ++ [(nS p,u)])) b=some (.tup xs):=fun b xs e=>by rw[ae (aS e oO (by intro z;cases z))];exact e
    exact cE.snoc (k:=p.1) (n:=p.2.1) ((ok.ent p pm).keep Mn up) (D3.keep up fun q hq=>ok.ent q (vp hq))
  ·rintro τ H1 ⟨t0,t1,t2,kvs,rfl,S1,h1,D1⟩
   rw[hlen,dc]at D1;exact q c kvs H1 hc S1 h1 D1
theorem QY {b:Str}{line:List Str}:tR (.str b) ((("" : Str)::line).map V.str)=decide (b = "" \/ b∈line):=by
 rw[pG]
 by_cases e:b = "" \/ b∈line
 ·rw[gj e]
  exact gj (by rcases e with z|z;rw[z];exact br;exact bU _ z)
 ·rw[iO e]
  exact iO (fun z=>e (by rcases b9.mp z with y|y;exact .inl y;exact .inr y))
inductive xm (vs:List V) (H:Hp) (Q:VK) (E:XK):Prop
 |mk {t:Addr}{line:List Str}{b:Str} (_:vs = [.ref t,.str b]) (_:H t=some (.tup (line.map V.str))) (_:line.length<=200) (_:(b = "" \/ b∈line)) (_:∀H',aw H H'->Q (.bl true) H'):xm vs H Q E
theorem Xl:bx ["line","thing"] ["line","thing"] (aN z8):=bS (by decide +kernel)
theorem VN (F:aW K "is_behind" "is_behind" z8 f fd) (B2:lU mg):aU P w K mg base aQ 1 f fd ["line","thing"] xm:=by
 refine F.ok Xl (fun vs H Q E h=>?_) (fun aF A outer s H vs Q E hr h=>?_)
 ·obtain⟨rfl,_⟩:=h;rfl
 ·obtain @⟨t,line,b,rfl,ht,hl,hb,q⟩:=h
  refine⟨_,aP (bz (IH (cQ vI rfl B2.yG vN (aa (pv 1) (aa (vQ (v:= .ty "str") rfl B2.str boot_str rfl) ah))) (IG (pJ pz (pv 1) (bJ Ip (cw (aa df ah)) (pv 0)) rfl)))),?_⟩;refine⟨_,rfl,⟨_,.inr ⟨"str",rfl⟩⟩,.str b,.ty "str",.type "str",.type "str",true,rfl,rfl,.inl (.str b),rfl,true,rfl,?_⟩;refine⟨_,rfl,mr,fun c hc=>?_⟩;have Sc:=aA (o:= .tup [V.str ""]) hc;refine⟨_,rfl,c,t,_,_,rfl,rfl,ag,Sc _ _ ht,by rw[aJ,aT];show 1+_<=_;omega,fun p H' S' h'=>?_⟩
  have gL:H' p=some (.tup ((("" : Str)::line).map V.str)):=h';refine⟨p,_,rfl,.inr (aG.of gL),rfl,mZ _,?_⟩;rw[ar cz,QY,gj hb];exact q H' (Sc.trans S')
inductive xn (vs:List V) (H:Hp) (Q:VK) (E:XK):Prop
 |mk {t:Addr}{line:List Str}{b:Str} (_:vs = [.ref t,.str b]) (_:H t=some (.tup (line.map V.str))) (_:line.length<=200) (_:(b = "" \/ b∈line)) (_:∀H',aw H H'->Q .aH H'):xn vs H Q E
theorem Xm:bx ["line","thing"] ["line","thing"] (aN AH):=bS (by decide +kernel)
theorem VO (F:aW K "check_behind" "check_behind" AH f fd) (GI:b8 P w K mg base aQ 1 fI dI ["line","thing"] xm "is_behind"):aU P w K mg base aQ 2 f fd ["line","thing"] xn:=by
 refine F.ok Xm (fun vs H Q E h=>?_) (fun aF A outer s H vs Q E hr h=>?_)
 ·obtain⟨rfl,_⟩:=h;rfl
 ·obtain @⟨t,line,b,rfl,ht,hl,hb,q⟩:=h
  refine⟨_,aP (cL (kq (jC (bA GI hr (aa (pv 0) (aa (pv 1) ah))))) mY cV),?_⟩;exact⟨_,rfl,_,rfl,xm.mk rfl ht hl hb fun H1 S1=>⟨true,rfl,q H1 S1⟩⟩
inductive wO (C:Addr) (vs:List V) (H:Hp) (Q:VK) (E:XK):Prop
 |mk {x dl de dx:Addr} (_:vs = [.ref x,.ref dl,.ref de]) (_:H x=some (.ins C dx [])) (_:∀dh,H dh=none->Q .aH (upd (upd H dh (.dT [])) x (.ins C dx (fF dl de dh 0)))):wO C vs H Q E
theorem VP:bx ["self","lines","entries"] ["self","lines","entries"] (aN pY):=bS (by decide +kernel)
theorem UQ (F:aW K "__init__" "Finds.__init__" pY f fd) (T:nU K mg C):aU P w K mg base aQ 1 f fd ["self","lines","entries"] (wO C):=by
 refine F.ok VP (fun vs H Q E h=>?_) (fun aF A outer s H vs Q E hr h=>?_)
 ·obtain⟨rfl,_⟩:=h;rfl
 ·obtain @⟨x,dl,de,dx,rfl,hx,q⟩:=h
  refine⟨_,aE (jD (pv 0) (pv 1) rfl) (aE (jD (pv 0) (pv 2) rfl) (aE (jD (pv 0) Ah rfl) (aP (jD (pv 0) ay rfl)))),?_⟩;refine⟨_,rfl,_,rfl,x,C,dx,[],rfl,hx,T.cl,T.nl,(by show 0 < 1000;decide),?_⟩
  refine⟨_,rfl,_,rfl,x,C,dx,_,rfl,ag,T.cl,T.ne,(by show 1 < 1000;decide),?_⟩
  rw[hW];intro dh mK;have nx:x≠dh:=au ag mK;refine⟨_,rfl,x,C,dx,_,rfl,by rw[ae nx];exact ag,T.cl,T.nh,(by show 2 < 1000;decide),?_⟩
  refine⟨_,rfl,x,C,dx,_,rfl,ag,T.cl,T.nm,(by show 3 < 1000;decide),?_⟩
  rw[hW,Tt];have ur:H dh=none:=by
   cases e:H dh with
   |none=>rfl
   |some u=>rw[ae (aV nx),e]at mK;cases mK
  have e:∀o o':HO,upd (upd (upd H x o) dh (.dT [])) x o'=upd (upd H dh (.dT [])) x o':=fun o o'=>by
   funext b
   by_cases h1:b=x
   ·subst h1;rw[ag,ag]
   ·rw[ae h1,ae h1]
    by_cases h2:b=dh
    ·subst h2;rw[ag,ag]
    ·rw[ae h2,ae h2,ae h1]
  rw[e];exact q dh ur
theorem Tu {c:Bool}{i0:Int}{tb:TE}{Q:VK} (nV:Nat->Prop) (h1:c=true -> ∃s:Nat,i0=s/\nV s) (h2:c=false->(∀s:Nat,nV s->Q (.int s) H)->tb σ H Q) (h3:∀s:Nat,nV s->Q (.int s) H):if c=true then tC (.int i0) σ H Q else tb σ H Q:=by
 cases c with
 |false=>exact h2 rfl h3
 |true =>
  obtain⟨s,e,hc⟩:=h1 rfl;show Q (.int i0) H;rw[e];exact h3 s hc
theorem HX {b:Str}{line:List Str} (h:b∈line):line[line.idxOf b]? = some b /\ ∀m,m < line.idxOf b->line[m]? ≠ some b:=by
 have hl:=List.idxOf_lt_length_iff.mpr h;refine⟨by rw[bK hl,List.getElem_idxOf],fun m hm z=>?_⟩
 obtain⟨jV,e⟩:=b4.mp z;have:=List.not_of_lt_findIdx (p:=fun x=>x==b) (xs:=line) (i:=m) hm;simp[e]at this
theorem wc {bk:Bk}{l:List Str} (ok:jO bk):∀x d,cJ bk n l=some (x,d)->Nm x/\Ent d:=fun x d h=>by
 have hm:=vy (AM h).2;exact⟨(ok.nm _ hm).1,ok.ent _ hm⟩
inductive wu (C:Addr) (vs:List V) (H:Hp) (Q:VK) (E:XK):Prop
 |mk {x dx dl de dh a:Addr}{kl:List (Key×V)}{ke kh:List (List Key×V)}{m:Int}{bk:Bk}{kind name aq:Str}{line:List Str} (_:vs = [.ref x,.str kind,.str name,.str aq]) (_:FI C x dx dl de dh kl ke kh m bk H) (_:a7 kl (Sum.inr kind)=some (.ref a)) (_:H a=some (.tup (line.map V.str))) (_:line.length<=200) (_:(aq = "" \/ aq∈line)) (_:∀v m' H',(∀b u,b≠x->H b=some u->H' b=some u)->H' x=some (.ins C dx (fF dl de dh m'))->nT H' v (cJ bk name (f7 line aq))->Q v H'):wu C vs H Q E
abbrev nWk:List Str:= ["self","kind","name","behind","line","start","other"]
theorem xo:bx nWk ["self","kind","name","behind"] (aN p9):=bS (by decide +kernel)
theorem Tv (F:aW K "walk" "Finds.walk" p9 f fd) (T:nU K mg C):aU P w K mg base aQ 1 f fd ["self","kind","name","behind"] (wu C):=by
 refine F.ok xo (fun vs H Q E h=>?_) (fun aF A outer s H vs Q E hr h=>?_)
 ·obtain⟨rfl,_⟩:=h;rfl
 ·obtain @⟨x,dx,dl,de,dh,a,kl,ke,kh,m,bk,kind,name,aq,line,rfl,fi,ea,ha,hl,hb,q⟩:=h
  have hu:=hr.units;have bu:=ie hu;refine⟨_,aE (a4 (i:=4) xo.nd rfl (Or.inl rfl) (gm bu (fV (pv 0) rfl) (pv 1) (fun _ _=>rfl)))
   (aE (a4 (i:=5) xo.nd rfl (Or.inl rfl) (Rb (cD jG (pv 3) df (cR _)) ay (bJ iQ (kz PySem.F.plainAttrs_tuple afF PySem.F.type_tuple_index QG (pv 4) (aa (pv 3) ah)) ay)))
   (aE (gV gx rfl (pL (m3 Io (pv 4) (m8 (pv 5)) m7)) (bc (i:=6) xo.nd rfl (Or.inl rfl))
    (aE (Qm (pv 0) ay Ua)
    (aP (cL (nt (pP bu (cw (aa (pv 6) (aa (pv 2) ah))) (fV (pv 0) rfl))) (aP (bz (cw (aa (pv 6) (aa (gm bu (fV (pv 0) rfl) (cw (aa (pv 6) (aa (pv 2) ah))) (fun _ _=>rfl)) ah))))) cV))))
   (aP (bz jd)))),?_⟩
  refine⟨_,rfl,x,C,dx,_,.ref dl,rfl,fi.hx,T.cl,T.nl,HW,_,rfl,dl,.ref a,rfl,.inl ⟨kl,Sum.inr kind,.inl fi.hl,rfl,ea.symm⟩,?_⟩;refine⟨_,rfl,rfl,_,rfl,?_⟩;refine Tu (fun s0=>f7 line aq=line.drop s0) (fun e=>⟨0,rfl,?_⟩) (fun e k=>?_) ?_
  ·have e:=iP e
   injection e with e;unfold f7;rw[aB e];rfl
  ·have bC:aq ≠ "" :=fun z=>by rw[z]at e;exact absurd e (by rw[gj rfl];intro y;cases y)
   have hm:aq∈line:=hb.resolve_left bC;obtain⟨i1,i2⟩:=HX hm;exact⟨_,rfl,.inr (.inr (.inr (.inr ⟨rfl,_,Rd.of ha⟩))),_,rfl,a,line,aq,line.idxOf aq,rfl,rfl,aG.of ha,i1,i2,_,_,rfl,rfl,k (line.idxOf aq+1) (by unfold f7;rw[ar bC])⟩
  intro s0 hs0;refine⟨_,rfl,_,rfl,_,rfl,a,_,rfl,ha,fun sp H0 S0 f9=>?_⟩;rw[Aq,<-OH,<-hs0]at f9;obtain⟨rest,Jt⟩:∃rest,f7 line aq=rest:=⟨_,rfl⟩;rw[Jt]at f9 q;have Mo:=S0 _ _ fi.hx;refine⟨sp,rfl,⟨_,aG.of f9⟩,R1 (xs:=rest.map V.str) (fun i σ H1=>∃ (m':Int) (v6:Option V),σ = [some (.ref x),some (.str kind),some (.str name),some (.str aq),some (.ref a),some (.int s0),v6]/\(∀b u,b≠x->H0 b=some u->H1 b=some u)/\H1 x=some (.ins C dx (fF dl de dh m')) /\ ∀y∈rest.take i,eI bk y name=none)
   ⟨m,none,rfl,fun b u _ e=>e,Mo,fun y hy=>(by cases hy)⟩ (fun i σ H1 _ ⟨_,_,_,z,_⟩=>aG.of (z _ _ (aS f9 Mo (by intro y;cases y)) f9)) ?_ ?_⟩
  ·rintro i y σ H1 hy ⟨m',v6,rfl,kp,jU,no⟩
   have ck:i < rest.length:=by simpa using (b4.mp hy).1
   obtain rfl:V.str rest[i]=y:=by simpa [ck] using hy
   have d6:rest.take (i+1)=rest.take i ++ [rest[i]]:=by rw[dj,bK ck];rfl
   refine⟨_,rfl,x,C,dx,_,.int m',rfl,jU,T.cl,T.nm,UP,_,_,rfl,rfl,dx,_,jU,by show 4 < 1000;decide,?_⟩
   rw[UO];have dQ:∀b u,b≠x->H0 b=some u->upd H1 x (.ins C dx (fF dl de dh (m'+1))) b=some u:=fun b u n e=>by rw[ae n];exact kp b u n e
   have gJ:upd H1 x (.ins C dx (fF dl de dh (m'+1))) x=some (.ins C dx (fF dl de dh (m'+1))):=ag;generalize upd H1 x (.ins C dx (fF dl de dh (m'+1)))=H2 at dQ gJ ⊢;refine⟨_,rfl,_,rfl,eT,fun kt mJ=>?_⟩;have Sk:=aA (o:= .tup [V.str rest[i],V.str name]) mJ;have uC:upd H2 kt (.tup [V.str rest[i],V.str name]) kt=some (.tup (([Sum.inr rest[i],Sum.inr name]:List Key).map kV)):=ag;have iu:=Sk _ _ gJ;have eX:∀b u,b≠x->H0 b=some u->upd H2 kt (.tup [V.str rest[i],V.str name]) b=some u:=fun b u n e=>Sk _ _ (dQ b u n e);generalize upd H2 kt (.tup [V.str rest[i],V.str name])=H3 at Sk uC iu eX ⊢;have ned:de≠x:=aS fi.he fi.hx (by intro z;cases z)
   have uD:H3 de=some (.dT ke):=eX _ _ ned (S0 _ _ fi.he);have D3:cE H3 ke bk:=fi.du.keep (fun b xs e=>eX _ _ (aS e fi.hx (by intro z;cases z)) (S0 _ _ e)) fi.ok.ent
   refine⟨_,rfl,x,C,dx,_,.ref de,rfl,iu,T.cl,T.ne,Gr,de,_,rfl,cp.t (k:= [Sum.inr rest[i],Sum.inr name]) uD uC,_,rfl,?_⟩;rcases D3.look (k:=rest[i]) (n:=name) fi.ok.nd with⟨l1,l2⟩|⟨v,d,l1,l2,l3⟩
   ·rw[l2]
    refine⟨m'+1,_,rfl,eX,iu,fun y hy=>?_⟩;rw[d6]at hy;rcases dS.mp hy with z|z
    ·exact no y z
    ·rw[i'.mp z];exact l1
   ·rw[l2]
    refine⟨_,rfl,_,rfl,x,C,dx,_,.ref de,rfl,iu,T.cl,T.ne,Gr,_,rfl,_,rfl,eT,fun k2 yT=>?_⟩;have S4:=aA (o:= .tup [V.str rest[i],V.str name]) yT;have mO:upd H3 k2 (.tup [V.str rest[i],V.str name]) k2=some (.tup (([Sum.inr rest[i],Sum.inr name]:List Key).map kV)):=ag;have uE:=S4 _ _ uD;have Mp:=S4 _ _ iu;have r4:=l3.same S4;have fH:∀b u,b≠x->H0 b=some u->upd H3 k2 (.tup [V.str rest[i],V.str name]) b=some u:=fun b u n e=>S4 _ _ (eX b u n e);generalize upd H3 k2 (.tup [V.str rest[i],V.str name])=H4 at S4 mO uE Mp r4 fH ⊢;refine⟨de,v,rfl,by rw[<-l2];exact cp.t (k:= [Sum.inr rest[i],Sum.inr name]) uE mO,eT,fun t ht=>?_⟩
    have S5:=aA (o:= .tup [V.str rest[i],v]) ht;have ef:cJ bk name rest=some (rest[i],d):=by
     conv=>lhs;rw[<-Oq i rest,rn ck]
     rw[rJ (x:=rest[i]) _ no];exact Tq l1
    refine q (.ref t) (m'+1) _ (fun b u n e=>S5 _ _ (fH b u n (S0 _ _ e))) (S5 _ _ Mp) ?_;rw[ef];exact⟨t,v,rfl,ag,r4.same S5⟩
  ·rintro σ H1 ⟨m',v6,rfl,kp,jU,no⟩
   rw[aJ,dc]at no;refine q .aH m' H1 (fun b u n e=>kp b u n (S0 _ _ e)) jU ?_;have ef:cJ bk name rest=none:=by
    have:=rJ (x:=name) rest no [];rw[iw]at this;exact this
   rw[ef];rfl
def jf (H:Hp) (kh:List (List Key×V)) (bk:Bk) (L:Str->List Str):Prop:= ∀k n b v,a7 kh [Sum.inr k,Sum.inr n,Sum.inr b]=some v->nT H v (cJ bk n (f7 (L k) b))
theorem jf.keep {kh:List (List Key×V)}{bk:Bk} (h:jf H kh bk L) (ok:jO bk) (k:∀b xs,H b=some (.tup xs)->H' b=some (.tup xs)):jf H' kh bk L:=fun a n b v e=>(h a n b v e).keep k fun x d z=>(wc ok x d z).2
inductive wx (C:Addr) (vs:List V) (H:Hp) (Q:VK) (E:XK):Prop
 |mk {x dx dl de dh:Addr}{kl:List (Key×V)}{ke kh:List (List Key×V)}{m:Int}{bk:Bk}{kind name aq:Str}{L:Str->List Str} (_:vs = [.ref x,.str kind,.str name,.str aq]) (_:FI C x dx dl de dh kl ke kh m bk H) (_:hJ H kl L kind) (_:(L kind).length<=200) (_:(aq = "" \/ aq∈L kind)) (_:jf H kh bk L) (_:kh.length<=2000) (_:∀v yU m' H',(∀b u,b≠x->b≠dh->H b=some u->H' b=some u)->FI C x dx dl de dh kl ke yU m' bk H'->jf H' yU bk L->yU.length<=kh.length+1->nT H' v (cJ bk name (f7 (L kind) aq))->Q v H'):wx C vs H Q E
abbrev nLk:List Str:= ["self","kind","name","behind","place"]
theorem Kx:bx nLk ["self","kind","name","behind"] (aN pZ):=bS (by decide +kernel)
theorem Tw {fW:Addr} (F:aW K "look" "Finds.look" pZ f fd) (T:nU K mg C) (GW:aU P w K mg base aQ 1 fW dW ["self","kind","name","behind"] (wu C)) (MW:Meth K C "walk" fW) (bW:Binds K dW ["self","kind","name","behind"] []):aU P w K mg base aQ 2 f fd ["self","kind","name","behind"] (wx C):=by
 refine F.ok Kx (fun vs H Q E h=>?_) (fun aF A outer s H vs Q E hr h=>?_)
 ·obtain⟨rfl,_⟩:=h;rfl
 ·obtain @⟨x,dx,dl,de,dh,kl,ke,kh,m,bk,kind,name,aq,L,rfl,fi,⟨a,ea,ha⟩,hl,hb,ho,Mq,q⟩:=h
  have hu:=hr.units;have bu:=ie hu;refine⟨_,aE (a4 (i:=4) Kx.nd rfl (Or.inl rfl) (cw (aa (pv 1) (aa (pv 2) (aa (pv 3) ah)))))
   (aE (cL (nt (Hb bu (pv 4) (fV (pv 0) rfl))) (aP (kf bu (fV (pv 0) rfl) (pv 4) (vS (pv 0) T.cl MW GW hr bW .nil ff (aa (pv 1) (aa (pv 2) (aa (pv 3) ah)))) rfl)) cV)
   (aP (bz (gm bu (fV (pv 0) rfl) (pv 4) (fun _ _=>rfl))))),?_⟩
  refine⟨_,rfl,_,rfl,_,rfl,kR,fun pt qM=>?_⟩;have S1:=aA (o:= .tup [V.str kind,V.str name,V.str aq]) qM;have qN:upd H pt (.tup [V.str kind,V.str name,V.str aq]) pt=some (.tup (([Sum.inr kind,Sum.inr name,Sum.inr aq]:List Key).map kV)):=ag;generalize upd H pt (.tup [V.str kind,V.str name,V.str aq])=H1 at S1 qN ⊢;have gP:FI C x dx dl de dh kl ke kh m bk H1:=⟨S1 _ _ fi.hx,S1 _ _ fi.hl,S1 _ _ fi.he,S1 _ _ fi.hh,fi.du.same S1,fi.ok,fi.nn⟩;have iZ:jf H1 kh bk L:=ho.keep fi.ok fun b xs e=>S1 _ _ e;have yV:x≠dh:=aS fi.hx fi.hh (by intro z;cases z)
  have nlh:dl≠dh:=aS fi.hl fi.hh (by intro z;cases z)
  refine⟨_,rfl,_,rfl,x,C,dx,_,.ref dh,rfl,gP.hx,T.cl,T.nh,vZ,dh,_,rfl,cp.t (k:= [Sum.inr kind,Sum.inr name,Sum.inr aq]) gP.hh qN,_,rfl,?_⟩;cases ev:a7 kh [Sum.inr kind,Sum.inr name,Sum.inr aq] with
  |some v =>
   refine⟨_,rfl,x,C,dx,_,.ref dh,rfl,gP.hx,T.cl,T.nh,vZ,_,rfl,dh,v,rfl,by rw[<-ev];exact cp.t (k:= [Sum.inr kind,Sum.inr name,Sum.inr aq]) gP.hh qN,?_⟩
   exact q v kh m H1 (fun b u _ _ e=>S1 _ _ e) gP iZ (j9 _) (iZ kind name aq v ev)
  |none =>
   refine⟨_,rfl,x,dx,_,rfl,gP.hx,Js (by decide +kernel) (by decide +kernel) (by decide +kernel) (by decide +kernel),_,rfl,_,rfl,_,rfl,wu.mk rfl gP ea (S1 _ _ ha) hl hb fun v m' H2 dQ gJ ov2=>?_⟩
   have D9:∀b xs,H1 b=some (.tup xs)->H2 b=some (.tup xs):=fun b xs e=>dQ _ _ (aS e gP.hx (by intro z;cases z)) e
   have Mr:=dQ _ _ (aV yV) gP.hh;have iJ:=D9 _ _ qN;have D2:cE H2 ke bk:=gP.du.keep D9 fi.ok.ent;refine⟨_,rfl,x,C,dx,_,.ref dh,rfl,gJ,T.cl,T.nh,vZ,_,rfl,dh,_,rfl,gY.t (k:= [Sum.inr kind,Sum.inr name,Sum.inr aq]) Mr iJ (by rw[aT];omega),?_⟩
   have D':upd H2 dh (.dT (putK kh [Sum.inr kind,Sum.inr name,Sum.inr aq] v)) dh=some (.dT (putK kh [Sum.inr kind,Sum.inr name,Sum.inr aq] v)):=ag;have eX:∀b u,b≠dh->H2 b=some u->upd H2 dh (.dT (putK kh [Sum.inr kind,Sum.inr name,Sum.inr aq] v)) b=some u:=fun b u n e=>by rw[ae n];exact e
   generalize upd H2 dh (.dT (putK kh [Sum.inr kind,Sum.inr name,Sum.inr aq] v))=H3 at D' eX ⊢;have mE:∀b xs,H2 b=some (.tup xs)->H3 b=some (.tup xs):=fun b xs e=>eX _ _ (aS e Mr (by intro z;cases z)) e
   have iu:=eX _ _ yV gJ;have fi3:FI C x dx dl de dh kl ke (putK kh [Sum.inr kind,Sum.inr name,Sum.inr aq] v) m' bk H3:=⟨iu,eX _ _ nlh (dQ _ _ (aS gP.hl gP.hx (by intro z;cases z)) gP.hl),eX _ _ fi.nn (dQ _ _ (aS gP.he gP.hx (by intro z;cases z)) gP.he),D',D2.keep mE fi.ok.ent,fi.ok,fi.nn⟩
   have Ms:nT H3 v (cJ bk name (f7 (L kind) aq)):=ov2.keep mE fun x d z=>(wc fi.ok x d z).2;have mh:jf H3 (putK kh [Sum.inr kind,Sum.inr name,Sum.inr aq] v) bk L:=fun k n b u e=>by
    rw[m5]at e
    by_cases z:([Sum.inr k,Sum.inr n,Sum.inr b]:List Key) = [Sum.inr kind,Sum.inr name,Sum.inr aq]
    ·rw[aB z]at e
     cases e
     injection z with z1 z;injection z with z2 z;injection z with z3 z;injection z1 with z1;injection z2 with z2;injection z3 with z3;rw[z1,z2,z3];exact Ms
    ·rw[ar z]at e
     exact((iZ k n b u e).keep D9 fun x d z=>(wc fi.ok x d z).2).keep mE fun x d z=>(wc fi.ok x d z).2
   refine⟨_,rfl,x,C,dx,_,.ref dh,rfl,iu,T.cl,T.nh,vZ,_,rfl,dh,v,rfl,?_,?_⟩
   ·have:=cp.t (k:= [Sum.inr kind,Sum.inr name,Sum.inr aq]) D' (mE _ _ iJ)
    rw[m5,aB rfl]at this;exact this
   ·exact q v _ m' H3 (fun b u n1 n2 e=>eX _ _ n2 (dQ _ _ n1 (S1 _ _ e))) fi3 mh (rE _ _ _) Ms
structure FB (H:Hp) (t tb:Addr) (o:Obj) (ws wb:List V) (aK:List (Str×List Str)) (L:Str->List Str) (bk:Bk):Prop where
 ht:H t=some (.a6 o (.tup ws))
 od:o.dict=none
 fv:cY H ws aK
 fo:lK aK L
 hb:H tb=some (.tup wb)
 bv:cO H wb bk
 ok:jO bk
theorem FB.same {t tb:Addr}{bk:Bk} (h:FB H t tb o ws wb aK L bk) (S:aw H H'):FB H' t tb o ws wb aK L bk:=
 ⟨S _ _ h.ht,h.od,h.fv.same S,h.fo,S _ _ h.hb,cO.same S h.bv,h.ok⟩
theorem FB.a8 {t tb:Addr}{bk:Bk} (h:FB H t tb o ws wb aK L bk) {k:Str} (hk:k∈aK.map (·.1)):(L k).length<=200:=by
 obtain⟨p,hp,rfl⟩:=bt.mp hk;obtain⟨_,q,_,e,hl⟩:=h.fo.line p hp;rw[e,gi];omega
inductive xp (C:Addr) (vs:List V) (H:Hp) (Q:VK) (E:XK):Prop
 |mk {t tb:Addr}{o:Obj}{ws wb:List V}{aK:List (Str×List Str)}{L:Str->List Str}{bk:Bk} (_:vs = [.ref t,.ref tb]) (_:FB H t tb o ws wb aK L bk) (_:∀x dx dl de dh kl ke H',aw H H'->FI C x dx dl de dh kl ke [] 0 bk H'->(∀p∈aK,hJ H' kl L p.1)->H x=none->H dh=none->Q (.ref x) H'):xp C vs H Q E
theorem Xn:bx ["family","book"] ["family","book"] (aN Al):=bS (by decide +kernel)
theorem VQ (F:aW K "finds_in" "finds_in" Al f fd) (T:nU K mg C)
  (GL:b8 P w K mg base aQ 5 fL dL ["family"] vY "lines_of")
  (GE:b8 P w K mg base aQ 1 fE dE ["book"] xk "entries_by_place")
  (M:Mk K C fI) (GI:aU P w K mg base aQ 1 fI dI ["self","lines","entries"] (wO C)) (bI:Binds K dI ["self","lines","entries"] []):aU P w K mg base aQ 6 f fd ["family","book"] (xp C):=by
 refine F.ok Xn (fun vs H Q E h=>?_) (fun aF A outer s H vs Q E hr h=>?_)
 ·obtain⟨rfl,_⟩:=h;rfl
 ·obtain @⟨t,tb,o,ws,wb,aK,L,bk,rfl,fb,q⟩:=h
  have uF:aX 5 _:=hr;have dM:aX 2 _:=uF.mono (by decide)
  have bO:aX 1 _:=uF.mono (by decide)
  refine⟨_,aP (bz (Ii M GI dM rfl T.D8 bI .nil ff (aa (bA GL uF (aa (pv 0) ah)) (aa (bA GE bO (aa (pv 1) ah)) ah)))),?_⟩;refine⟨_,rfl,vY.mk rfl fb.ht fb.fv fb.fo fun dl kl H1 hdl S1 h1 kX _=>?_⟩;have Ea:=fb.same S1;refine⟨_,rfl,xk.mk rfl Ea.hb Ea.bv Ea.ok fun de ke H2 hde S2 h2 D2=>?_⟩;intro x dx hx qO ne;have Sa:=aA (o:= .own x) qO;have dJ:upd H2 dx (.own x) x=none:=by rw[ae (aV ne)];exact hx
  have Sb:=Sa.trans (aA (o:= .ins C dx []) dJ);have iu:upd (upd H2 dx (.own x)) x (.ins C dx []) x=some (.ins C dx []):=ag;have xe:∀b u,b≠x->upd (upd H2 dx (.own x)) x (.ins C dx []) b=some u->True:=fun _ _ _ _=>trivial;generalize upd (upd H2 dx (.own x)) x (.ins C dx [])=H3 at Sb iu ⊢;refine wO.mk rfl iu fun dh mK=>⟨rfl,?_⟩;have Sc:=aA (o:= .dT []) mK;have yV:x≠dh:=au iu mK;have Mt:upd H3 dh (.dT []) dh=some (.dT []):=ag;generalize upd H3 dh (.dT [])=H4 at Sc Mt ⊢;have oP:=S1.trans S2;have eY:=Sb.trans Sc;have uG:∀b u,H2 b=some u->upd H4 x (.ins C dx (fF dl de dh 0)) b=some u:=fun b u e=>by rw[ae (au e hx)];exact eY _ _ e
  refine q x dx dl de dh kl ke _ (fun b u e=>uG _ _ (oP _ _ e)) ⟨ag,uG _ _ (S2 _ _ h1),uG _ _ h2,by rw[ae (aV yV)];exact Mt,D2.same uG,fb.ok,?_⟩ (fun p hp=>(kX p hp).same fun b u e=>uG _ _ (S2 _ _ e)) (oP.free hx) ((oP.trans Sb).free mK)
  exact au (Sb _ _ h2) mK
inductive xq (vs:List V) (H:Hp) (Q:VK) (E:XK):Prop
 |mk {a:Addr}{n:Int} (_:vs = [.ref a]) (_:H a=some (.tup [.str "plain",.int n])) (_:∀H',aw H H'->Q (.bl false) H'):xq vs H Q E
theorem Xo:bx ["entry"] ["entry"] (aN zU):=bS (by decide +kernel)
theorem VR (F:aW K "goes_first" "goes_first" zU f fd):aU P w K mg base aQ 1 f fd ["entry"] xq:=by
 refine F.ok Xo (fun vs H Q E h=>?_) (fun aF A outer s H vs Q E hr h=>?_)
 ·obtain⟨rfl,_⟩:=h;rfl
 ·obtain @⟨a,n,rfl,ha,q⟩:=h
  refine⟨_,aP (bz (pJ pz (bo cX (pv 0) ay (fun _ _=>rfl)) (cw (aa df (aa df ah))) rfl)),?_⟩;refine⟨_,rfl,a,_,0,_,rfl,rfl,aG.of ha,iT,eT,fun c hc=>?_⟩;refine⟨c,_,rfl,.inr (aG.of ag),rfl,rfl,?_⟩;have:=q _ (aA (o:= .tup [V.str "ahead",V.str "shut"]) hc);exact this
abbrev Own:=List (Str×Int)
abbrev Th:=Str×Str×Own
def jP (H:Hp) (vs:List V) (own:Own):Prop:=Paired (fun v q=>∃c,v=V.ref c/\H c=some (.tup [.str q.1,.int q.2])) vs own
def iV (H:Hp) (vs:List V) (ak:List Th):Prop:=Paired (fun v p=>∃a b us,v=V.ref a/\H a=some (.tup [.str p.1,.str p.2.1,.ref b])/\H b=some (.tup us)/\jP H us p.2.2) vs ak
theorem jP.keep {own:Own} (h:jP H vs own) (k:∀b xs,H b=some (.tup xs)->H' b=some (.tup xs)):jP H' vs own:=Paired.imp' (fun _ _ ⟨c,e,q⟩=>⟨c,e,k _ _ q⟩) h
theorem iV.keep {ak:List Th} (h:iV H vs ak) (k:∀b xs,H b=some (.tup xs)->H' b=some (.tup xs)):iV H' vs ak:=Paired.imp' (fun _ _ ⟨a,b,us,e,q,r,o⟩=>⟨a,b,us,e,k _ _ q,k _ _ r,o.keep k⟩) h
theorem iV.same {ak:List Th} (h:iV H vs ak) (S:aw H H'):iV H' vs ak:=h.keep fun _ _ e=>S _ _ e
structure jZ (H:Hp) (w t tb tt:Addr) (wt:List V) (ak:List Th):Prop where
 hw:H w=some (.tup [.ref t,.ref tb,.ref tt])
 ht:H tt=some (.tup wt)
 tv:iV H wt ak
 a8:ak.length<=5
 nm:∀p∈ak,Nm p.1
 nd:(ak.map (·.1)).Nodup
theorem jZ.same {w t tb:Addr}{ak:List Th} (h:jZ H w t tb tt wt ak) (S:aw H H'):jZ H' w t tb tt wt ak:=⟨S _ _ h.hw,S _ _ h.ht,h.tv.same S,h.a8,h.nm,h.nd⟩
inductive xr (vs:List V) (H:Hp) (Q:VK) (E:XK):Prop
 |mk {x t tb tt:Addr}{wt:List V}{ak:List Th}{th:Str} (_:vs = [.ref x,.str th]) (_:jZ H x t tb tt wt ak) (_:Nm th) (_:∀H',aw H H'->Q (.bl (decide (th∈ak.map (·.1)))) H'):xr vs H Q E
theorem Xp:bx ["world","thing"] ["world","thing"] (aN rV):=bS (by decide +kernel)
def Ju (e:Expr):Expr:=match e with|.Compare _ _ (r::_) _=>r|_=>.Constant .none 0 ⟨0,0,0,0⟩
abbrev eIt:Expr:=Ju (IX (xc (bZ (bF rV) 0)) 1)
theorem Ky:cg ["world","thing"] (aN rV) ["triple"] [none] (di eIt):=fg (by decide +kernel)
theorem VS (F:aW K "is_thing" "is_thing" rV f fd) (GN:b8 P w K mg base aQ 1 fN dN ["thing"] pS "is_name"):aU P w K mg base aQ 2 f fd ["world","thing"] xr:=by
 refine F.ok Xp (fun vs H Q E h=>?_) (fun aF A outer s H vs Q E hr h=>?_)
 ·obtain⟨rfl,_⟩:=h;rfl
 ·obtain @⟨x,t,tb,tt,wt,ak,th,rfl,h,n,q⟩:=h
  refine⟨_,aP (bz (IH (bA GN hr (aa (pv 1) ah)) (IG (pJ pz (pv 1) (gk rfl Ky (pL (bo cX (pv 0) ay (fun _ _=>rfl))) (fun s H fp=>⟨bc (i:=0) Ky.nd rfl (Or.inl rfl),gz,bo (vJ K rfl) (pv 0) ay (fun _ _=>rfl)⟩)) rfl)))),?_⟩;refine⟨_,rfl,pS.mk rfl n fun H1 S1=>⟨true,rfl,ite_tt rfl ?_⟩⟩;have h1:=h.same S1;have a8:=h.a8;have hlen:=eu h.tv;refine⟨_,rfl,_,rfl,x,_,2,_,rfl,rfl,aG.of h1.hw,Kw,tt,rfl,⟨_,aG.of h1.ht⟩,fun c hc=>?_⟩;refine rP (xs:=wt) (fun i ys τ H2=>∃t0:Option V,τ = [t0]/\aw H1 H2/\H2 c=some (.lst ys)/\ys=((ak.take i).map (·.1)).map V.str) ⟨none,rfl,aA hc,ag,rfl⟩ (fun i ys τ H2 ⟨_,_,z1,z2,_⟩=>⟨z2,aG.of (z1 _ _ h1.ht)⟩) ?_ ?_
  ·rintro i y ys τ H2 hy ⟨t0,rfl,S2,h2,rfl⟩
   have b7:i < wt.length:=(b4.mp hy).1;obtain⟨p,hp,a,b,us,rfl,ha,_⟩:=L2.Paired.get (h1.tv.same S2) hy;refine⟨_,rfl,a,_,0,_,rfl,rfl,aG.of ha,iT,h2,by rw[aJ,aJ,c8,aT];omega,cw_next b7 ⟨_,rfl,fun b o e=>by rw[ae (au e hc)];exact S2 _ _ e,ag,?_⟩⟩
   rw[dj,hp,bQ,bQ];rfl
  ·rintro ys τ H2 ⟨t0,rfl,S2,h2,rfl⟩
   rw[hlen,dc]at h2;refine⟨c,_,rfl,.inl (ai.of h2),rfl,mZ _,?_⟩;rw[ar cz,pG];exact q _ (S1.trans S2)
inductive xt (vs:List V) (H:Hp) (Q:VK) (E:XK):Prop
 |mk {x t tb tt:Addr}{wt:List V}{ak:List Th}{th:Str} (_:vs = [.ref x,.str th]) (_:jZ H x t tb tt wt ak) (_:th∈ak.map (·.1)) (_:∀H',aw H H'->Q .aH H'):xt vs H Q E
theorem Xq:bx ["world","thing"] ["world","thing"] (aN AI):=bS (by decide +kernel)
theorem VT (F:aW K "check_thing" "check_thing" AI f fd) (GI:b8 P w K mg base aQ 2 fI dI ["world","thing"] xr "is_thing"):aU P w K mg base aQ 3 f fd ["world","thing"] xt:=by
 refine F.ok Xq (fun vs H Q E h=>?_) (fun aF A outer s H vs Q E hr h=>?_)
 ·obtain⟨rfl,_⟩:=h;rfl
 ·obtain @⟨x,t,tb,tt,wt,ak,th,rfl,h,hm,q⟩:=h
  refine⟨_,aP (cL (kq (jC (bA GI hr (aa (pv 0) (aa (pv 1) ah))))) mY cV),?_⟩;obtain⟨p,hp,e⟩:=bt.mp hm;refine⟨_,rfl,_,rfl,xr.mk rfl h (e ▸ h.nm p hp) fun H1 S1=>⟨true,?_,q H1 S1⟩⟩;rw[gj hm]
def yW (H:Hp) (vs:List V) (ak:List Th):Prop:=Paired (fun v p=>∃r b us,v=V.ref r/\H r=some (.tup [.str p.2.1,.ref b])/\H b=some (.tup us)/\jP H us p.2.2) vs ak
theorem yW.keep {ak:List Th} (h:yW H vs ak) (k:∀b xs,H b=some (.tup xs)->H' b=some (.tup xs)):yW H' vs ak:=Paired.imp' (fun _ _ ⟨a,b,us,e,q,r,o⟩=>⟨a,b,us,e,k _ _ q,k _ _ r,o.keep k⟩) h
inductive xu (vs:List V) (H:Hp) (Q:VK) (E:XK):Prop
 |mk {x t tb tt:Addr}{wt:List V}{ak:List Th}{th:Th} (_:vs = [.ref x,.str th.1]) (_:jZ H x t tb tt wt ak) (_:th∈ak) (_:∀r b us H',aw H H'->H' r=some (.tup [.str th.2.1,.ref b])->H' b=some (.tup us)->jP H' us th.2.2->Q (.ref r) H'):xu vs H Q E
theorem Xr:bx ["world","thing"] ["world","thing"] (aN rW):=bS (by decide +kernel)
def Xs (e:Expr):Expr:=match e with|.Subscript o _ _=>o|_=>.Constant .none 0 ⟨0,0,0,0⟩
abbrev eKo:Expr:=Xs (xc (bZ (bF rW) 1))
theorem Kz:cg ["world","thing"] (aN rW) ["triple","thing"] [none,some 1] (di eKo):=fg (by decide +kernel)
theorem VU {ak:List Th} (nd:(ak.map (·.1)).Nodup) {p q:Th} (hp:p∈ak) (hq:q∈ak) (e:p.1=q.1):p=q:=by
 induction ak with
 |nil=>cases hp
 |cons x ak ih =>
  rw[cA,gR]at nd;rcases b9.mp hp with h1|iY
  ·rcases b9.mp hq with h2|iH
   ·rw[h1,h2]
   ·exact absurd (bt.mpr ⟨q,iH,by rw[<-e,h1]⟩) nd.1
  ·rcases b9.mp hq with h2|iH
   ·exact absurd (bt.mpr ⟨p,iY,by rw[e,h2]⟩) nd.1
   ·exact ih nd.2 iY iH
theorem VV (F:aW K "kind_and_own" "kind_and_own" rW f fd) (GC:b8 P w K mg base aQ 3 fC dC ["world","thing"] xt "check_thing"):aU P w K mg base aQ 4 f fd ["world","thing"] xu:=by
 refine F.ok Xr (fun vs H Q E h=>?_) (fun aF A outer s H vs Q E hr h=>?_)
 ·obtain⟨rfl,_⟩:=h;rfl
 ·obtain @⟨x,t,tb,tt,wt,ak,th,rfl,h,hm,q⟩:=h
  refine⟨_,aE (jc (bA GC hr (aa (pv 0) (aa (pv 1) ah))))
   (aP (bz (bo fc (gk rfl Kz (pL (bo cX (pv 0) ay (fun _ _=>rfl))) (fun s H fp=>⟨bc (i:=0) Kz.nd rfl (Or.inl rfl),m4 (cD jG (bo (vJ K rfl) (pv 0) ay (fun _ _=>rfl)) (pv 1) (cR _)),m3 Io (pv 0) (m8 ay) m7⟩)) ay (fun _ _=>rfl)))),?_⟩
  refine⟨_,rfl,_,rfl,xt.mk rfl h (bt.mpr ⟨th,hm,rfl⟩) fun H1 S1=>?_⟩;have h1:=h.same S1;have a8:=h.a8;have hlen:=eu h.tv;refine⟨_,rfl,x,_,2,_,rfl,rfl,aG.of h1.hw,Kw,tt,rfl,⟨_,aG.of h1.ht⟩,fun c hc=>?_⟩;refine rP (xs:=wt) (fun i ys τ H2=>∃t0:Option V,τ = [t0,some (.str th.1)]/\aw H1 H2/\H2 c=some (.lst ys)/\yW H2 ys ((ak.take i).filter fun p=>decide (p.1=th.1))) ⟨none,rfl,aA hc,ag,.nil⟩ (fun i ys τ H2 ⟨_,_,z1,z2,_⟩=>⟨z2,aG.of (z1 _ _ h1.ht)⟩) ?_ ?_
  ·rintro i y ys τ H2 hy ⟨t0,rfl,S2,h2,K2⟩
   have b7:i < wt.length:=(b4.mp hy).1;obtain⟨p,hp,a,b,us,rfl,ha,hb,ow⟩:=L2.Paired.get (h1.tv.same S2) hy;have tk:ak.take (i+1)=ak.take i ++ [p]:=by rw[dj,hp];rfl
   have yl:=eu K2;have fl:((ak.take i).filter fun p=>decide (p.1=th.1)).length<=(ak.take i).length:=lx _ _;rw[c8]at fl;refine⟨_,rfl,a,_,0,_,rfl,rfl,aG.of ha,iT,_,rfl,rfl,_,rfl,?_⟩;refine gp (fun e=>?_) (fun e=>?_)
   ·have e:p.1=th.1:=by
     have:=iP e;injection this
    refine⟨_,rfl,1,rfl,a,_,rfl,ha,fun r H3 S3 h3=>?_⟩;have h3:H3 r=some (.tup [.str p.2.1,.ref b]):=h3;have oN:=S3 _ _ h2;have up:∀ {zs:List V} b xs,H3 b=some (.tup xs)->upd H3 c (.lst zs) b=some (.tup xs):=fun b xs e=>by rw[ae (aS e oN (by intro z;cases z))];exact e
    refine⟨oN,by rw[aT];omega,cw_next b7 ⟨_,rfl,fun b o e=>by rw[ae (au e hc)];exact S3 _ _ (S2 _ _ e),ag,?_⟩⟩
    rw[tk,ly,vo (by simp[e])]
    exact lq ((K2.keep fun b xs e=>S3 _ _ e).keep up) ⟨r,b,us,rfl,up _ _ h3,up _ _ (S3 _ _ hb),(ow.keep fun b xs e=>S3 _ _ e).keep up⟩
   ·have e : ¬ p.1=th.1:=fun z=>e (gj (by rw[z]))
    refine cw_next b7 ⟨_,rfl,S2,h2,?_⟩;rw[tk,ly,zD (by simp[e])]
    simpa using K2
  ·rintro ys τ H2 ⟨t0,rfl,S2,h2,K2⟩
   rw[hlen,dc]at K2;have iL:th∈ak.filter fun p=>decide (p.1=th.1):=i8.mpr ⟨hm,gj rfl⟩;generalize hf:(ak.filter fun p=>decide (p.1=th.1))=fl at K2 iL;cases K2 with
   |nil=>cases iL
   |@cons v p vs fs hv _ =>
    have hp:p∈ak.filter fun p=>decide (p.1=th.1):=by rw[hf];exact br
    obtain⟨qN,iJ⟩:=i8.mp hp;obtain rfl:=VU h.nd qN hm (iP iJ);obtain⟨r,b,us,rfl,gK,hb,ow⟩:=hv;exact⟨c,_,0,.ref r,rfl,rfl,ai.of h2,iT,q r b us H2 (S1.trans S2) gK hb ow⟩
def fW (fi ow kp kn:Addr) (kd:Str) (bg:Int):List (Str×V):= [("finds",.ref fi),("kind",.str kd),("own",.ref ow),("kept",.ref kp),("known",.ref kn),("begun",.int bg)]
section
variable{fi ow kp kn:Addr}{kd:Str}{bg:Int}
theorem Tx:cx "begun" (.int 0) (cx "known" (.ref kn) (cx "kept" (.ref kp) (cx "own" (.ref ow) (cx "kind" (.str kd) (cx "finds" (.ref fi) [])))))=fW fi ow kp kn kd 0:=rfl
theorem HY:(fW fi ow kp kn kd bg).lookup ("finds" : Str)=some (V.ref fi):=rfl
theorem IF:(fW fi ow kp kn kd bg).lookup ("kind" : Str)=some (V.str kd):=rfl
theorem IZ:(fW fi ow kp kn kd bg).lookup ("own" : Str)=some (V.ref ow):=rfl
theorem rZ:(fW fi ow kp kn kd bg).lookup ("known" : Str)=some (V.ref kn):=rfl
theorem Tz:(fW fi ow kp kn kd bg).lookup ("enter" : Str)=none:=rfl
theorem TB:(fW fi ow kp kn kd bg).lookup ("forebears" : Str)=none:=rfl
theorem TC:(fW fi ow kp kn kd bg).lookup ("tell" : Str)=none:=rfl
end
structure lW (K:Frag) (mg:Str->Option Value) (C:Addr):Prop where
 cl:iF K C
 nf:gn K C "finds"
 nk:gn K C "kind"
 no:gn K C "own"
 np:gn K C "kept"
 nn:gn K C "known"
 nb:gn K C "begun"
 D8:mg "Whole" = some (.ref C)
inductive wQ (C:Addr) (vs:List V) (H:Hp) (Q:VK) (E:XK):Prop
 |mk {x fi ow kp dx:Addr}{kd:Str} (_:vs = [.ref x,.ref fi,.str kd,.ref ow,.ref kp]) (_:H x=some (.ins C dx [])) (_:H kp=some (.dT [])) (_:∀kn,H kn=none->Q .aH (upd (upd H kn (.dT [])) x (.ins C dx (fW fi ow kp kn kd 0)))):wQ C vs H Q E
abbrev tw:List Str:= ["self","finds","kind","own","kept"]
theorem VW:bx tw tw (aN pR):=bS (by decide +kernel)
theorem UR (F:aW K "__init__" "Whole.__init__" pR f fd) (B2:lU mg) (T:lW K mg C):aU P w K mg base aQ 1 f fd tw (wQ C):=by
 refine F.ok VW (fun vs H Q E h=>?_) (fun aF A outer s H vs Q E hr h=>?_)
 ·obtain⟨rfl,_⟩:=h;rfl
 ·obtain @⟨x,fi,ow,kp,dx,kd,rfl,hx,hk,q⟩:=h
  have nkx:kp≠x:=aS hk hx (by intro z;cases z)
  refine⟨_,aE (jD (pv 0) (pv 1) rfl) (aE (jD (pv 0) (pv 2) rfl) (aE (jD (pv 0) (pv 3) rfl) (aE (jD (pv 0) (pv 4) rfl) (aE (jD (pv 0) (fS Qc rfl B2.dict boot_dict (aa (pv 4) ah)) rfl) (aP (jD (pv 0) ay rfl)))))),?_⟩;refine⟨_,rfl,_,rfl,x,C,dx,[],rfl,hx,T.cl,T.nf,(by show 0 < 1000;decide),?_⟩
  refine⟨_,rfl,_,rfl,x,C,dx,_,rfl,ag,T.cl,T.nk,(by show 1 < 1000;decide),?_⟩
  rw[hW];refine⟨_,rfl,_,rfl,x,C,dx,_,rfl,ag,T.cl,T.no,(by show 2 < 1000;decide),?_⟩
  rw[hW];refine⟨_,rfl,_,rfl,x,C,dx,_,rfl,ag,T.cl,T.np,(by show 3 < 1000;decide),?_⟩
  rw[hW];refine⟨_,rfl,kp,rfl,by rw[ae nkx];exact hk,fun kn oQ=>?_⟩
  have nx:x≠kn:=au ag oQ;refine⟨_,rfl,x,C,dx,_,rfl,by rw[ae nx];exact ag,T.cl,T.nn,(by show 4 < 1000;decide),?_⟩
  refine⟨_,rfl,x,C,dx,_,rfl,ag,T.cl,T.nb,(by show 5 < 1000;decide),?_⟩
  rw[hW,Tx];have ur:H kn=none:=by
   cases e:H kn with
   |none=>rfl
   |some u=>rw[ae (aV nx),e]at oQ;cases oQ
  have e:∀o o':HO,upd (upd (upd H x o) kn (.dT [])) x o'=upd (upd H kn (.dT [])) x o':=fun o o'=>by
   funext b
   by_cases h1:b=x
   ·subst h1;rw[ag,ag]
   ·rw[ae h1,ae h1]
    by_cases h2:b=kn
    ·subst h2;rw[ag,ag]
    ·rw[ae h2,ae h2,ae h1]
  rw[e];exact q kn ur
structure WI (C D x dx fi fx dl de dh ow kp kn:Addr) (kd:Str) (bg:Int) (kl ko:List (Key×V)) (ke kh kk:List (List Key×V)) (m:Int) (bk:Bk) (H:Hp):Prop where
 n3:x≠fi
 hx:H x=some (.ins C dx (fW fi ow kp kn kd bg))
 fi:FI D fi fx dl de dh kl ke kh m bk H
 ho:H ow=some (.dK ko)
 hk:H kn=some (.dT kk)
 n1:kn≠de
 n2:kn≠dh
inductive wy (C D:Addr) (vs:List V) (H:Hp) (Q:VK) (E:XK):Prop
 |mk {x dx fi fx dl de dh ow kp kn a:Addr}{kd:Str}{bg:Int}{kl ko:List (Key×V)}{ke kh kk:List (List Key×V)}{m:Int}{bk:Bk} (_:vs = [.ref x]) (_:WI C D x dx fi fx dl de dh ow kp kn kd bg kl ko ke kh kk m bk H) (_:a7 kl (Sum.inr kd)=some (.ref a)) (_:Q (.ref a) H):wy C D vs H Q E
theorem US:bx ["self"] ["self"] (aN px):=bS (by decide +kernel)
theorem TH {D:Addr} (F:aW K "forebears" "Whole.forebears" px f fd) (T:lW K mg C) (TF:nU K mg D):aU P w K mg base aQ 1 f fd ["self"] (wy C D):=by
 refine F.ok US (fun vs H Q E h=>?_) (fun aF A outer s H vs Q E hr h=>?_)
 ·obtain⟨rfl,_⟩:=h;rfl
 ·obtain @⟨x,dx,fi,fx,dl,de,dh,ow,kp,kn,a,kd,bg,kl,ko,ke,kh,kk,m,bk,rfl,h,e,q⟩:=h
  have hu:=hr.units;refine⟨_,aP (bz (gm (ie hu) (fV (fV (pv 0) rfl) rfl) (fV (pv 0) rfl) (fun _ _=>rfl))),?_⟩;refine⟨_,rfl,x,C,dx,_,.ref fi,rfl,h.hx,T.cl,T.nf,HY,fi,D,fx,_,.ref dl,rfl,h.fi.hx,TF.cl,TF.nl,HW,_,rfl,x,C,dx,_,.str kd,rfl,h.hx,T.cl,T.nk,IF,dl,.ref a,rfl,.inl ⟨kl,Sum.inr kd,.inl h.fi.hl,rfl,e.symm⟩,q⟩
theorem UT (xs:List V) (k:Nat):gX xs none (some (k:Int))=xs.take k:=by
 unfold gX;have e1:HT.aY xs.length 0 none=0:=rfl;rw[e1,Ft,Ol];have e2:HT.aY xs.length xs.length (some (k:Int))=min k xs.length:=by
  unfold HT.aY;simp;omega
 rw[e2]
 by_cases h:k<=xs.length
 ·rw[Nat.min_eq_left h]
 ·rw[Nat.min_eq_right (by omega),OG (aO _),OG (by omega)]
structure fJ (H:Hp) (l:Addr) (ys:List Str):Prop where
 hl:H l=some (.lst (ys.map V.str))
 ne:ys ≠ []
 a8:ys.length<=20
 nm:∀y∈ys,Nm y
 nd:ys.Nodup
theorem fJ.eW {ys:List Str} (h:fJ H l ys) (pk:eQ p H) (pa:ba p H H'):fJ H' l ys:=⟨pa.kp _ _ h.hl (jA pk h.hl),h.ne,h.a8,h.nm,h.nd⟩
theorem fJ.same {ys:List Str} (h:fJ H l ys) (S:aw H H'):fJ H' l ys:=⟨S _ _ h.hl,h.ne,h.a8,h.nm,h.nd⟩
inductive qj (vs:List V) (H:Hp) (Q:VK) (E:XK):Prop
 |mk {p lk:Addr}{m:Nat}{al:Bool}{ks:List Str} (_:vs = [.ref p,.int m,.bl al,.ref lk]) (_:eQ p H) (_:1<=m) (_:m<=20) (_:fJ H lk ks) (_:∀ (l:Addr) (ys:List Str) (H':Hp),ba p H H'->fJ H' l ys->ys.length<=m->Q (.ref l) H'):qj vs H Q E
abbrev yX:List Str:= ["_law_pot_here","_law_many","_law_alike","_law_kinds"]
abbrev nCl:List Str:= ["_law_pot_here","_law_many","_law_alike","_law_kinds","_law_found"]
theorem KA:bx nCl yX (aN AJ):=bS (by decide +kernel)
theorem VX (F:aW K "_law_called" "_law_called" AJ f fd) (GN:b8 P w K mg base aQ 3 fN dN ["_law_pot_here","_law_many"] kj "_law_names"):aU P w K mg base aQ 4 f fd yX qj:=by
 refine F.ok KA (fun vs H Q E h=>?_) (fun aF A outer s H vs Q E hr h=>?_)
 ·obtain⟨rfl,_⟩:=h;rfl
 ·obtain @⟨p,lk,m,al,ks,rfl,pk,m1,m20,nk,q⟩:=h
  refine⟨_,aE (a4 (i:=4) KA.nd rfl (Or.inl rfl) (bA GN hr (aa (pv 0) (aa (pv 1) ah))))
   (aE (cL (jC (pv 2)) (aP (bz (m3 vT (pv 3) m7 (m8 (pv 1))))) cV)
   (aP (bz (pv 4)))),?_⟩
  refine⟨_,rfl,_,rfl,kj.mk rfl pk m20 fun l ys H1 hl yl ynm ynd p1 h1=>?_⟩;refine⟨_,rfl,_,rfl,?_⟩;refine gp (fun e=>?_) (fun e=>?_)
  ·have nk1:=nk.eW pk p1
   refine⟨_,rfl,_,rfl,_,rfl,lk,_,rfl,ai.of nk1.hl,fun c hc=>?_⟩;rw[UT,<-List.map_take];have kp:0 < ks.length:=FJ.mpr nk.ne;have tl:(ks.take m).length=min m ks.length:=c8 ..;refine q c (ks.take m) _ (p1.new hc) ⟨ag,fun z=>?_,by have:=nk.a8;omega,fun y hy=>nk.nm y (vp hy),nk.nd.sublist (mU _ _)⟩ (by omega)
   rw[z,jx]at tl;omega
  ·exact⟨_,rfl,q l ys H1 p1 ⟨h1,fun z=>by rw[z,jx]at yl;omega,by omega,ynm,ynd⟩ (by omega)⟩
theorem VY:PE X e (fun _ _ _=>False):=fun _ _ _ _ _ _ h=>h.elim
def Tells (t:TT) (σ:St) (H:Hp) (b:Bool):Prop:= ∀R:Bool->Hp->Prop,(∀H1,aw H H1->R b H1)->t σ H R
theorem Tells.and {t u:TT}{a b:Bool} (h:Tells t σ H a) (k:a=true -> ∀H1,aw H H1->Tells u σ H1 b):Tells (JA t u) σ H (a && b):=fun R q=>h _ fun H1 S1=>by
 cases a with
 |false=>exact q _ S1
 |true=>exact k rfl H1 S1 R fun H2 S2=>q _ (S1.trans S2)
theorem HZ {t:TT}{te:TS}{rt:_}{bk:_}{ct:_}{b:Bool} (h:Tells t (σ.set i (some v)) H b) (k:∀H1,aw H H1->if b=true then ts D (σ.set i (some v)) H1 else te D (σ.set i (some v)) H1):nF i v σ H (Ends.nx (Ends.mk (wX t ts te D) rt bk ct)):=h _ k
structure Bt (K:Frag) (mg:Str->Option Value) (B C fI:Addr) (Mu:FuncData):Prop where
 mC:mg "Missing" = some (.ref C)
 q:iB K C (some (.ref fI))=true
 fn:isFn K (.ref fI)=true
 kp:keepIn K (.ref C)=true
 F:aW K "__init__" "Missing.__init__" m6 fI Mu
 b:AZ K B
 mB:mg "LineError" = some (.ref B)
 bi:Binds K Mu ["self","name"] []
 x:f6 K C
 nk:findIn K (.ref C) "name" = some none
def wR (C:Addr) (n:Str) (H:Hp) (a:Addr):Prop:= ∃d,H a=some (kH (some .none) C (some d) a)/\H d=some (gF d [("name",.str n)])
inductive xv (K:Frag) (vs:List V) (H:Hp) (Q:VK) (E:XK):Prop
 |mk {a C:Addr}{k:V}{i:Option Value} (_:vs = [.ref a,k]) (_:H a=some (cy C none a)) (_:f6 K C) (_:iB K C i=true) (_:Jh H k) (_:findIn K (.ref C) "name" = some none) (_:∀d H',H d=none->d≠a->H' a=some (cy C (some d) a)->H' d=some (gF d [("name",k)])->J8 a H H'->Q .aH H'):xv K vs H Q E
def qP (n:Int):PyData:= .tuple [.str "plain",.int n]
def qQ (bk:Bk):Prop:= ∀p∈bk,∃n,p.2.2=qP n
def Eb (d:PyData):Int:=match d with|.tuple [_,.int n]=>n|_=>0
def cZ (own:Own):List (Key×V):=hX (own.map fun q=>(q.1,V.int q.2))
def numOf (own:Own) (bk:Bk) (line:List Str) (n b:Str):Option Int:=if b = "" /\ (own.lookup n).isSome then own.lookup n else (cJ bk n (f7 line b)).map fun p=>Eb p.2
theorem se (n:Str):∀own:Own,a7 (cZ own) (Sum.inr n)=(own.lookup n).map V.int:=by
 intro own
 induction own with
 |nil=>rfl
 |cons p own ih =>
  show a7 ((Sum.inr p.1,V.int p.2)::cZ own) (Sum.inr n)=(((p.1,p.2)::own).lookup n).map V.int
  by_cases e:p.1=n
  ·rw[gT (by rw[e]),eO,show(n==p.1)=true by simp[e]];rfl
  ·rw[gA (fun z=>e (jw z)),ih,eO,show(n==p.1)=false by simp[aV e]]
theorem A7 {bk:Bk}{l:List Str}{d:PyData} (pl:qQ bk) (h:cJ bk n l=some (x,d)):∃z,d=qP z:=pl _ (vy (AM h).2)
theorem A8 {u:V}{n:Int} (h:Rep H u (qP n)):∃a,u = .ref a/\H a=some (.tup [.str "plain",.int n]):=by
 unfold qP at h;cases h with
 |tup ha r=>cases r with|cons r1 r=>cases r1;cases r with|cons r2 r=>cases r2;cases r;exact⟨_,rfl,ha⟩
theorem WI.same {D x dx fi fx dl de dh ow kp kn:Addr}{kd:Str}{bg:Int}{kl ko:List (Key×V)}{ke kh kk:List (List Key×V)}{m:Int}{bk:Bk} (h:WI C D x dx fi fx dl de dh ow kp kn kd bg kl ko ke kh kk m bk H) (S:aw H H'):WI C D x dx fi fx dl de dh ow kp kn kd bg kl ko ke kh kk m bk H':=⟨h.n3,S _ _ h.hx,⟨S _ _ h.fi.hx,S _ _ h.fi.hl,S _ _ h.fi.he,S _ _ h.fi.hh,h.fi.du.same S,h.fi.ok,h.fi.nn⟩,S _ _ h.ho,S _ _ h.hk,h.n1,h.n2⟩
theorem Xt:bx ["self","name"] ["self","name"] (aN m6):=bS (by decide +kernel)
theorem VZ (F:aW K "__init__" "Missing.__init__" m6 f fd) (b:AZ K B) (mB:mg "LineError" = some (.ref B)):aU P w K mg base aQ 1 f fd ["self","name"] (xv K):=by
 refine F.ok Xt (fun vs H Q E h=>?_) (fun aF A outer s H vs Q E hr h=>?_)
 ·obtain⟨rfl,_⟩:=h;rfl
 ·obtain @⟨a,C,k,i,rfl,ha,c,qi,fk,nk,q⟩:=h
  have hu:=hr.units;have hg:=hr.gd;refine⟨_,aE (jc (Pd b rfl mB (aa (pv 0) (aa (Sn (Im df (Im (Uo hu hg (pv 1)) Ur))) ah)))) (aP (Sq (pv 0) (pv 1))),?_⟩;refine⟨_,rfl,⟨_,rfl,by decide +kernel⟩,_,rfl,fk,fun y1 De=>⟨⟨_,rfl,De⟩,fun y hy=>?_⟩⟩
  refine⟨a,C,none,_,i,rfl,ha,c,qi,?_⟩;refine⟨_,rfl,_,rfl,a,C,rfl,ha,c,nk,fun d hd yY=>?_⟩;exact q d _ hd yY ag (by rw[ae yY];exact ag) (RO hd)
inductive xw (C D M:Addr) (vs:List V) (H:Hp) (Q:VK) (E:XK):Prop
 |mk {x dx fi fx dl de dh ow kp kn st ta:Addr}{kd:Str}{bg:Int}{kl:List (Key×V)}{ke kh:List (List Key×V)}{m:Int}{bk:Bk}{own:Own}{L:Str->List Str}{name aq:Str} (_:vs = [.ref x,.ref st,.ref ta]) (_:WI C D x dx fi fx dl de dh ow kp kn kd bg kl (cZ own) ke kh [] m bk H) (_:H st=some (.lst [])) (_:H ta=some (.tup [.str name,.str aq]))
  (_:hJ H kl L kd) (_:(L kd).length<=200) (_:(aq = "" \/ aq∈L kd)) (_:jf H kh bk L) (_:kh.length<=2000) (_:qQ bk) (_:Nm name) (_:PyData.strOk aq=true)
  (_:numOf own bk (L kd) name aq=none -> ∀a H',(∀b u,b≠fi->b≠dh->H b=some u->H' b=some u)->H a=none->wR M name H' a->E (.ref M) (some a) H')
  (_:∀z,numOf own bk (L kd) name aq=some z -> ∀t y u H',(∀b u,b≠fi->b≠dh->b≠kn->H b=some u->H' b=some u)->H' kn=some (.dT [([Sum.inr name,Sum.inr aq],.ref t)])->H' t=some (.tup [y,.int z,u])->Q .aH H'):xw C D M vs H Q E
abbrev Mv:List Str:= ["self","standing","asking","name","behind","hit"]
theorem xx:bx Mv ["self","standing","asking"] (aN lJ):=bS (by decide +kernel)
def V0 (s:Stmt):Expr:=match s with|.If t _ _ _=>t|_=>.Constant .none 0 ⟨0,0,0,0⟩
abbrev eEn:Expr:=Ju (V0 (bZ (bF lJ) 1))
theorem KC:cg Mv (aN lJ) ["reckoning"] [none] (di eEn):=fg (by decide +kernel)
theorem V1 {D fG:Addr}{dG:FuncData} (F:aW K "enter" "Whole.enter" lJ f fd) (T:lW K mg C) (TF:nU K mg D) (TM:Bt K mg B M fI dI) (GL:aU P w K mg base aQ 2 fL dL ["self","kind","name","behind"] (wx D)) (ML:Meth K D "look" fL) (bL:Binds K dL ["self","kind","name","behind"] []) (GG:b8 P w K mg base aQ 1 fG dG ["entry"] xq "goes_first"):aU P w K mg base (cI P w) 3 f fd ["self","standing","asking"] (xw C D M):=by
 have GI:aU P w K mg base aQ 1 fI dI ["self","name"] (xv K):=VZ TM.F TM.b TM.mB;refine F.Dz xx (fun vs H Q E h=>?_) (fun aF A outer s H vs Q E hr h=>?_)
 ·obtain⟨rfl,_⟩:=h;rfl
 ·obtain @⟨x,dx,fi,fx,dl,de,dh,ow,kp,kn,st,ta,kd,bg,kl,ke,kh,m,bk,own,L,name,aq,rfl,h,jl,gv,ln,hl,hb,ho,hk,pl,nm,so,qn,q⟩:=h
  have dM:aX 2 _:=hr;have bO:aX 1 _:=dM.mono (by decide)
  have hu:=hr.units;have bu:=ie hu;refine⟨_,aE (cL (nt (pP bu (pv 2) (fV (pv 0) rfl))) mY cV)
   (aE (cL (cD (Um hu) (pv 2) (gk rfl KC (eP (pv 1)) (fun s H fp=>⟨bc (i:=0) KC.nd rfl (Or.inl rfl),gz,VY⟩)) rfl) mY cV)
   (aE (nu (pv 2) (lI rfl (eG (bc (i:=3) xx.nd rfl (Or.inl rfl)) (eG (bc (i:=4) xx.nd rfl (Or.inl rfl)) jB))))
   (aE (a4 (i:=5) xx.nd rfl (Or.inl rfl) (vS (fV (pv 0) rfl) TF.cl ML GL dM bL .nil ff (aa (fV (pv 0) rfl) (aa (pv 3) (aa (pv 4) ah)))))
   (aP (cL (PW.pt (pw_and (cD jG (pv 4) df (cR _)) (pw_and (nt (pP bu (pv 3) (fV (pv 0) rfl))) (pw_and1 (PW.pt (pw_or (cD pN (pv 5) jd (cR _)) (pw_or1 (kq (jC (bA GG bO (aa (bo cX (pv 5) ay (fun _ _=>rfl)) ah)))))))))))
    (aP (kf bu (fV (pv 0) rfl) (pv 2) (cw (aa df (aa (gm bu (fV (pv 0) rfl) (pv 3) (fun _ _=>rfl)) (aa (cw (aa (pv 3) ah)) ah)))) rfl))
    (aP (cL (cD pN (pv 5) jd (cR _)) (aP (QN (So TM.q TM.fn TM.kp GI dM TM.bi ff rfl TM.mC (aa (pv 3) ah))))
     (aP (cL (cD jG (bo cX (bo cX (pv 5) ay (fun _ _=>rfl)) ay (fun _ _=>rfl)) df (cR _))
      (aP (kf bu (fV (pv 0) rfl) (pv 2) (cw (aa (bo cX (pv 5) ay (fun _ _=>rfl)) (aa (bo cX (bo cX (pv 5) ay (fun _ _=>rfl)) ay (fun _ _=>rfl)) (aa (cw (aa (pv 3) ah)) ah)))) rfl))
      mY))))))))),?_⟩
  have uH:H ta=some (.tup (([Sum.inr name,Sum.inr aq]:List Key).map kV)):=gv;refine⟨_,rfl,_,rfl,x,C,dx,_,.ref kn,rfl,h.hx,T.cl,T.nn,rZ,kn,_,rfl,cp.t (k:= [Sum.inr name,Sum.inr aq]) h.hk uH,_,rfl,?_⟩;refine⟨_,rfl,_,rfl,st,rfl,⟨_,ai.of jl⟩,fun c hc=>?_⟩;refine iz (xs:= []) (fun i ys τ H2=>ys = []/\H2=upd H c (.lst [])) ⟨rfl,rfl⟩ (fun i ys τ H2 ⟨e1,e2⟩=>by rw[e1,e2];exact⟨ag,ai.of (by rw[ae (au jl hc)];exact jl)⟩) (fun i y ys τ H2 hy _=>by simp at hy) ?_
  rintro ys τ H2 ⟨rfl,rfl⟩;have S1:=aA (o:= .lst []) hc;refine⟨.tuple [.str name,.str aq],[],.tup (S1 _ _ gv) (.cons (.str _) (.cons (.str _) .nil)),.inl (.lst ag .nil),by show(PyData.strOk name && (PyData.strOk aq && true))=true;rw[wK nm,so];rfl,rfl,by simp[PyData.depth,PyData.depthAll],_,rfl,?_⟩
  have tx:=S1 _ _ gv;have h1:=h.same S1;have kX:=ln.same S1;have iZ:jf (upd H c (.lst [])) kh bk L:=ho.keep h.fi.ok fun b xs e=>S1 _ _ e;generalize upd H c (.lst [])=H1 at S1 tx h1 kX iZ ⊢;refine⟨_,rfl,ta,_,rfl,aG.of tx,rfl,_,_,rfl,_,_,rfl,rfl,?_⟩;refine⟨_,rfl,x,C,dx,_,.ref fi,rfl,h1.hx,T.cl,T.nf,HY,fi,fx,_,rfl,h1.fi.hx,Js (by decide +kernel) (by decide +kernel) (by decide +kernel) (by decide +kernel),_,rfl,x,C,dx,_,.str kd,rfl,h1.hx,T.cl,T.nk,IF,_,rfl,_,rfl,wx.mk rfl h1.fi kX hl hb iZ hk fun v yU m' H2 dQ iN ip _ ov=>?_⟩
  have nxd:x≠dh:=aS h1.hx h1.fi.hh (by intro z;cases z)
  have gJ:=dQ _ _ h.n3 nxd h1.hx;have KG:=dQ _ _ (aS h1.ho h1.fi.hx (by intro z;cases z)) (aS h1.ho h1.fi.hh (by intro z;cases z)) h1.ho
  have xy:=dQ _ _ (aS h1.hk h1.fi.hx (by intro z;cases z)) h.n2 h1.hk
  have xA:=dQ _ _ (aS tx h1.fi.hx (by intro z;cases z)) (aS tx h1.fi.hh (by intro z;cases z)) tx
  have xB:∀b u,b≠fi->b≠dh->H b=some u->H2 b=some u:=fun b u n1 n2 e=>dQ _ _ n1 n2 (S1 _ _ e);have Mw:∀b,H2 b=none->H b=none:=fun b e=>by
   cases e0:H b with
   |none=>rfl
   |some u =>
    by_cases z1:b=fi
    ·rw[z1,iN.hx]at e;cases e
    ·by_cases z2:b=dh
     ·rw[z2,iN.hh]at e;cases e
     ·rw[xB b u z1 z2 e0]at e;cases e
  refine HZ (b:=decide (V.str aq=V.str "") && ((a7 (cZ own) (Sum.inr name)).isSome && true)) (.and (fun R k=>⟨_,rfl,rfl,_,rfl,k _ fun _ _ e=>e⟩) fun _ H3 S3=>.and (fun R k=>⟨_,rfl,_,rfl,x,C,dx,_,.ref ow,rfl,S3 _ _ gJ,T.cl,T.no,IZ,ow,_,rfl,cp.k (k:=Sum.inr name) (S3 _ _ KG),_,rfl,k _ fun _ _ e=>e⟩) fun _ H4 S4 R k=>?_) fun H3 S3=>?_
  ·have S4:=S3.trans S4
   cases ef:cJ bk name (f7 (L kd) aq) with
   |none =>
    rw[ef]at ov;have ov:v=V.aH:=ov;subst ov;exact⟨_,rfl,rfl,_,rfl,k _ fun _ _ e=>e⟩
   |some p =>
    obtain⟨y,d⟩:=p;rw[ef]at ov;obtain⟨t,u,rfl,ht,ru⟩:=ov;obtain⟨n,rfl⟩:=A7 pl ef;obtain⟨a,rfl,ha⟩:=A8 ru;exact⟨_,rfl,rfl,_,rfl,_,rfl,t,_,1,_,rfl,rfl,aG.of (S4 _ _ ht),iU,xq.mk rfl (S4 _ _ ha) fun H5 S5=>⟨false,rfl,k _ S5⟩⟩
  by_cases cb:aq = "" /\ (own.lookup name).isSome=true
  ·obtain⟨rfl,uI⟩:=cb
   obtain⟨z,hz⟩:=E9.mp uI;have ev:a7 (cZ own) (Sum.inr name)=some (.int z):=by rw[se,hz];rfl
   have en:numOf own bk (L kd) name "" = some z:=by unfold numOf;rw[aB ⟨rfl,uI⟩,hz]
   rw[aB (by rw[ev];rfl)]
   refine⟨_,rfl,x,C,dx,_,.ref ow,rfl,S3 _ _ gJ,T.cl,T.no,IZ,_,rfl,ow,.int z,rfl,by rw[<-ev];exact cp.k (k:=Sum.inr name) (S3 _ _ KG),_,rfl,mr,fun t1 uJ=>⟨kR,fun t2 uK=>?_⟩⟩
   have S4:=S3.trans ((aA (o:= .tup [V.str name]) uJ).trans (aA (o:= .tup [V.str "",.int z,.ref t1]) uK));have nW:upd (upd H3 t1 (.tup [V.str name])) t2 (.tup [V.str "",.int z,.ref t1]) t2=some (.tup [V.str "",.int z,.ref t1]):=ag;generalize upd (upd H3 t1 (.tup [V.str name])) t2 (.tup [V.str "",.int z,.ref t1])=H4 at S4 nW ⊢;refine⟨_,rfl,x,C,dx,_,.ref kn,rfl,S4 _ _ gJ,T.cl,T.nn,rZ,_,rfl,kn,_,rfl,gY.t (k:= [Sum.inr name,Sum.inr ""]) (S4 _ _ xy) (S4 _ _ xA) (by rw[aT,jx];omega),?_⟩
   exact q z en t2 _ _ _ (fun b u n1 n2 n3 e=>by rw[ae n3];exact S4 _ _ (xB b u n1 n2 e)) ag (by rw[ae (aS nW (S4 _ _ xy) (by intro z;cases z))];exact nW)
  ·have en:numOf own bk (L kd) name aq=(cJ bk name (f7 (L kd) aq)).map fun p=>Eb p.2:=by unfold numOf;rw[ar cb]
   rw[ar (fun z=>cb (by
    rw[Bool.and_true,k9,se,zx]at z;refine⟨?_,z.2⟩;have e:=iP z.1;injection e))]
   cases ef:cJ bk name (f7 (L kd) aq) with
   |none =>
    rw[ef]at ov en;have ov:v=V.aH:=ov;subst ov;refine⟨_,rfl,rfl,_,rfl,_,rfl,by show 1<=100;decide,fun a ha=>xv.mk rfl ag TM.x TM.q (.inl ⟨_,rfl,by have:=nm.hi;omega⟩) TM.nk fun d H4 hd yY h1' t6 fH=>⟨rfl,a,M,some d,_,rfl,h1',fun d' ed=>by cases ed;exact⟨_,t6⟩,TM.x,TM.q,Mw _ (S3.free ha),?_⟩⟩
    refine qn en a _ (fun b u n1 n2 e=>?_) (Mw _ (S3.free ha)) ⟨d,ag,by rw[ae yY];exact t6⟩
    have e3:=S3 _ _ (xB b u n1 n2 e);have nb:b≠a:=au e3 ha;rw[ae nb];exact fH b u (by rw[ae nb];exact e3) nb
   |some p =>
    obtain⟨y,d⟩:=p;rw[ef]at ov en;obtain⟨t,u,rfl,ht,ru⟩:=ov;obtain⟨n,rfl⟩:=A7 pl ef;obtain⟨a,rfl,ha⟩:=A8 ru;have Ec:=S3 _ _ ht;have g9:=S3 _ _ ha;refine⟨_,rfl,rfl,_,rfl,_,rfl,t,_,1,_,rfl,rfl,aG.of Ec,iU,a,_,0,_,rfl,rfl,aG.of g9,iT,rfl,_,rfl,?_⟩;refine⟨_,rfl,t,_,0,_,rfl,rfl,aG.of Ec,iT,_,rfl,t,_,1,_,rfl,rfl,aG.of Ec,iU,a,_,1,_,rfl,rfl,aG.of g9,iU,_,rfl,mr,fun t1 uJ=>⟨kR,fun t2 uK=>?_⟩⟩;have S4:=S3.trans ((aA (o:= .tup [V.str name]) uJ).trans (aA (o:= .tup [V.str y,.int n,.ref t1]) uK));have nW:upd (upd H3 t1 (.tup [V.str name])) t2 (.tup [V.str y,.int n,.ref t1]) t2=some (.tup [V.str y,.int n,.ref t1]):=ag;generalize upd (upd H3 t1 (.tup [V.str name])) t2 (.tup [V.str y,.int n,.ref t1])=H4 at S4 nW ⊢;refine⟨_,rfl,x,C,dx,_,.ref kn,rfl,S4 _ _ gJ,T.cl,T.nn,rZ,_,rfl,kn,_,rfl,gY.t (k:= [Sum.inr name,Sum.inr aq]) (S4 _ _ xy) (S4 _ _ xA) (by rw[aT,jx];omega),?_⟩
    exact q n en t2 _ _ _ (fun b u n1 n2 n3 e=>by rw[ae n3];exact S4 _ _ (xB b u n1 n2 e)) ag (by rw[ae (aS nW (S4 _ _ xy) (by intro z;cases z))];exact nW)
end fw
namespace fw
open PySem L2 PySem.W HT PyProof.Rows
theorem jP.pairs {own:Own} (h:jP H vs own):nD H vs (own.map fun q=>(q.1,V.int q.2)):=by
 induction h with
 |nil=>exact .nil
 |cons h _ ih=>exact .cons h ih
structure Xu (C D x dx fi fx dl de dh ow kp kn:Addr) (kd:Str) (bg:Int) (kl:List (Key×V)) (ke kh:List (List Key×V)) (m:Int) (bk:Bk) (own:Own) (L:Str->List Str) (name aq:Str) (H:Hp):Prop where
 w:WI C D x dx fi fx dl de dh ow kp kn kd bg kl (cZ own) ke kh [] m bk H
 ln:hJ H kl L kd
 hl:(L kd).length<=200
 hb:aq = "" \/ aq∈L kd
 ho:jf H kh bk L
 hk:kh.length<=2000
 pl:qQ bk
 nm:Nm name
 so:PyData.strOk aq=true
inductive xC (C D M:Addr) (vs:List V) (H:Hp) (Q:VK) (E:XK):Prop
 |mk {x dx fi fx dl de dh ow kp kn ta:Addr}{kd:Str}{bg:Int}{kl:List (Key×V)}{ke kh:List (List Key×V)}{m:Int}{bk:Bk}{own:Own}{L:Str->List Str}{name aq:Str} (_:vs = [.ref x,.ref ta]) (_:Xu C D x dx fi fx dl de dh ow kp kn kd bg kl ke kh m bk own L name aq H) (_:H ta=some (.tup [.str name,.str aq]))
  (_:numOf own bk (L kd) name aq=none -> ∀a H',(∀b u,b≠fi->b≠dh->H b=some u->H' b=some u)->H a=none->wR M name H' a->E (.ref M) (some a) H')
  (_:∀z,numOf own bk (L kd) name aq=some z -> ∀t y u H',(∀b u,b≠fi->b≠dh->b≠kn->H b=some u->H' b=some u)->H' kn=some (.dT [([Sum.inr name,Sum.inr aq],.ref t)])->H' t=some (.tup [y,.int z,u])->Q (.ref t) H'):xC C D M vs H Q E
abbrev nTl:List Str:= ["self","first","standing","needed"]
theorem KH:bx nTl ["self","first"] (aN qa):=bS (by decide +kernel)
theorem val_one {k:List Key}:a7 [(k,v)] k=some v:=gT rfl
theorem V2 {D:Addr} (F:aW K "tell" "Whole.tell" qa f fd) (T:lW K mg C) (GE:aU P w K mg base (cI P w) 3 fE dE ["self","standing","asking"] (xw C D M)) (ME:Meth K C "enter" fE) (bE:Binds K dE ["self","standing","asking"] []):aU P w K mg base (cI P w) 4 f fd ["self","first"] (xC C D M):=by
 refine F.Dz KH (fun vs H Q E h=>?_) (fun aF A outer s H vs Q E hr h=>?_)
 ·obtain⟨rfl,_⟩:=h;rfl
 ·obtain @⟨x,dx,fi,fx,dl,de,dh,ow,kp,kn,ta,kd,bg,kl,ke,kh,m,bk,own,L,name,aq,rfl,h,gv,qn,q⟩:=h
  have oR:aX 3 _:=hr;have bu:=ie hr.units;refine⟨_,aE (a4 (i:=2) KH.nd rfl (Or.inl rfl) (fX ah))
   (aE (jc (vS (pv 0) T.cl ME GE oR bE .nil Bi (aa (pv 2) (aa (pv 1) ah))))
   (aE (vH PassesOwn.leaving (pE (pv 2) (fun _=>rfl)) mY)
   (aP (bz (gm bu (fV (pv 0) rfl) (pv 1) (fun _ _=>rfl)))))),?_⟩
  refine⟨bw _,fun st jl=>?_⟩;have S1:=aA (o:= .lst []) jl;have w1:=h.w.same S1;have qk:upd H st (.lst []) st=some (.lst []):=ag;have kX:=h.ln.same S1;have iZ:jf (upd H st (.lst [])) kh bk L:=h.ho.keep h.w.fi.ok fun b xs e=>S1 _ _ e;generalize upd H st (.lst [])=H1 at S1 w1 qk kX iZ ⊢;refine⟨_,rfl,x,dx,_,rfl,w1.hx,Tz,_,rfl,_,rfl,xw.mk rfl w1 qk (S1 _ _ gv) kX h.hl h.hb iZ h.hk h.pl h.nm h.so (fun e a H' kp ha mo=>qn e a H' (fun b u n1 n2 z=>kp b u n1 n2 (S1 _ _ z)) (S1.free ha) mo) fun z ez t y u H2 dQ yT uK=>?_⟩;have Xv:=dQ _ _ (aS qk w1.fi.hx (by intro z;cases z)) (aS qk w1.fi.hh (by intro z;cases z)) (aS qk w1.hk (by intro z;cases z)) qk
  have gJ:=dQ _ _ h.w.n3 (aS w1.hx w1.fi.hh (by intro z;cases z)) (aS w1.hx w1.hk (by intro z;cases z)) w1.hx
  have xA:=dQ _ _ (aS (S1 _ _ gv) w1.fi.hx (by intro z;cases z)) (aS (S1 _ _ gv) w1.fi.hh (by intro z;cases z)) (aS (S1 _ _ gv) w1.hk (by intro z;cases z)) (S1 _ _ gv)
  have uH:H2 ta=some (.tup (([Sum.inr name,Sum.inr aq]:List Key).map kV)):=xA;refine⟨fun m σ H'=>m=0/\σ = [some (.ref x),some (.ref ta),some (.ref st),none]/\H'=H2,⟨0,rfl,rfl,rfl⟩,?_⟩;rintro m σ H' ⟨rfl,rfl,rfl⟩;refine⟨_,rfl,_,.inl ⟨_,ai.of Xv,rfl⟩,?_⟩;refine⟨_,rfl,x,C,dx,_,.ref kn,rfl,gJ,T.cl,T.nn,rZ,_,rfl,kn,.ref t,rfl,?_,?_⟩
  ·rw[<-val_one (k:= [Sum.inr name,Sum.inr aq]) (v:=V.ref t)];exact cp.t yT uH
  ·exact q z ez t y u _ (fun b u n1 n2 n3 e=>dQ b u n1 n2 n3 (S1 _ _ e)) yT uK
inductive xD (C D:Addr) (vs:List V) (H:Hp) (Q:VK) (E:XK):Prop
 |mk {wd t tb tt:Addr}{wt:List V}{ak:List Th}{th:Th}{o:Obj}{ws wb:List V}{aK:List (Str×List Str)}{L:Str->List Str}{bk:Bk} (_:vs = [.ref wd,.str th.1]) (_:jZ H wd t tb tt wt ak) (_:FB H t tb o ws wb aK L bk) (_:th∈ak) (_:(th.2.2.map (·.1)).Nodup)
  (_:∀x dx fi fx dl de dh ow kp kn kl ke H',aw H H'->WI C D x dx fi fx dl de dh ow kp kn th.2.1 0 kl (cZ th.2.2) ke [] [] 0 bk H'->(∀p∈aK,hJ H' kl L p.1)->H x=none->H fi=none->H dh=none->H kn=none->Q (.ref x) H'):xD C D vs H Q E
abbrev nWo:List Str:= ["world","thing","kind","own"]
theorem B6:bx nWo ["world","thing"] (aN Am):=bS (by decide +kernel)
theorem V3 {D fK fF:Addr}{dK dF:FuncData} (F:aW K "whole_of" "whole_of" Am f fd) (B2:lU mg) (T:lW K mg C) (GK:b8 P w K mg base aQ 4 fK dK ["world","thing"] xu "kind_and_own") (GF:b8 P w K mg base aQ 6 fF dF ["family","book"] (xp D) "finds_in")
  (M:Mk K C fI) (GI:aU P w K mg base aQ 1 fI dI tw (wQ C)) (bI:Binds K dI tw []):aU P w K mg base aQ 7 f fd ["world","thing"] (xD C D):=by
 refine F.ok B6 (fun vs H Q E h=>?_) (fun aF A outer s H vs Q E hr h=>?_)
 ·obtain⟨rfl,_⟩:=h;rfl
 ·obtain @⟨wd,t,tb,tt,wt,ak,th,o,ws,wb,aK,L,bk,rfl,h,fb,hm,nd,q⟩:=h
  have Ed:aX 6 _:=hr;have j0:aX 4 _:=Ed.mono (by decide)
  have dM:aX 2 _:=Ed.mono (by decide)
  refine⟨_,aE (nu (bA GK j0 (aa (pv 0) (aa (pv 1) ah))) (lI rfl (eG (bc (i:=2) B6.nd rfl (Or.inl rfl)) (eG (bc (i:=3) B6.nd rfl (Or.inl rfl)) jB))))
   (aP (bz (Ii M GI dM rfl T.D8 bI .nil ff (aa (bA GF Ed (aa (bo cX (pv 0) ay (fun _ _=>rfl)) (aa (bo cX (pv 0) ay (fun _ _=>rfl)) ah))) (aa (pv 2) (aa (fS (Qb rfl) rfl B2.dict boot_dict (aa (pv 3) ah)) (aa Ah ah))))))),?_⟩
  refine⟨_,rfl,_,rfl,xu.mk rfl h hm fun r b us H1 S1 bO ir ow1=>?_⟩;refine⟨r,_,rfl,aG.of bO,rfl,_,_,rfl,_,_,rfl,rfl,?_⟩;have h1:=h.same S1;refine⟨_,rfl,wd,_,0,_,rfl,rfl,aG.of h1.hw,iT,_,rfl,wd,_,1,_,rfl,rfl,aG.of h1.hw,iU,xp.mk rfl (fb.same S1) fun fi fx dl de dh kl ke H2 S2 iN ln2 nfi ndh=>?_⟩;have ow2:jP H2 us th.2.2:=ow1.keep fun b xs e=>S2 _ _ e;refine⟨_,rfl,_,rfl,b,us,_,rfl,S2 _ _ ir,ow2.pairs,by rw[dY];exact nd,fun ow how=>?_⟩
  intro kp Ee;intro x dx hx qO ne;have S3:=aA (o:= .dK (cZ th.2.2)) how;have mh:upd H2 ow (.dK (cZ th.2.2)) ow=some (.dK (cZ th.2.2)):=ag;have eo:HO.dK (hX (th.2.2.map fun q=>(q.1,V.int q.2))) = .dK (cZ th.2.2):=rfl;rw[eo]at Ee hx qO ⊢;generalize upd H2 ow (.dK (cZ th.2.2))=H3 at S3 mh Ee hx qO ⊢;have S4:=aA (o:= .dT []) Ee;have Mx:upd H3 kp (.dT []) kp=some (.dT []):=ag;generalize upd H3 kp (.dT [])=H4 at S4 Mx hx qO ⊢;have Sa:=aA (o:= .own x) qO;have dJ:upd H4 dx (.own x) x=none:=by rw[ae (aV ne)];exact hx
  have S5:=Sa.trans (aA (o:= .ins C dx []) dJ);have Ef:upd (upd H4 dx (.own x)) x (.ins C dx []) x=some (.ins C dx []):=ag;generalize upd (upd H4 dx (.own x)) x (.ins C dx [])=H5 at S5 Ef ⊢;refine wQ.mk rfl Ef (S5 _ _ Mx) fun kn oQ=>⟨rfl,?_⟩;have S6:=aA (o:= .dT []) oQ;have nxk:x≠kn:=au Ef oQ;have uL:upd H5 kn (.dT []) kn=some (.dT []):=ag;generalize upd H5 kn (.dT [])=H6 at S6 uL ⊢;have eY:=S3.trans S4;have ui:=S5.trans S6;have oP:=S1.trans S2;have k7:∀b u,H4 b=some u->upd H6 x (.ins C dx (fW fi ow kp kn th.2.1 0)) b=some u:=fun b u e=>by rw[ae (au e hx)];exact ui _ _ e
  have k2:∀b u,H2 b=some u->upd H6 x (.ins C dx (fW fi ow kp kn th.2.1 0)) b=some u:=fun b u e=>k7 _ _ (eY _ _ e);have uM:H4 kn=none:=S5.free oQ;refine q x dx fi fx dl de dh ow kp kn kl ke _ (fun b u e=>k2 _ _ (oP _ _ e)) ⟨aV (au (eY _ _ iN.hx) hx),ag,⟨k2 _ _ iN.hx,k2 _ _ iN.hl,k2 _ _ iN.he,k2 _ _ iN.hh,iN.du.same k2,iN.ok,iN.nn⟩,k7 _ _ (S4 _ _ mh),by rw[ae (aV nxk)];exact uL,aV (au (eY _ _ iN.he) uM),aV (au (eY _ _ iN.hh) uM)⟩ (fun p hp=>(ln2 p hp).same k2) ((oP.trans eY).free hx) (S1.free nfi) (S1.free ndh) ((oP.trans eY).free uM)
structure nX (wd t tb tt:Addr) (wt:List V) (ak:List Th) (th:Th) (o:Obj) (ws wb:List V) (aK:List (Str×List Str)) (L:Str->List Str) (bk:Bk) (name aq:Str) (H:Hp):Prop where
 h:jZ H wd t tb tt wt ak
 fb:FB H t tb o ws wb aK L bk
 hm:th∈ak
 hk:th.2.1∈aK.map (·.1)
 nd:(th.2.2.map (·.1)).Nodup
 hb:aq = "" \/ aq∈L th.2.1
 pl:qQ bk
 nm:Nm name
 so:PyData.strOk aq=true
inductive xE (C D M:Addr) (vs:List V) (H:Hp) (Q:VK) (E:XK):Prop
 |mk {wd t tb tt:Addr}{wt:List V}{ak:List Th}{th:Th}{o:Obj}{ws wb:List V}{aK:List (Str×List Str)}{L:Str->List Str}{bk:Bk}{name aq:Str} (_:vs = [.ref wd,.str th.1,.str name,.str aq]) (_:nX wd t tb tt wt ak th o ws wb aK L bk name aq H)
  (_:numOf th.2.2 bk (L th.2.1) name aq=none -> ∀a H',aw H H'->wR M name H' a->E (.ref M) (some a) H')
  (_:∀z,numOf th.2.2 bk (L th.2.1) name aq=some z -> ∀x dx fi ow kp kn kd bg t y u H',aw H H'->H' x=some (.ins C dx (fW fi ow kp kn kd bg))->H' kn=some (.dT [([Sum.inr name,Sum.inr aq],.ref t)])->H' t=some (.tup [y,.int z,u])->Q (.ref x) H'):xE C D M vs H Q E
abbrev jv:List Str:= ["world","thing","name","behind"]
abbrev nWa:List Str:= ["world","thing","name","behind","whole"]
theorem KI:bx nWa jv (aN zO):=bS (by decide +kernel)
theorem V4 {D fO fB fR fT:Addr}{dO dB dR dT:FuncData} (F:aW K "whole_asked" "whole_asked" zO f fd) (T:lW K mg C) (GO:b8 P w K mg base aQ 7 fO dO ["world","thing"] (xD C D) "whole_of") (GN:b8 P w K mg base aQ 2 fN dN ["thing"] wM "check_name") (GB:b8 P w K mg base aQ 2 fB dB ["line","thing"] xn "check_behind")
  (GR:aU P w K mg base aQ 1 fR dR ["self"] (wy C D)) (MR:Meth K C "forebears" fR) (bR:Binds K dR ["self"] []) (GT:aU P w K mg base (cI P w) 4 fT dT ["self","first"] (xC C D M)) (MT:Meth K C "tell" fT) (bT:Binds K dT ["self","first"] []):aU P w K mg base (cI P w) 8 f fd jv (xE C D M):=by
 refine F.Dz KI (fun vs H Q E h=>?_) (fun aF A outer s H vs Q E hr h=>?_)
 ·obtain⟨rfl,_⟩:=h;rfl
 ·obtain @⟨wd,t,tb,tt,wt,ak,th,o,ws,wb,aK,L,bk,name,aq,rfl,h,qn,q⟩:=h
  have yZ:aX 7 _:=hr;have j0:aX 4 _:=yZ.mono (by decide)
  have dM:aX 2 _:=yZ.mono (by decide)
  have bO:aX 1 _:=yZ.mono (by decide)
  refine⟨_,aE (a4 (i:=4) KI.nd rfl (Or.inl rfl) (bA GO yZ (aa (pv 0) (aa (pv 1) ah))))
   (aE (jc (bA GN dM (aa (pv 2) ah)))
   (aE (jc (bA GB dM (aa (Rj (pv 4) T.cl MR GR bO bR .nil ff) (aa (pv 3) ah))))
   (aE (jc (vS (pv 4) T.cl MT GT j0 bT .nil Bi (aa (cw (aa (pv 2) (aa (pv 3) ah))) ah)))
   (aP (bz (pv 4)))))),?_⟩
  refine⟨_,rfl,_,rfl,xD.mk rfl h.h h.fb h.hm h.nd fun x dx fi fx dl de dh ow kp kn kl ke H1 S1 w1 kX fx1 My Mz uM=>?_⟩;refine⟨_,rfl,wM.mk rfl h.nm fun H2 S2=>?_⟩;obtain⟨p,hp,ep⟩:=bt.mp h.hk;obtain⟨la,ea,ha⟩:hJ H1 kl L th.2.1:=ep ▸ kX p hp;have w2:=w1.same S2;refine⟨_,rfl,x,dx,_,rfl,w2.hx,TB,wy.mk rfl w2 ea ⟨_,rfl,xn.mk rfl (S2 _ _ ha) (h.fb.a8 h.hk) h.hb fun H3 S3=>?_⟩⟩;refine⟨_,rfl,x,dx,_,rfl,S3 _ _ w2.hx,TC,_,rfl,_,rfl,eT,fun ta gv=>?_⟩;have S4:=aA (o:= .tup [V.str name,V.str aq]) gv;have tD:upd H3 ta (.tup [V.str name,V.str aq]) ta=some (.tup [V.str name,V.str aq]):=ag;generalize upd H3 ta (.tup [V.str name,V.str aq])=H4 at S4 tD ⊢;have eY:=S2.trans (S3.trans S4);have w4:=w1.same eY;have MA:=S1.trans eY;refine xC.mk rfl ⟨w4,⟨la,ea,eY _ _ ha⟩,h.fb.a8 h.hk,h.hb,fun k n b v e=>(by cases e),bw _,h.pl,h.nm,h.so⟩ tD (fun e a H' jo _ mo=>qn e a H' (fun b u z=>jo b u (au z My) (au z Mz) (MA _ _ z)) mo) fun z ez t y u H' jo mf ht'=>?_
  exact⟨_,rfl,q z ez x dx fi ow kp kn _ _ t y u H' (fun b u z=>jo b u (au z My) (au z Mz) (au z uM) (MA _ _ z)) (jo _ _ w4.n3 (aS w4.hx w4.fi.hh (by intro z;cases z)) (aS w4.hx w4.hk (by intro z;cases z)) w4.hx) mf ht'⟩
inductive ql (M:Addr) (vs:List V) (H:Hp) (Q:VK) (E:XK):Prop
 |mk {wd t tb tt:Addr}{wt:List V}{ak:List Th}{th:Th}{o:Obj}{ws wb:List V}{aK:List (Str×List Str)}{L:Str->List Str}{bk:Bk}{name aq:Str} (_:vs = [.ref wd,.str th.1,.str name,.str aq]) (_:nX wd t tb tt wt ak th o ws wb aK L bk name aq H)
  (_:numOf th.2.2 bk (L th.2.1) name aq=none -> ∀a H',aw H H'->wR M name H' a->E (.ref M) (some a) H')
  (_:∀z,numOf th.2.2 bk (L th.2.1) name aq=some z -> ∀H',aw H H'->Q (.int z) H'):ql M vs H Q E
theorem Xw:bx jv jv (aN pB):=bS (by decide +kernel)
theorem RX {k:Nat} (F:sV K x qual st dv f fd) (S:bx N ps (aN st)) (len:∀vs H Q E,sp vs H Q E->vs.length=ps.length)
  (nH:∀ (aF:Value) (A:Around) (outer:List Env) (s:Shared) (H:Hp) (vs:List V) (Q:VK) (E:XK),aX k (A.deeper (envOfC qual (aN st) s.heap.objs.size f aF))->sp vs H Q E ->
   ∃t,dH (fh (cI P w) P w K mg base N qual (aN st) f aF A outer s H E) (bF st) t/\t { nx:=fun _ H'=>Q .aH H',rt:=Q } (start N vs) H):aU P w K mg base (cI P w) (k+1) f fd ps sp:=by
 obtain⟨oc,od,kV,doc,pm,an,aF,ct,g7,rfl,lk,ee⟩:=F.ex;exact Bd lk ee S len fun A outer s H vs Q E hr f9=>nH aF A outer s H vs Q E hr f9
theorem V5 {D fW:Addr} (F:sV K "number_asked" "number_asked" pB dv f fd) (T:lW K mg C) (GW:b8 P w K mg base (cI P w) 8 fW dW jv (xE C D M) "whole_asked"):aU P w K mg base (cI P w) 9 f fd jv (ql M):=by
 refine RX F Xw (fun vs H Q E h=>?_) (fun aF A outer s H vs Q E hr h=>?_)
 ·obtain⟨rfl,_⟩:=h;rfl
 ·obtain @⟨wd,t,tb,tt,wt,ak,th,o,ws,wb,aK,L,bk,name,aq,rfl,h,qn,q⟩:=h
  have hr8:aX 8 _:=hr;have bu:=ie hr.units;refine⟨_,aP (bz (bo cX (gm bu (fV (SX GW hr8 (aa (pv 0) (aa (pv 1) (aa (pv 2) (aa (pv 3) ah))))) rfl) (cw (aa (pv 2) (aa (pv 3) ah))) (fun _ _=>rfl)) ay (fun _ _=>rfl))),?_⟩;refine⟨_,rfl,_,rfl,_,rfl,_,rfl,xE.mk rfl h qn fun z ez x dx fi ow kp kn kd bg t y u H1 S1 jU Mq uJ=>?_⟩;refine⟨x,C,dx,_,.ref kn,rfl,jU,T.cl,T.nn,rZ,_,rfl,_,rfl,eT,fun ta gv=>?_⟩;have S2:=aA (o:= .tup [V.str name,V.str aq]) gv;have uH:upd H1 ta (.tup [V.str name,V.str aq]) ta=some (.tup (([Sum.inr name,Sum.inr aq]:List Key).map kV)):=ag;refine⟨kn,.ref t,rfl,?_,t,_,1,_,rfl,rfl,aG.of (S2 _ _ uJ),iU,q z ez _ (S1.trans S2)⟩;rw[<-val_one (k:= [Sum.inr name,Sum.inr aq]) (v:=V.ref t)];exact cp.t (S2 _ _ Mq) uH
end fw
namespace fw
open PySem L2 PySem.W HT
structure wU (own:Own):Prop where
 nd:(own.map (·.1)).Nodup
 nm:∀q∈own,Nm q.1
theorem TJ {own:Own} (h:wU own) (hn:Nm n) (z:Int):∃fj,cZ fj=putK (cZ own) (Sum.inr n) (.int z)/\wU fj/\fj.length<=own.length+1:=by
 cases e:a7 (cZ own) (Sum.inr n) with
 |none =>
  have eR:n ∉ own.map (·.1):=fun hm=>by
   rw[se,afX,List.lookup_eq_none_iff]at e;obtain⟨q,hq,rfl⟩:=bt.mp hm;exact absurd (e q hq) (by simp)
  refine⟨own ++ [(n,z)],?_,⟨?_,fun q hq=>?_⟩,by simp⟩
  ·rw[rQ _ e];unfold cZ hX;rw[bQ,bQ];rfl
  ·rw[bQ]
   exact jy.mpr ⟨h.nd,by simp,fun a ha b hb y=>eR (by have hb:b=n:=i'.mp hb;rw[<-hb,<-y];exact ha)⟩
  ·rcases dS.mp hq with z|z
   ·exact h.nm q z
   ·rw[i'.mp z];exact hn
 |some v =>
  have ek:(own.map fun q=>if q.1=n then (q.1,z) else q).map (·.1)=own.map (·.1):=by
   rw[dY];exact rq fun q _=>by show(if q.1=n then (q.1,z) else q).1=q.1;split <;> rfl
  refine⟨own.map fun q=>if q.1=n then (q.1,z) else q,?_,⟨by rw[ek];exact h.nd,fun q hq=>?_⟩,by simp⟩
  ·unfold putK
   rw[aB (by rw[lE,e];rfl)]
   unfold cZ hX;rw[dY,dY,dY,dY];refine rq fun q _=>?_;show((Sum.inr (if q.1=n then (q.1,z) else q).1,V.int (if q.1=n then (q.1,z) else q).2):Key×V)=if (Sum.inr q.1:Key)=Sum.inr n then (Sum.inr q.1,V.int z) else (Sum.inr q.1,V.int q.2)
   by_cases c:q.1=n
   ·rw[aB c,aB (by rw[c])]
   ·rw[ar c,ar (fun z=>c (jw z))]
  ·have:q.1∈own.map (·.1):=by rw[<-ek];exact bt.mpr ⟨q,hq,rfl⟩
   obtain⟨q',iH,e'⟩:=bt.mp this;rw[<-e'];exact h.nm q' iH
def gg (H:Hp) (td:Addr) (kvs:List (Key×V)) (ak:List Th):Prop:=Paired (fun kv p=>kv.1=Sum.inr p.1 /\ ∃a b,kv.2=V.ref a/\a≠td/\b≠td/\H a=some (.tup [.str p.2.1,.ref b])/\H b=some (.dK (cZ p.2.2))) kvs ak
theorem gg.keep {ak:List Th} (h:gg H td kvs ak) (k:∀b u,b≠td->(∀xs,u≠HO.lst xs)->H b=some u->H' b=some u):gg H' td kvs ak:=Paired.imp' (fun _ _ ⟨e1,a,b,e2,n1,n2,e3,e4⟩=>⟨e1,a,b,e2,n1,n2,k _ _ n1 (by intro xs z;cases z) e3,k _ _ n2 (by intro xs z;cases z) e4⟩) h
theorem gg.same {ak:List Th} (h:gg H td kvs ak) (S:aw H H'):gg H' td kvs ak:=h.keep fun b u _ _ e=>S _ _ e
theorem gg.eW {ak:List Th} (h:gg H td kvs ak) (pk:eQ p H) (pa:ba p H H'):gg H' td kvs ak:=h.keep fun b u _ nl e=>pa.kp _ _ e (by
 obtain⟨x,y,e0,_⟩:=pk;intro z;rw[z,e0]at e;cases e;exact nl _ rfl)
theorem gg.keys {ak:List Th} (h:gg H td kvs ak):kvs.map (·.1)=(ak.map (·.1)).map Sum.inr:=by
 induction h with
 |nil=>rfl
 |cons e _ ih=>rw[cA,cA,cA,ih,e.1]
structure B9 (ks:List Str) (ak:List Th):Prop where
 nm:∀p∈ak,Nm p.1
 nd:(ak.map (·.1)).Nodup
 kd:∀p∈ak,p.2.1∈ks
 ow:∀p∈ak,wU p.2.2/\p.2.2.length<=22
inductive xF (vs:List V) (H:Hp) (Q:VK) (E:XK):Prop
 |mk {p lk ln:Addr}{al:Bool}{ks ns:List Str} (_:vs = [.ref p,.bl al,.ref lk,.ref ln]) (_:eQ p H) (_:fJ H lk ks) (_:fJ H ln ns) (_:∀ (td:Addr) (kvs:List (Key×V)) (ak:List Th) (H':Hp),ba p H H'->H td=none->H' td=some (.dK kvs)->gg H' td kvs ak->B9 ks ak->ak ≠ []->ak.length<=5->Q (.ref td) H'):xF vs H Q E
abbrev Eg:List Str:= ["_law_pot_here","_law_alike","_law_kinds","_law_names_here"]
abbrev nTh:List Str:= ["_law_pot_here","_law_alike","_law_kinds","_law_names_here","_law_called_here","_law_things_here","_law_thing","_law_own","_law_kind","_law_name"]
theorem nY:bx nTh Eg (aN AL):=bS (by decide +kernel)
theorem V6 {fU:Addr}{dU:FuncData} (F:aW K "_law_things" "_law_things" AL f fd) (B:gN mg) (GC:b8 P w K mg base aQ 4 fC dC yX qj "_law_called") (GD:b8 P w K mg base aQ 1 fD dD ["_law_pot_here","_law_many"] lF "_law_digit")
  (GN:b8 P w K mg base aQ 3 fN dN ["_law_pot_here","_law_many"] kj "_law_names") (GU:b8 P w K mg base aQ 2 fU dU ["_law_pot_here"] qd "_law_number"):aU P w K mg base aQ 5 f fd Eg xF:=by
 refine F.ok nY (fun vs H Q E h=>?_) (fun aF A outer s H vs Q E hr h=>?_)
 ·obtain⟨rfl,_⟩:=h;rfl
 ·obtain @⟨p,lk,ln,al,ks,ns,rfl,pk,nk,nn,q⟩:=h
  have j0:aX 4 _:=hr;have oR:aX 3 _:=j0.mono (by decide)
  have dM:aX 2 _:=j0.mono (by decide)
  have bO:aX 1 _:=j0.mono (by decide)
  have bu:=ie hr.units;refine⟨_,aE (a4 (i:=4) nY.nd rfl (Or.inl rfl) (bA GC j0 (aa (pv 0) (aa (bJ iQ ay (bA GD bO (aa (pv 0) (aa ay ah)))) (aa (pv 1) (aa (pv 2) ah))))))
   (aE (a4 (i:=5) nY.nd rfl (Or.inl rfl) rR)
   (aE (gV gx rfl (eP (pv 4)) (bc (i:=6) nY.nd rfl (Or.inl rfl))
    (aE (a4 (i:=7) nY.nd rfl (Or.inl rfl) rR)
    (aE (a4 (i:=8) nY.nd rfl (Or.inl rfl) (bo fc (pv 2) (bA GD bO (aa (pv 0) (aa (cQ lB rfl B.len lz (aa (pv 2) ah)) ah))) (fun _ _=>rfl)))
    (aE (gV gx rfl (eP (bJ nB (pv 3) (bA GN oR (aa (pv 0) (aa ay ah))))) (bc (i:=9) nY.nd rfl (Or.inl rfl))
     (aP (cL (cD jG (bA GD bO (aa (pv 0) (aa ay ah))) ay (cR _)) (aP (kf bu (pv 7) (pv 9) (bA GU dM (aa (pv 0) ah)) rfl)) cV)))
    (aP (kf bu (pv 5) (pv 6) (cw (aa (pv 8) (aa (pv 7) ah))) rfl))))))
   (aP (bz (pv 5))))),?_⟩
  refine⟨_,rfl,_,rfl,e9 (p:=p) (m:=5) pk (by decide) (by decide) fun d1 H1 a0 a1 p1=>⟨_,_,rfl,rfl,_,rfl,_,rfl,?_⟩⟩
  obtain⟨j,rfl⟩:=lA a0;refine qj.mk (m:=1+j) (al:=al) (by rw[OJ];rfl) p1.ok (by omega) (by omega) (nk.eW pk p1) fun lc cs H2 p2 nc lcs=>?_
  have uN:=p1.trans p2;have nk2:=nk.eW pk uN;have nn2:=nn.eW pk uN;intro td hU;have KJ:=uN.free hU;have P2:=uN.new (o:= .dK []) hU;have S2:=aA (o:= .dK []) hU;have npt:p≠td:=uN.ok.ne hU;have MB:upd H2 td (.dK []) td=some (.dK []):=ag;have y4:=nc.same S2;have MC:=nk2.same S2;have MD:=nn2.same S2;have y6:=P2.ok;generalize upd H2 td (.dK [])=H3 at P2 S2 MB y4 MC MD y6 ⊢;have ncp:lc≠p:=jA y6 y4.hl;refine⟨_,rfl,lc,rfl,⟨_,ai.of y4.hl⟩,lD (xs:=cs.map V.str) (fun i σ H4=>∃ (kvs:List (Key×V)) (ak:List Th) (v6 v7 v8 v9:Option V),σ = [some (.ref p),some (.bl al),some (.ref lk),some (.ref ln),some (.ref lc),some (.ref td),v6,v7,v8,v9]/\ba p H H4/\fJ H4 lk ks/\fJ H4 ln ns/\fJ H4 lc cs/\H4 td=some (.dK kvs)/\gg H4 td kvs ak/\B9 ks ak/\ak.map (·.1)=cs.take i)
   ⟨[],[],none,none,none,none,rfl,P2,MC,MD,y4,MB,.nil,⟨fun x hx=>(by cases hx),lu,fun x hx=>(by cases hx),fun x hx=>(by cases hx)⟩,rfl⟩ (fun i σ H4 _ ⟨_,_,_,_,_,_,_,_,_,_,z,_⟩=>ai.of z.hl) ?_ ?_⟩
  ·rintro i x σ H4 hx ⟨kvs,ak,v6,v7,v8,v9,rfl,P4,k4,n4,c4,h4,T4,O4,e4⟩
   have ck:i < cs.length:=by simpa using (b4.mp hx).1
   obtain rfl:V.str cs[i]=x:=by simpa [ck] using hx
   have d6:cs.take (i+1)=cs.take i ++ [cs[i]]:=by rw[dj,bK ck];rfl
   have nR:cs[i] ∉ cs.take i:=by
    have:(cs.take (i+1)).Nodup:=nc.nd.sublist (mU _ _);rw[d6]at this;exact fun z=>(jy.mp this).2.2 _ z _ br rfl
   intro c hc;have hc0:=P4.free hc;have DW:p≠c:=P4.ok.ne hc;have S5:=aA (o:= .dK []) hc;have Q5:ba p H4 (upd H4 c (.dK [])):=(ba.refl P4.ok).new hc;have h5:upd H4 c (.dK []) c=some (.dK []):=ag;generalize upd H4 c (.dK [])=H5 at S5 Q5 h5 ⊢;have k5:=k4.same S5;have kp:0 < ks.length:=FJ.mpr nk.ne;have kl:=nk.a8;refine⟨_,rfl,_,rfl,_,rfl,lk,_,rfl,.inl (ai.of k5.hl),?_⟩;rw[aJ];refine e9 (p:=p) (m:=(ks.length:Int)) Q5.ok (by omega) (by omega) fun d2 H6 b0 b1 p6=>?_
   obtain⟨j2,rfl⟩:=lA b0;have MG:j2 < ks.length:=by omega
   have k6:=k5.eW Q5.ok p6;have Q6:=Q5.trans p6;refine⟨lk,_,(j2:Int),V.str ks[j2],rfl,rfl,ai.of k6.hl,cW (by rw[gS,bK MG];rfl),?_⟩
   have h6:=ng Q5.ok p6 h5;refine⟨_,rfl,_,rfl,kj.mk (m:=2) rfl Q6.ok (by decide) fun lm ms H7 Du ml Eh mnd p7 h7=>?_⟩
   have Q7:=Q6.trans p7;have n7:=(n4.eW P4.ok Q7);have h7c:=ng Q6.ok p7 h6;have nl:=nn.a8;refine⟨ln,lm,_,_,rfl,rfl,n7.hl,h7,by rw[aJ,aJ,aT];omega,fun ll MH=>?_⟩
   rw[<-bQ];have Q8:=Q7.new (o:= .lst ((ns++ms).map V.str)) MH;have y8:=aA (o:= .lst ((ns++ms).map V.str)) MH _ _ h7c;have qR:upd H7 ll (.lst ((ns++ms).map V.str)) ll=some (.lst ((ns++ms).map V.str)):=ag;have MI:∀y∈ns++ms,Nm y:=fun y hy=>by
    rcases dS.mp hy with z|z
    ·exact nn.nm y z
    ·exact Eh y z
   have Ei:(ns++ms).length<=22:=by rw[e7];omega
   generalize ns++ms=qS at Q8 y8 qR MI Ei ⊢;generalize upd H7 ll (.lst (qS.map V.str))=H8 at Q8 y8 qR ⊢;have MJ:ll≠p:=jA Q8.ok qR;have nlc:ll≠c:=aS qR y8 (by intro z;cases z)
   refine⟨ll,rfl,⟨_,ai.of qR⟩,lD (xs:=qS.map V.str) (fun k σ H9=>∃ (own:Own) (v9:Option V),σ = [some (.ref p),some (.bl al),some (.ref lk),some (.ref ln),some (.ref lc),some (.ref td),some (.str cs[i]),some (.ref c),some (.str ks[j2]),v9]/\ba p H4 H9/\H9 ll=some (.lst (qS.map V.str))/\H9 c=some (.dK (cZ own))/\wU own/\own.length<=k)
    ⟨[],v9,rfl,Q8,qR,y8,⟨lu,fun q hq=>(by cases hq)⟩,aO _⟩ (fun k σ H9 _ ⟨_,_,_,_,z,_⟩=>ai.of z) ?_ ?_⟩
   ·rintro k x σ H9 hx ⟨own,v9,rfl,Q9,l9,c9,o9,MK⟩
    have MM:k < qS.length:=by simpa using (b4.mp hx).1
    obtain rfl:V.str qS[k]=x:=by simpa [MM] using hx
    refine⟨_,rfl,e9 (p:=p) (m:=3) Q9.ok (by decide) (by decide) fun d3 oF c0 c1 Ej=>⟨rfl,_,rfl,?_⟩⟩
    have hV:=Q9.trans Ej;have MN:=Ej.kp _ _ l9 MJ;have uO:=ng Q9.ok Ej c9;refine gp (fun _=>?_) (fun _=>?_)
    ·refine⟨_,rfl,qd.mk rfl hV.ok fun z Zf _ Ek=>?_⟩
     have y9:=hV.trans Ek;have MO:=Ek.kp _ _ MN MJ;have c11:=ng hV.ok Ek uO;obtain⟨fj,eo,oo,ll'⟩:=TJ o9 (MI _ (mV MM)) z;refine⟨_,rfl,_,rfl,c,_,rfl,gY.k (k:=Sum.inr qS[k]) c11 (by unfold cZ hX;rw[aJ,aJ,aT];omega),?_⟩
     exact⟨fj,_,rfl,y9.write hc DW,by rw[ae nlc];exact MO,by rw[eo];exact ag,oo,by omega⟩
    ·exact⟨own,_,rfl,hV,MN,uO,o9,by omega⟩
   ·rintro σ H9 ⟨own,v9,rfl,Q9,l9,c9,o9,MK⟩
    rw[aJ]at MK;have h9:=ng P4.ok Q9 h4;have T9:=T4.eW P4.ok Q9;have MP:c≠td:=aV (au h4 hc);refine⟨_,rfl,_,rfl,eT,fun t ht=>?_⟩;have za:=aA (o:= .tup [V.str ks[j2],.ref c]) ht;have KL:upd H9 t (.tup [V.str ks[j2],.ref c]) t=some (.tup [V.str ks[j2],.ref c]):=ag;have hV:=Q9.new (o:= .tup [V.str ks[j2],.ref c]) ht;have j3:=za _ _ h9;have uO:=za _ _ c9;have MQ:=T9.same za;have MS:t≠td:=aV (au h9 ht);generalize upd H9 t (.tup [V.str ks[j2],.ref c])=oF at za KL hV j3 uO MQ ⊢;have kv:a7 kvs (Sum.inr cs[i])=none:=by
     have:(a7 kvs (Sum.inr cs[i])).isSome=false:=by
      rw[<-lE,E7];intro kv d5 z;have hm:kv.1∈kvs.map (·.1):=bt.mpr ⟨kv,d5,rfl⟩;rw[T4.keys,e4]at hm;obtain⟨y,hy,ey⟩:=bt.mp hm;rw[iP z]at ey;exact nR (jw ey ▸ hy)
     simpa using this
    have kvl:kvs.length=(cs.take i).length:=by
     have:=d7 List.length T4.keys;rw[e4,aJ,aJ]at this;exact this
    have cl:=nc.a8;rw[c8]at kvl;refine⟨_,rfl,_,rfl,td,_,rfl,gY.k (k:=Sum.inr cs[i]) j3 (by rw[aT];omega),?_⟩
    rw[rQ _ kv];have PP:=(P4.trans hV).write (o:= .dK (kvs ++ [(Sum.inr cs[i],.ref t)])) KJ npt;have up:∀b u,b≠td->oF b=some u->upd oF td (.dK (kvs ++ [(Sum.inr cs[i],.ref t)])) b=some u:=fun b u n e=>by rw[ae n];exact e
    refine⟨_,ak ++ [(cs[i],ks[j2],own)],_,_,_,_,rfl,PP,?_,?_,?_,ag,?_,⟨fun r hr=>?_,?_,fun r hr=>?_,fun r hr=>?_⟩,?_⟩
    ·have z:=k4.eW P4.ok hV;exact⟨up _ _ (aS z.hl j3 (by intro z;cases z)) z.hl,z.ne,z.a8,z.nm,z.nd⟩
    ·have z:=n4.eW P4.ok hV;exact⟨up _ _ (aS z.hl j3 (by intro z;cases z)) z.hl,z.ne,z.a8,z.nm,z.nd⟩
    ·have z:=c4.eW P4.ok hV;exact⟨up _ _ (aS z.hl j3 (by intro z;cases z)) z.hl,z.ne,z.a8,z.nm,z.nd⟩
    ·exact lq (MQ.keep fun b u n _ e=>up _ _ n e) ⟨rfl,t,c,rfl,MS,MP,up _ _ MS KL,up _ _ MP uO⟩
    ·rcases dS.mp hr with z|z
     ·exact O4.nm r z
     ·rw[i'.mp z];exact nc.nm _ (mV ck)
    ·rw[bQ,e4]
     show(cs.take i ++ [cs[i]]).Nodup;rw[<-d6];exact nc.nd.sublist (mU _ _)
    ·rcases dS.mp hr with z|z
     ·exact O4.kd r z
     ·rw[i'.mp z];exact mV MG
    ·rcases dS.mp hr with z|z
     ·exact O4.ow r z
     ·rw[i'.mp z];exact⟨o9,by show own.length<=22;omega⟩
    ·rw[bQ,e4,d6];rfl
  ·rintro σ H4 ⟨kvs,ak,v6,v7,v8,v9,rfl,P4,k4,n4,c4,h4,T4,O4,e4⟩
   rw[aJ,dc]at e4;have el:ak.length=cs.length:=by have:=d7 List.length e4;rwa [aJ]at this
   exact⟨_,rfl,q td kvs ak H4 P4 KJ h4 T4 O4 (fun z=>by rw[z]at e4;exact nc.ne e4.symm) (by omega)⟩
def uP (p q:Th):Prop:=q.1=p.1/\q.2.1=p.2.1/\q.2.2.Perm p.2.2
theorem iV.keyed {ak:List Th} (h:iV H vs ak):∃kvs,jF H 1 vs kvs/\kvs.map (·.1)=(ak.map (·.1)).map fun x=>[x]:=by
 induction h with
 |nil=>exact⟨[],.nil,rfl⟩
 |@cons _ p _ _ h _ ih =>
  obtain⟨a,b,us,e,q,_⟩:=h;obtain⟨kvs,h1,h2⟩:=ih;exact⟨([p.1],[.str p.2.1,.ref b])::kvs,.cons ⟨a,e,q,rfl⟩ h1,by rw[cA,h2];rfl⟩
theorem ints_of {own:Own}{js:List (Str×V)} (p:js.Perm (own.map fun q=>(q.1,V.int q.2))):∃fj:Own,js=fj.map (fun q=>(q.1,V.int q.2))/\fj.Perm own:=by
 have e:js=(js.map fun q=>((q.1,match q.2 with|.int z=>z|_=>0):Str×Int)).map fun q=>(q.1,V.int q.2):=by
  rw[dY];refine((rq (g:=id) fun q hq=>?_).trans (FA _)).symm;obtain⟨x,_,rfl⟩:=bt.mp (p.mem_iff.mp hq)
  rfl
 refine⟨_,e,?_⟩;have:=p.map fun q=>((q.1,match q.2 with|.int z=>z|_=>0):Str×Int);rw[dY]at this;refine this.trans (List.Perm.of_eq ((rq (g:=id) fun q _=>rfl).trans (FA _)))
theorem QZ {own:Own} (h:nD H vs (own.map fun q=>(q.1,V.int q.2))):jP H vs own:=by
 induction own generalizing vs with
 |nil=>cases h;exact .nil
 |cons q own ih=>cases h with|cons e r=>exact .cons e (ih r)
theorem Ab {ak iW:List Th} (h:Paired uP ak iW):iW.map (·.1)=ak.map (·.1):=by
 induction h with
 |nil=>rfl
 |cons e _ ih=>rw[cA,cA,ih,e.1]
theorem TK {ak iW:List Th} (h:Paired uP ak iW) {p:Th} (hp:p∈ak):∃q∈iW,uP p q:=by
 induction h with
 |nil=>cases hp
 |cons e _ ih =>
  rcases b9.mp hp with z|z
  ·exact⟨_,br,z ▸ e⟩
  ·obtain⟨q,hq,r⟩:=ih z;exact⟨q,bU _ hq,r⟩
theorem AN {kv:Key×V}:∀ {kvs:List (Key×V)}{i:Nat},(kvs.map (·.1)).Nodup->kvs[i]? = some kv->a7 kvs kv.1=some kv.2
 |[],i,_,h=>by simp at h
 |p::kvs,0,_,h=>by cases h;exact gT rfl
 |p::kvs,i+1,nd,h=>by
  rw[cA,gR]at nd;rw[gA (fun z=>nd.1 (by rw[z];exact bt.mpr ⟨kv,ix (by simpa using h),rfl⟩))]
  exact AN nd.2 (by simpa using h)
theorem gg.nodup {ak:List Th} (h:gg H td kvs ak) (nd:(ak.map (·.1)).Nodup):(kvs.map (·.1)).Nodup:=by
 rw[h.keys,o6,rA];exact(o6.mp nd).imp fun h z=>h (jw z)
inductive xG (vs:List V) (H:Hp) (Q:VK) (E:XK):Prop
 |mk {t db td:Addr}{kvs:List (List Key×V)}{aR:Bk}{kt:List (Key×V)}{ak:List Th}{ks:List Str} (_:vs = [.ref t,.ref db,.ref td]) (_:H db=some (.dT kvs)) (_:cE H kvs aR) (_:jO aR) (_:H td=some (.dK kt)) (_:gg H td kt ak) (_:B9 ks ak) (_:ak.length<=5)
  (_:∀r tb tt wb wt bk gZ H',aw H H'->jZ H' r t tb tt wt gZ->H' tb=some (.tup wb)->cO H' wb bk->bk.Perm aR->(∀p∈ak,∃q∈gZ,uP p q)->Q (.ref r) H'):xG vs H Q E
abbrev El:List Str:= ["_law_family_here","_law_book","_law_things_here"]
abbrev MU:List Str:= ["_law_family_here","_law_book","_law_things_here","_law_rows","_law_thing","_law_kind","_law_own","_law_triples"]
theorem qm:bx MU El (aN sq):=bS (by decide +kernel)
abbrev eWd:Expr:=iE (bZ (bF sq) 2)
theorem xH:cg MU (aN sq) ["_law_kind","_law_name","_law_entry"] [none,none,none] (di eWd):=fg (by decide +kernel)
theorem V7 (F:aW K "_law_world" "_law_world" sq f fd) (B:gN mg) (B2:lU mg):aU P w K mg base aQ 1 f fd El xG:=by
 refine F.ok qm (fun vs H Q E h=>?_) (fun aF A outer s H vs Q E hr h=>?_)
 ·obtain⟨rfl,_⟩:=h;rfl
 ·obtain @⟨t,db,td,kvs,aR,kt,ak,ks,rfl,cq,dv,ok,hU,tv,to,t5,q⟩:=h
  have bu:=ie hr.units;refine⟨_,aE (a4 (i:=3) qm.nd rfl (Or.inl rfl) (fX ah))
   (aE (gV gx rfl (SJ (pv 2)) (bc (i:=4) qm.nd rfl (Or.inl rfl))
    (aE (nu (gm bu (pv 2) (pv 4) (fun _ _=>rfl)) (lI rfl (eG (bc (i:=5) qm.nd rfl (Or.inl rfl)) (eG (bc (i:=6) qm.nd rfl (Or.inl rfl)) jB))))
    (aP (jc (kz rB zB zC pA (pv 3) (aa (cw (aa (pv 4) (aa (pv 5) (aa (fS o8 rfl B.tuple boot_tuple (aa (OV rfl rfl B2.sorted (pv 6)) ah)) ah)))) ah))))))
   (aE (rG rfl xH qm.nd (i:=7) rfl rfl (QP (pv 1)) (fun s H fp=>⟨Au (n:=2) K rfl rfl (eG (Au (n:=2) K rfl rfl (eG (bc (i:=0) xH.nd rfl (Or.inl rfl)) (eG (bc (i:=1) xH.nd rfl (Or.inl rfl)) jB))) (eG (bc (i:=2) xH.nd rfl (Or.inl rfl)) jB)),gz,cw (aa (pv 0) (aa (pv 1) (aa (pv 2) ah)))⟩))
   (aP (bz (RK (SQ (cw (aa (pv 0) (aa (fS o8 rfl B.tuple boot_tuple (aa (cQ zJ rfl B2.sorted boot_sorted (aa (pv 7) ah)) ah)) (aa (fS o8 rfl B.tuple boot_tuple (aa (cQ zJ rfl B2.sorted boot_sorted (aa (pv 3) ah)) ah)) ah)))))))))),?_⟩
  refine⟨bw _,fun rl gO=>?_⟩;have S1:=aA (o:= .lst []) gO;have Ma:db≠rl:=au cq gO;have zb:td≠rl:=au hU gO;have qD:db≠td:=aS cq hU (by intro z;cases z)
  have KN:upd H rl (.lst []) rl=some (.lst []):=ag;have MV:=tv.same S1;have KO:=S1 _ _ hU;generalize upd H rl (.lst [])=H1 at S1 KN MV KO ⊢;have kl:kt.length=ak.length:=eu tv;refine⟨_,rfl,td,kt,rfl,.inl ⟨KO,fun o=>?_⟩⟩;have dQ:∀b u,b≠td->H1 b=some u->upd H1 td (.a6 o (.dK kt)) b=some u:=fun b u n e=>by rw[ae n];exact e
  have xI:upd H1 td (.a6 o (.dK kt)) td=some (.a6 o (.dK kt)):=ag;have MX:gg (upd H1 td (.a6 o (.dK kt))) td kt ak:=MV.keep fun b u n _ e=>dQ b u n e;have xJ:=dQ _ _ (aV zb) KN;generalize upd H1 td (.a6 o (.dK kt))=H2 at dQ xI MX xJ ⊢;refine RC (o:=o) (fun i σ H3=>∃ (rv:List V) (iW:List Th) (v4 v5 v6:Option V),σ = [some (.ref t),some (.ref db),some (.ref td),some (.ref rl),v4,v5,v6,none]/\(∀b u,b≠rl->H2 b=some u->H3 b=some u)/\H3 rl=some (.lst rv)/\iV H3 rv iW/\Paired uP (ak.take i) iW)
   ⟨[],[],none,none,none,rfl,fun b u _ e=>e,xJ,.nil,.nil⟩ (fun i σ H3 _ ⟨_,_,_,_,_,_,z,_⟩=>z _ _ zb xI) ?_ ?_
  ·rintro i kv σ H3 d5 ⟨rv,iW,v4,v5,v6,rfl,eX,lR,T3,R3⟩
   obtain⟨p,hp,ek,a,b,ev,na,nb,ha,hb⟩:=L2.Paired.get MX d5;have pm:=ix hp;have d6:ak.take (i+1)=ak.take i ++ [p]:=by rw[dj,hp];rfl
   have g9:=eX _ _ (aS ha xJ (by intro z;cases z)) ha
   have qK:=eX _ _ (aS hb xJ (by intro z;cases z)) hb
   have B':=eX _ _ zb xI;have vk:=AN (tv.nodup to.nd) d5;rw[ev]at vk;rw[ek]at vk ⊢;rw[show kV (Sum.inr p.1)=V.str p.1 from rfl];refine⟨_,rfl,_,rfl,td,.ref a,rfl,.inl ⟨kt,Sum.inr p.1,.inr ⟨o,B'⟩,rfl,vk.symm⟩,?_⟩;refine⟨a,_,rfl,aG.of g9,rfl,_,_,rfl,_,_,rfl,rfl,?_⟩;refine⟨_,rfl,.inl ⟨rfl,_,ai.of lR⟩,_,rfl,_,rfl,_,rfl,b,_,rfl,qK,by rw[dY];exact(to.ow p pm).1.nd,by rw[aJ];have:=(to.ow p pm).2;omega,fun D ys js H4 hD S4 h4 pv pp so=>?_⟩
   obtain⟨fj,rfl,po⟩:=ints_of pp;refine⟨D,ys,rfl,.inl ⟨ai.of h4,fun c hc=>⟨kR,fun tt oS=>?_⟩⟩⟩;have S5:=S4.trans ((aA (o:= .tup ys) hc).trans (aA (o:= .tup [V.str p.1,.str p.2.1,.ref c]) oS));have mI:=(aA (o:= .tup ys) hc).trans (aA (o:= .tup [V.str p.1,.str p.2.1,.ref c]) oS);have KP:upd (upd H4 c (.tup ys)) tt (.tup [V.str p.1,.str p.2.1,.ref c]) tt=some (.tup [V.str p.1,.str p.2.1,.ref c]):=ag;have uy:upd (upd H4 c (.tup ys)) tt (.tup [V.str p.1,.str p.2.1,.ref c]) c=some (.tup ys):=by rw[ae (au ag oS)];exact ag
   generalize upd (upd H4 c (.tup ys)) tt (.tup [V.str p.1,.str p.2.1,.ref c])=H5 at S5 mI KP uy ⊢;have KQ:=S5 _ _ lR;have lr:rv.length<=5:=by have h1:=eu T3;have h2:=eu R3;rw[c8]at h2;omega
   refine⟨rl,rv,_,rfl,rfl,KQ,by rw[aT];omega,?_⟩
   have up:∀ {zs:List V} b xs,H5 b=some (.tup xs)->upd H5 rl (.lst zs) b=some (.tup xs):=fun b xs e=>by rw[ae (aS e KQ (by intro z;cases z))];exact e
   refine⟨_,iW ++ [(p.1,p.2.1,fj)],_,_,_,rfl,fun b u n e=>by rw[ae n];exact S5 _ _ (eX b u n e),ag,?_,?_⟩
   ·exact lq ((T3.same S5).keep up) ⟨tt,c,ys,rfl,up _ _ KP,up _ _ uy,((QZ pv).keep fun b xs e=>mI _ _ e).keep up⟩
   ·rw[d6];exact lq R3 ⟨rfl,rfl,po⟩
  ·rintro σ H3 ⟨rv,iW,v4,v5,v6,rfl,eX,lR,T3,R3⟩
   rw[kl,dc]at R3;have l1:=eu T3;have l2:=eu R3;have Em:∀b u,b≠td->H b=some u->H3 b=some u:=fun b u n e=>eX _ _ (au e gO) (dQ _ _ n (S1 _ _ e));have xK:=Em _ _ qD cq;have B':=eX _ _ zb xI;have dv3:cE H3 kvs aR:=dv.keep (fun b xs e=>Em _ _ (aS e hU (by intro z;cases z)) e) ok.ent
   have lk:=dv.length;have a8:=ok.a8;refine⟨_,rfl,db,kvs,rfl,xK,fun o2 c hc=>?_⟩;have fH:∀b u,b≠db->H3 b=some u->upd H3 db (.a6 o2 (.dT kvs)) b=some u:=fun b u n e=>by rw[ae n];exact e
   have nZ:upd H3 db (.a6 o2 (.dT kvs)) db=some (.a6 o2 (.dT kvs)):=ag;have MY:cE (upd H3 db (.a6 o2 (.dT kvs))) kvs aR:=dv3.keep (fun b xs e=>fH _ _ (aS e xK (by intro z;cases z)) e) ok.ent
   have T4:iV (upd H3 db (.a6 o2 (.dT kvs))) rv iW:=T3.keep fun b xs e=>fH _ _ (aS e xK (by intro z;cases z)) e
   have Ca:=fH _ _ (aV qD) B';have KR:=fH _ _ (aS lR xK (by intro z;cases z)) lR
   generalize upd H3 db (.a6 o2 (.dT kvs))=H4 at fH nZ MY T4 Ca KR hc ⊢;refine Pr (fun i ys τ H5=>∃t0 t1 t2:Option V,τ = [t0,t1,t2]/\H5 c=some (.lst ys)/\aw H4 H5/\cO H5 ys (aR.take i)) ⟨none,none,none,rfl,ag,aA hc,.nil⟩ (fun i ys τ H5 ⟨_,_,_,_,z1,z2,_⟩=>⟨z1,z2 _ _ nZ⟩) ?_ ?_
   ·rintro i kv tp b ys τ H5 d5 uA hb ⟨t0,t1,t2,rfl,h5,S5,B5⟩
    have b7:i < kvs.length:=(b4.mp d5).1;obtain⟨p,hp,ek,rp⟩:=L2.Paired.get (MY.same S5) d5;have pm:=ix hp;have d6:aR.take (i+1)=aR.take i ++ [p]:=by rw[dj,hp];rfl
    replace hb:H5 b=some (.tup [V.str p.1,V.str p.2.1]):=by rw[ek]at hb;exact hb
    have S6:=aA (o:= .tup [V.ref b,kv.2]) uA;have KS:upd H5 tp (.tup [V.ref b,kv.2]) tp=some (.tup [V.ref b,kv.2]):=ag;have MZ:=S6 _ _ hb;have M0:=rp.same S6;generalize upd H5 tp (.tup [V.ref b,kv.2])=H6 at S6 KS MZ M0 ⊢;refine⟨tp,_,rfl,aG.of KS,rfl,_,_,rfl,b,_,rfl,aG.of MZ,rfl,_,_,rfl,_,_,rfl,rfl,_,_,rfl,rfl,?_⟩;refine⟨_,rfl,_,rfl,_,rfl,kR,fun tt oS=>?_⟩;have S7:=aA (o:= .tup [V.str p.1,V.str p.2.1,kv.2]) oS;have KU:upd H6 tt (.tup [V.str p.1,V.str p.2.1,kv.2]) tt=some (.tup [V.str p.1,V.str p.2.1,kv.2]):=ag;have M1:=M0.same S7;generalize upd H6 tt (.tup [V.str p.1,V.str p.2.1,kv.2])=H7 at S7 KU M1 ⊢;have En:=S6.trans S7;have M3:=En _ _ h5;have up:∀ {zs:List V} b xs,H7 b=some (.tup xs)->upd H7 c (.lst zs) b=some (.tup xs):=fun b xs e=>by rw[ae (aS e M3 (by intro z;cases z))];exact e
    refine⟨M3,?_,cw_next b7 ⟨_,_,_,rfl,ag,fun x u hx=>by rw[ae (au hx hc)];exact En _ _ (S5 x u hx),?_⟩⟩
    ·have:=B5.length
     rw[c8]at this;rw[aT];omega
    ·rw[d6]
     exact cO.append (up _ _ KU) ((ok.ent p pm).keep M1 up) (cO.keep up (cO.same En B5) fun q hq=>ok.ent q (vp hq))
   ·rintro ys τ H5 ⟨t0,t1,t2,rfl,h5,S5,B5⟩
    rw[lk,dc]at B5;obtain⟨kv6,K6,ek⟩:=B5.keyed;have lb:=B5.length;refine⟨_,rfl,_,rfl,c,_,kv6,2,rfl,.inl (ai.of h5),K6,by decide,by rw[ek];exact ok.nd,by omega,fun D cP yj hD lM hK Dv hso=>?_⟩
    obtain⟨yS,yQ,B7⟩:=cO.perm lM B5;have SD:=aA (o:= .lst cP) hD;refine⟨D,cP,rfl,.inl ⟨ai.of ag,fun tb zd=>?_⟩⟩;have S7:=SD.trans (aA (o:= .tup cP) zd);have KW:upd (upd H5 D (.lst cP)) tb (.tup cP) tb=some (.tup cP):=ag;have B8:=cO.same S7 B7;generalize upd (upd H5 D (.lst cP)) tb (.tup cP)=H7 at S7 KW B8 ⊢;have Eo:=S5.trans S7;have T7:=T4.same Eo;obtain⟨M4,K8,ek8⟩:=T7.keyed;have nd8:(M4.map (·.1)).Nodup:=by
     rw[ek8,Ab R3,o6,rA];exact(o6.mp to.nd).imp fun h z=>h (Oz z).1
    refine⟨_,rfl,rl,_,M4,1,rfl,.inl (ai.of (Eo _ _ KR)),K8,aO _,nd8,by omega,fun D2 wt kv9 hD2 UU _ _ _=>?_⟩
    obtain⟨gZ,qM,T8⟩:=zN UU T7;have T8:iV H7 wt gZ:=T8;have SD2:=aA (o:= .lst wt) hD2;refine⟨D2,wt,rfl,.inl ⟨ai.of ag,fun tt oS=>⟨kR,fun r hr=>?_⟩⟩⟩;have uQ:=SD2.trans ((aA (o:= .tup wt) oS).trans (aA (o:= .tup [V.ref t,.ref tb,.ref tt]) hr));have KY:upd (upd (upd H7 D2 (.lst wt)) tt (.tup wt)) r (.tup [V.ref t,.ref tb,.ref tt]) tt=some (.tup wt):=by rw[ae (au ag hr)];exact ag
    have qT:upd (upd (upd H7 D2 (.lst wt)) tt (.tup wt)) r (.tup [V.ref t,.ref tb,.ref tt]) r=some (.tup [V.ref t,.ref tb,.ref tt]):=ag;generalize upd (upd (upd H7 D2 (.lst wt)) tt (.tup wt)) r (.tup [V.ref t,.ref tb,.ref tt])=H9 at uQ KY qT ⊢;have uR:=Eo.trans uQ;refine⟨db,o2,kvs,uR _ _ nZ,(fun o u z=>by cases cq.symm.trans z),td,o,kt,?_,(fun o u z=>by cases hU.symm.trans z),?_⟩
    ·rw[ae (aV qD)];exact uR _ _ Ca
    ·have fin:∀b u,b≠db->b≠td->H9 b=some u->upd (upd H9 db (.dT kvs)) td (.dK kt) b=some u:=fun b u n1 n2 e=>by rw[ae n2,ae n1];exact e
     have Xx:=uR _ _ nZ;have Xy:=uR _ _ Ca;have ft:∀b xs,H9 b=some (.tup xs)->upd (upd H9 db (.dT kvs)) td (.dK kt) b=some (.tup xs):=fun b xs e=>fin _ _ (aS e Xx (by intro z;cases z)) (aS e Xy (by intro z;cases z)) e
     have nm':∀p∈gZ,Nm p.1:=fun p hp=>by
      have hm:p.1∈ak.map (·.1):=by rw[<-Ab R3];exact bt.mpr ⟨p,qM.mem_iff.mp hp,rfl⟩
      obtain⟨p0,h0,e0⟩:=bt.mp hm;rw[<-e0];exact to.nm p0 h0
     refine q r tb tt cP wt yS gZ _ (fun b u e=>?_) ⟨ft _ _ qT,ft _ _ KY,(T8.keep fun b xs e=>uQ _ _ e).keep ft,by rw[qM.length_eq];omega,nm',by rw[(qM.map (·.1)).nodup_iff,Ab R3];exact to.nd⟩ (ft _ _ (uQ _ _ KW)) (cO.keep ft (cO.same uQ B8) fun p hp=>ok.ent p (yQ.mem_iff.mp hp)) yQ (fun p hp=>?_)
     ·by_cases n1:b=td
      ·subst n1;rw[hU]at e;cases e;exact ag
      ·by_cases n2:b=db
       ·subst n2;rw[cq]at e;cases e;rw[ae n1];exact ag
       ·exact fin _ _ n2 n1 (uR _ _ (fH _ _ n2 (Em _ _ n1 e)))
     ·obtain⟨q',iH,r'⟩:=TK R3 hp
      exact⟨q',qM.mem_iff.mpr iH,r'⟩
def resT (o:Option Int) (n:Str):List V:=match o with|some z=>[.str "told",.int z]|none=>[.str "missing",.str n]
theorem V8 {b:Bool}{A:Prop}{T:St->Hp->Prop} (nV:St->Hp->Prop) (h1:b=true->(∀aI H',nV aI H'->T aI H')->A) (h2:b≠true->nV σ H) (h3:∀aI H',nV aI H'->T aI H'):if b=true then A else T σ H:=by
 cases b with
 |true=>exact h1 rfl h3
 |false=>exact h3 _ _ (h2 cz)
theorem Q0 {t:TT}{te u:TS}{b:Bool} (h:Tells t σ H b) (k:∀H1,aw H H1->if b=true then ts { D with nx:=u D } σ H1 else te { D with nx:=u D } σ H1):Bx (wX t ts te) u D σ H:=h _ k
inductive xM (vs:List V) (H:Hp) (Q:VK) (E:XK):Prop
 |mk {wd t tb tt:Addr}{wt:List V}{ak:List Th}{th:Th}{o:Obj}{ws wb:List V}{aK:List (Str×List Str)}{L:Str->List Str}{bk:Bk}{name aq:Str} (_:vs = [.ref wd,.str th.1,.str name,.str aq]) (_:nX wd t tb tt wt ak th o ws wb aK L bk name aq H)
  (_:∀r H',aw H H'->H' r=some (.tup (resT (numOf th.2.2 bk (L th.2.1) name aq) name))->Q (.ref r) H'):xM vs H Q E
abbrev Ep:List Str:= ["_law_world_here","_law_thing","_law_name","_law_behind"]
abbrev nTd:List Str:= ["_law_world_here","_law_thing","_law_name","_law_behind","_law_told_here","e"]
theorem tE:bx nTd Ep (aN Bq):=bS (by decide +kernel)
theorem nX.same {wd t tb:Addr}{ak:List Th}{th:Th}{bk:Bk}{aq:Str} (h:nX wd t tb tt wt ak th o ws wb aK L bk name aq H) (S:aw H H'):nX wd t tb tt wt ak th o ws wb aK L bk name aq H':=⟨h.h.same S,h.fb.same S,h.hm,h.hk,h.nd,h.hb,h.pl,h.nm,h.so⟩
theorem V9 {fA:Addr}{dA:FuncData} (F:aW K "_law_told" "_law_told" Bq f fd) (TM:Bt K mg B M fI dI) (me:mroIn K M (.ref M)=some true) (GA:b8 P w K mg base (cI P w) 9 fA dA jv (ql M) "number_asked"):aU P w K mg base aQ 10 f fd Ep xM:=by
 refine F.ok tE (fun vs H Q E h=>?_) (fun aF A outer s H vs Q E hr h=>?_)
 ·obtain⟨rfl,_⟩:=h;rfl
 ·obtain @⟨wd,t,tb,tt,wt,ak,th,o,ws,wb,aK,L,bk,name,aq,rfl,h,q⟩:=h
  have qT:aX 9 _:=hr;refine⟨_,aE (a4 (i:=4) tE.nd rfl (Or.inl rfl) (cw ah))
   (aE (QQ (j:=5) (C:=M) (fun pins D=>aP (a4 (i:=4) tE.nd rfl (Or.inl rfl) (cw (aa df (aa (SY GA qT (aa (pv 0) (aa (pv 1) (aa (pv 2) (aa (pv 3) ah))))) ah)))))
     tE.nd rfl rfl rfl rfl rfl rfl rfl TM.mC TM.q (fun a=>aP (a4 (i:=4) tE.nd rfl (Or.inl rfl) (cw (aa df (aa (SV (pv 5)) ah))))))
   (aP (bz (pv 4)))),?_⟩
  refine⟨bw _,fun p0 uv=>?_⟩;have S0:=aA (o:= .tup []) uv;generalize upd H p0 (.tup [])=H0 at S0 ⊢;refine⟨_,rfl,_,rfl,_,rfl,_,rfl,ql.mk rfl (h.same S0) (fun e a H1 S1 mo=>?_) fun z ez H1 S1=>?_⟩
  ·refine⟨⟨M,rfl,me⟩,a,rfl,?_⟩
   obtain⟨d,ha,hd⟩:=mo;refine⟨_,rfl,a,_,_,d,_,.str name,rfl,ha,hd,TM.x,TM.nk,rfl,eT,fun r gK=>?_⟩;have S2:=aA (o:= .tup [V.str "missing",.str name]) gK;exact⟨_,rfl,q r _ (S0.trans (S1.trans S2)) (by rw[e];exact ag)⟩
  ·refine⟨eT,fun r gK=>?_⟩
   have S2:=aA (o:= .tup [V.str "told",.int z]) gK;exact⟨_,rfl,q r _ (S0.trans (S1.trans S2)) (by rw[ez];exact ag)⟩
inductive xN (vs:List V) (H:Hp) (Q:VK) (E:XK):Prop
 |mk {la db ow:Addr}{line:List Str}{kvs:List (List Key×V)}{aR:Bk}{own:Own}{name aq:Str} (_:vs = [.ref la,.ref db,.ref ow,.str name,.str aq]) (_:H la=some (.lst (line.map V.str))) (_:line.length<=200) (_:H db=some (.dT kvs)) (_:cE H kvs aR) (_:jO aR) (_:qQ aR) (_:H ow=some (.dK (cZ own))) (_:aq = "" \/ aq∈line)
  (_:∀r H',aw H H'->H' r=some (.tup (resT (numOf own aR line name aq) name))->Q (.ref r) H'):xN vs H Q E
abbrev Er:List Str:= ["_law_line_here","_law_book","_law_own","_law_name","_law_behind"]
abbrev nDu:List Str:= ["_law_line_here","_law_book","_law_own","_law_name","_law_behind","_law_here","_law_kind"]
theorem xO:bx nDu Er (aN BR):=bS (by decide +kernel)
theorem UW (F:aW K "_law_due" "_law_due" BR f fd):aU P w K mg base aQ 1 f fd Er xN:=by
 refine F.ok xO (fun vs H Q E h=>?_) (fun aF A outer s H vs Q E hr h=>?_)
 ·obtain⟨rfl,_⟩:=h;rfl
 ·obtain @⟨la,db,ow,line,kvs,aR,own,name,aq,rfl,ju,af2,cq,dv,ok,pl,how,hb,q⟩:=h
  have bu:=ie hr.units;refine⟨_,aE (cL (PW.pt (pw_and (cD jG (pv 4) df (cR _)) (pw_and1 (nt (pP bu (pv 3) (pv 2)))))) (aP (bz (cw (aa df (aa (gm bu (pv 2) (pv 3) (fun _ _=>rfl)) ah))))) cV)
   (aE (a4 (i:=5) xO.nd rfl (Or.inl rfl) (pv 0))
   (aE (cL (cD sx (pv 4) df (cR _)) (aP (a4 (i:=5) xO.nd rfl (Or.inl rfl) (m3 vT (pv 0) (m8 (bJ iQ (kz rB PySem.F.slot_list_index PySem.F.type_list_index Ru (pv 0) (aa (pv 4) ah)) ay)) m7))) cV)
   (aE (gV gx rfl (eP (pv 5)) (bc (i:=6) xO.nd rfl (Or.inl rfl))
    (aP (cL (nt (pP bu (cw (aa (pv 6) (aa (pv 3) ah))) (pv 1))) (aP (bz (cw (aa df (aa (bo cX (gm bu (pv 1) (cw (aa (pv 6) (aa (pv 3) ah))) (fun _ _=>rfl)) ay (fun _ _=>rfl)) ah))))) cV)))
   (aP (bz (cw (aa df (aa (pv 3) ah)))))))),?_⟩
  refine Q0 (b:=decide (V.str aq=V.str "") && (a7 (cZ own) (Sum.inr name)).isSome) (.and (fun R k=>⟨_,rfl,rfl,_,rfl,k _ fun _ _ e=>e⟩) fun _ H1 S1 R k=>⟨_,rfl,_,rfl,ow,_,rfl,cp.k (k:=Sum.inr name) (S1 _ _ how),_,rfl,k _ fun _ _ e=>e⟩) fun H1 S1=>?_
  by_cases cb:aq = "" /\ (own.lookup name).isSome=true
  ·obtain⟨rfl,uI⟩:=cb
   obtain⟨z,hz⟩:=E9.mp uI;have ev:a7 (cZ own) (Sum.inr name)=some (.int z):=by rw[se,hz];rfl
   have en:numOf own aR line name "" = some z:=by unfold numOf;rw[aB ⟨rfl,uI⟩,hz]
   rw[aB (by rw[ev];rfl)]
   refine⟨_,rfl,_,rfl,ow,.int z,rfl,by rw[<-ev];exact cp.k (k:=Sum.inr name) (S1 _ _ how),eT,fun r gK=>?_⟩
   exact q r _ (S1.trans (aA gK)) (by rw[en];exact ag)
  have en:numOf own aR line name aq=(cJ aR name (f7 line aq)).map fun p=>Eb p.2:=by unfold numOf;rw[ar cb]
  rw[en]at q;rw[ar (fun z=>cb (by
   rw[k9,se,zx]at z;refine⟨?_,z.2⟩;have e:=iP z.1;injection e))]
  have jN:=S1 _ _ ju;refine⟨_,rfl,_,rfl,rfl,_,rfl,V8 (fun aI H'=>∃lh,aI = [some (.ref la),some (.ref db),some (.ref ow),some (.str name),some (.str aq),some (.ref lh),none]/\aw H H'/\H' lh=some (.lst ((f7 line aq).map V.str))) (fun e k=>?_) (fun e=>⟨la,rfl,S1,?_⟩) ?_⟩
  ·have bC:aq ≠ "" :=fun z=>by rw[z]at e;revert e;decide +kernel
   have hm:aq∈line:=hb.resolve_left bC;obtain⟨i1,i2⟩:=HX hm;refine⟨_,rfl,_,rfl,.inl ⟨rfl,_,ai.of jN⟩,_,rfl,la,line,aq,line.idxOf aq,rfl,rfl,jN,i1,i2,_,_,rfl,rfl,_,rfl,la,_,rfl,ai.of jN,fun c hc=>?_⟩;refine k _ _ ⟨c,rfl,S1.trans (aA hc),?_⟩;have e1:f7 line aq=line.drop (line.idxOf aq+1):=by unfold f7;rw[ar bC]
   have e2:=Aq (line.map V.str) (line.idxOf aq+1);rw[ag,e1,OH];exact d7 some (d7 HO.lst e2)
  ·have:aq = "" :=by
    by_cases z:aq = ""
    ·exact z
    ·exact absurd (by simpa using fun y=>z y) e
   unfold f7;rw[aB this];exact jN
  rintro σ H2 ⟨lh,rfl,S2,h2⟩;generalize Jt:f7 line aq=rest at h2 q;refine⟨_,rfl,lh,rfl,⟨_,ai.of h2⟩,lD (xs:=rest.map V.str) (fun i σ H3=>∃v6:Option V,σ = [some (.ref la),some (.ref db),some (.ref ow),some (.str name),some (.str aq),some (.ref lh),v6]/\aw H2 H3 /\ ∀y∈rest.take i,eI aR y name=none)
   ⟨none,rfl,aw.refl _,fun y hy=>(by cases hy)⟩ (fun i σ H3 _ ⟨_,_,z,_⟩=>ai.of (z _ _ h2)) ?_ ?_⟩
  ·rintro i y σ H3 hy ⟨v6,rfl,S3,no⟩
   have ck:i < rest.length:=by simpa using (b4.mp hy).1
   obtain rfl:V.str rest[i]=y:=by simpa [ck] using hy
   have d6:rest.take (i+1)=rest.take i ++ [rest[i]]:=by rw[dj,bK ck];rfl
   refine⟨_,rfl,_,rfl,eT,fun kt mJ=>?_⟩;have Sk:=aA (o:= .tup [V.str rest[i],V.str name]) mJ;have mO:upd H3 kt (.tup [V.str rest[i],V.str name]) kt=some (.tup (([Sum.inr rest[i],Sum.inr name]:List Key).map kV)):=ag;generalize upd H3 kt (.tup [V.str rest[i],V.str name])=H4 at Sk mO ⊢;have S4:=S2.trans (S3.trans Sk);have nZ:=S4 _ _ cq;refine⟨_,rfl,db,_,rfl,cp.t (k:= [Sum.inr rest[i],Sum.inr name]) nZ mO,_,rfl,?_⟩;rcases (dv.same S4).look (k:=rest[i]) (n:=name) ok.nd with⟨e1,e2⟩|⟨v,d,e1,e2,rv⟩
   ·rw[e2]
    refine⟨_,rfl,S3.trans Sk,fun y hy=>?_⟩;rw[d6]at hy;rcases dS.mp hy with z|z
    ·exact no y z
    ·rw[i'.mp z];exact e1
   ·rw[e2]
    have ef:cJ aR name rest=some (rest[i],d):=by
     have e0:=rJ (bk:=aR) (n:=name) (x:=name) (rest.take i) no (rest[i]::rest.drop (i+1));rw[<-rn ck,Oq]at e0;rw[e0,rn ck];unfold cJ;rw[e1]
    obtain⟨n,rfl⟩:=A7 pl ef;rw[ef]at q;refine⟨_,rfl,_,rfl,_,rfl,eT,fun Es Xz=>?_⟩;have ze:=aA (o:= .tup [V.str rest[i],V.str name]) Xz;have zf:upd H4 Es (.tup [V.str rest[i],V.str name]) Es=some (.tup (([Sum.inr rest[i],Sum.inr name]:List Key).map kV)):=ag;generalize upd H4 Es (.tup [V.str rest[i],V.str name])=H5 at ze zf ⊢;obtain⟨a,rfl,ha⟩:=A8 (rv.same ze);refine⟨db,.ref a,rfl,by rw[<-e2];exact cp.t (k:= [Sum.inr rest[i],Sum.inr name]) (ze _ _ nZ) zf,a,_,1,_,rfl,rfl,aG.of ha,iU,eT,fun r gK=>?_⟩
    exact q r _ (S4.trans (ze.trans (aA gK))) ag
  ·rintro σ H3 ⟨v6,rfl,S3,no⟩
   rw[aJ,dc]at no;have ef:cJ aR name rest=none:=by
    have:=rJ (bk:=aR) (n:=name) (x:=name) rest no [];rw[iw]at this;rw[this];rfl
   rw[ef]at q;exact⟨_,rfl,eT,fun r gK=>q r _ (S2.trans (S3.trans (aA gK))) ag⟩
theorem TL:Passes (cI X.prog X.w) X fun _ _ _=>False:=fun pins σ H s e s' I z=>by
 obtain⟨_,_,_,_,_,_,_,_,_,_,_,_,_,_,_,f⟩:=z;exact f.elim
theorem Tells.or {t u:TT}{a b:Bool} (h:Tells t σ H a) (k:a=false -> ∀H1,aw H H1->Tells u σ H1 b):Tells (Ll t u) σ H (a || b):=fun R q=>h _ fun H1 S1=>by
 cases a with
 |true=>exact q _ S1
 |false=>exact k rfl H1 S1 R fun H2 S2=>q _ (S1.trans S2)
theorem AO {n:Str}{z:Int}:∀ {own:Own},(own.map (·.1)).Nodup->(own.lookup n=some z ↔ (n,z)∈own)
 |[],_=>by simp
 |p::own,nd=>by
  rw[cA,gR]at nd;rw[show List.lookup n (p::own)=List.lookup n ((p.1,p.2)::own) from rfl,eO]
  by_cases e:n=p.1
  ·subst e
   rw[Fe]
   constructor
   ·intro h;cases h;exact br
   ·intro h
    rcases b9.mp h with h|h
    ·rw[<-h]
    ·exact absurd (bt.mpr ⟨_,h,rfl⟩) nd.1
  ·rw[show(n==p.1)=false by simpa using e]
   show List.lookup n own=some z ↔ _;rw[AO nd.2];exact⟨fun h=>bU _ h,fun h=>(b9.mp h).resolve_left fun y=>e (by rw[<-y])⟩
theorem RY {own fj:Own} (nd:(own.map (·.1)).Nodup) (p:fj.Perm own):fj.lookup n=own.lookup n:=by
 have nd':(fj.map (·.1)).Nodup:=(p.map (·.1)).nodup_iff.mpr nd;have key:∀z,fj.lookup n=some z ↔ own.lookup n=some z:=fun z=>by rw[AO nd,AO nd',p.mem_iff]
 cases e:own.lookup n with
 |some z=>exact(key z).mpr e
 |none =>
  cases e':fj.lookup n with
  |none=>rfl
  |some z=>rw[(key z).mp e']at e;cases e
theorem RZ {own fj:Own}{a b:Bk} (no:(own.map (·.1)).Nodup) (po:fj.Perm own) (nd:(b.map cS).Nodup) (p:a.Perm b) (line:List Str) (n bh:Str):numOf fj a line n bh=numOf own b line n bh:=by
 unfold numOf;rw[RY no po,HV p nd]
def n5 (o:Option Int) (n:Str):PyData:=match o with|some z=>.tuple [.str "told",.int z]|none=>.tuple [.str "missing",.str n]
theorem Ia {r:Addr}{o:Option Int} (h:H r=some (.tup (resT o n))):Rep H (.ref r) (n5 o n):=by
 cases o with
 |some z=>exact .tup h (.cons (.str _) (.cons (.int _) .nil))
 |none=>exact .tup h (.cons (.str _) (.cons (.str _) .nil))
theorem TN {o:Option Int} (hn:Nm n):(n5 o n).canLay0=true/\(n5 o n).depth<=60:=by
 cases o with
 |some z=>exact⟨by show(PyData.strOk "told" && (true && true))=true;decide +kernel,by simp[n5,PyData.depth,PyData.depthAll]⟩
 |none=>exact⟨by show(PyData.strOk "missing" && (PyData.strOk n && true))=true;rw[wK hn];decide +kernel,by simp[n5,PyData.depth,PyData.depthAll]⟩
theorem vP (h:ai K H a xs) (s:aw H H'):ai K H' a xs:=by
 rcases h with(h|⟨o,h⟩)|h
 ·exact .inl (.inl (s _ _ h))
 ·exact .inl (.inr ⟨o,s _ _ h⟩)
 ·exact .inr h
theorem lX {H3:Hp} (S:aw H1 H2) (hp:H1 p=none) (pa:ba p H2 H3):aw H1 H3:=fun b u e=>pa.kp _ _ (S _ _ e) (au e hp)
theorem wz {ns:List Int}{k:Int}{Q:VK}{E:XK} (h:ai K H a (ns.map V.int)) (k0:0<=k) (k1:k<=100) (hl:ns.length<=63) (q:∀p H',H p=none->eQ p H'->aw H H'->Q (.ref p) H'):wJ K [.ref a,.int k] H Q E:=⟨rfl,h,k0,k1,hl,fun p x y hp x0 y0 y1=>q p _ hp ⟨x,y,ag,x0,y0,y1⟩ (aA hp)⟩
structure qU (H:Hp) (db:Addr) (kvs:List (List Key×V)) (aR:Bk) (ks ns:List Str) (i j:Nat):Prop where
 hd:H db=some (.dT kvs)
 dv:cE H kvs aR
 pl:∀p∈aR,∃n:Int,n.natAbs<=10 ^ 18/\p.2.2=qP n
 nd:(aR.map cS).Nodup
 qV:∀p∈aR,(p.1∈ks.take i/\p.2.1∈ns)\/(some p.1=ks[i]? /\ p.2.1∈ns.take j)
 a8:aR.length<=i * ns.length+j
theorem qU.ent {db:Addr}{kvs:List (List Key×V)}{aR:Bk} (h:qU H db kvs aR ks ns i j):∀p∈aR,Ent p.2.2:=fun p hp=>by
 obtain⟨n,hn,e⟩:=h.pl p hp;rw[e];exact .plain n hn
structure LI (K:Frag) (H:Hp) (a d1 ln db td wd t tb tt:Addr) (sc:List Int) (ks ns:List Str) (cB:List (Key×V)) (L:Str->List Str) (kvs:List (List Key×V)) (aR:Bk) (kt:List (Key×V)) (ak:List Th) (wt:List V) (gZ:List Th) (o:Obj) (ws wb:List V) (aK:List (Str×List Str)) (bk:Bk):Prop where
 sc:ai K H a (sc.map V.int)
 nn:fJ H ln ns
 h1:H d1=some (.dK cB)
 l1:∀x∈ks,eN H cB L x
 hb:H db=some (.dT kvs)
 dv:cE H kvs aR
 ht:H td=some (.dK kt)
 tv:gg H td kt ak
 wd:jZ H wd t tb tt wt gZ
 fb:FB H t tb o ws wb aK L bk
theorem LI.same {d1 ln db wd t tb:Addr}{sc:List Int}{cB:List (Key×V)}{kvs:List (List Key×V)}{aR:Bk}{kt:List (Key×V)}{ak:List Th}{gZ:List Th}{bk:Bk} (h:LI K H a d1 ln db td wd t tb tt sc ks ns cB L kvs aR kt ak wt gZ o ws wb aK bk) (S:aw H H'):LI K H' a d1 ln db td wd t tb tt sc ks ns cB L kvs aR kt ak wt gZ o ws wb aK bk:=
 ⟨vP h.sc S,h.nn.same S,S _ _ h.h1,fun x hx=>(h.l1 x hx).same S,S _ _ h.hb,h.dv.same S,S _ _ h.ht,h.tv.same S,h.wd.same S,h.fb.same S⟩
abbrev XA:List Str:= ["_law_script","_law_pot_here","_law_alike","_law_kinds","_law_family_here","_law_lines","_law_names_here","_law_book","_law_kind","_law_name","_law_things_here","_law_world_here","_law_k","_law_thing","_law_line_here","_law_some","_law_behind","_law_due_here","_law_told_here"]
theorem d4:bx XA ["_law_script"] (aN xb):=bS (by decide +kernel)
abbrev i7:List Stmt:=vX (bZ (bF xb) 11)
@[irreducible] def cC (k:Nat):List Stmt:=i7.drop k
theorem lb0:i7=cC 0:=by unfold cC;rfl
theorem lbA:cC 0=bZ i7 0::cC 1:=by unfold cC;rfl
theorem lbB:cC 1=bZ i7 1::cC 2:=by unfold cC;rfl
theorem lbC:cC 2=bZ i7 2::cC 3:=by unfold cC;rfl
theorem lbD:cC 3=bZ i7 3::cC 4:=by unfold cC;rfl
theorem lbE:cC 4=bZ i7 4::cC 5:=by unfold cC;rfl
theorem lbF:cC 5=bZ i7 5::cC 6:=by unfold cC;rfl
theorem lbG:cC 6=bZ i7 6::cC 7:=by unfold cC;rfl
theorem lbH:cC 7=bZ i7 7::cC 8:=by unfold cC;rfl
theorem lbI:cC 8=bZ i7 8::cC 9:=by unfold cC;rfl
theorem lbJ:cC 9 = [bZ i7 9]:=by unfold cC;rfl
theorem UX {l l':List Stmt}{t:TS} (h:l=l') (p:dH X l' t):dH X l t:=h ▸ p
theorem kx {l l':List Stmt}{s:Stmt}{t u:TS} (h:l=s::l') (a:PS X s t) (b:dH X l' u):dH X l (Bx t u):=by rw[h];exact aE a b
theorem UY {l:List Stmt}{s:Stmt}{t:TS} (h:l = [s]) (a:PS X s t):dH X l t:=by rw[h];exact aP a
theorem Q1 {t:TT}{te:TS}{rt:_}{bk:_}{ct:_}{b:Bool} (h:Tells t σ H b) (k:∀H1,aw H H1->if b=true then ts D σ H1 else te D σ H1):Ja (Ends.mk (wX t ts te D) rt bk ct) σ H:=h _ k
inductive qe (K:Frag) (vs:List V) (H:Hp) (Q:VK) (E:XK):Prop
 |mk {a:Addr}{ns:List Int} (_:vs = [.ref a]) (_:ai K H a (ns.map V.int)) (_:ns.length<=63) (_:∀H',Q (.bl true) H'):qe K vs H Q E
theorem UZ {fP fF fU fT fW fO fA:Addr}{dP dF dU dT dO dA:FuncData} (F:aW K "law" "law" xb f fd) (B:gN mg) (B2:lU mg) (B3:Kv mg)
  (GP:b8 P w K mg base aQ 1 fP dP ["_law_script","_law_k"] (wJ K) "_law_pot")
  (GD:b8 P w K mg base aQ 1 fD dD ["_law_pot_here","_law_many"] lF "_law_digit")
  (GN:b8 P w K mg base aQ 3 fN dN ["_law_pot_here","_law_many"] kj "_law_names")
  (GF:b8 P w K mg base aQ 3 fF dF ["_law_pot_here","_law_kinds"] xi "_law_family")
  (GC:b8 P w K mg base aQ 4 fC dC yX qj "_law_called")
  (GU:b8 P w K mg base aQ 2 fU dU ["_law_pot_here"] qd "_law_number")
  (GT:b8 P w K mg base aQ 5 fT dT Eg xF "_law_things")
  (GW:b8 P w K mg base aQ 1 fW dW El xG "_law_world")
  (GO:b8 P w K mg base aQ 10 fO dO Ep xM "_law_told")
  (GE:b8 P w K mg base aQ 1 fE dE Er xN "_law_due")
  (GA:aU P w K mg base (cI P w) 9 fA dA jv (ql M)) (kA:keepIn K (.ref fA)=true) (bA1:Binds K dA jv [.str "" tk]) (mA:mg "number_asked" = some (.ref fA)) :
  aU P w K mg base aQ 11 f fd ["_law_script"] (qe K):=by
 refine F.ok d4 (fun vs H Q E h=>?_) (fun aF A outer s H vs Q E hr h=>?_)
 ·obtain⟨rfl,_⟩:=h;rfl
 ·obtain @⟨a,sc,rfl,hS,oC,q⟩:=h
  have hu:=hr.units;have bu:=ie hu;have n8:aX 10 _:=hr;have qT:aX 9 _:=n8.mono (by decide)
  have uF:aX 5 _:=n8.mono (by decide)
  have j0:aX 4 _:=n8.mono (by decide)
  have oR:aX 3 _:=n8.mono (by decide)
  have dM:aX 2 _:=n8.mono (by decide)
  have bO:aX 1 _:=n8.mono (by decide)
  refine⟨_,aE (a4 (i:=1) d4.nd rfl (Or.inl rfl) (bA GP bO (aa (pv 0) (aa ay ah))))
   (aE (a4 (i:=2) d4.nd rfl (Or.inl rfl) (pJ jG (bA GD bO (aa (pv 1) (aa ay ah))) ay (cR _)))
   (aE (a4 (i:=3) d4.nd rfl (Or.inl rfl) (bA GN oR (aa (pv 1) (aa (bJ iQ ay (bA GD bO (aa (pv 1) (aa ay ah)))) ah))))
   (aE (nu (bA GF oR (aa (pv 1) (aa (pv 3) ah))) (lI rfl (eG (bc (i:=4) d4.nd rfl (Or.inl rfl)) (eG (bc (i:=5) d4.nd rfl (Or.inl rfl)) jB))))
   (aE (a4 (i:=1) d4.nd rfl (Or.inl rfl) (bA GP bO (aa (pv 0) (aa ay ah))))
   (aE (a4 (i:=6) d4.nd rfl (Or.inl rfl) (bA GC j0 (aa (pv 1) (aa (bJ iQ ay (bA GD bO (aa (pv 1) (aa ay ah)))) (aa (pv 2) (aa (pv 3) ah))))))
   (aE (a4 (i:=7) d4.nd rfl (Or.inl rfl) Ah)
   (aE (gV gx rfl (eP (pv 3)) (bc (i:=8) d4.nd rfl (Or.inl rfl))
    (aP (gV gx rfl (eP (pv 6)) (bc (i:=9) d4.nd rfl (Or.inl rfl))
     (aP (cL (cD Jd (bA GD bO (aa (pv 1) (aa ay ah))) ay (cR _)) (aP (kf bu (pv 7) (cw (aa (pv 8) (aa (pv 9) ah))) (cw (aa df (aa (bA GU dM (aa (pv 1) ah)) ah))) rfl)) cV)))))
   (aE (a4 (i:=1) d4.nd rfl (Or.inl rfl) (bA GP bO (aa (pv 0) (aa ay ah))))
   (aE (a4 (i:=10) d4.nd rfl (Or.inl rfl) (bA GT uF (aa (pv 1) (aa (pv 2) (aa (pv 3) (aa (pv 6) ah))))))
   (aE (a4 (i:=11) d4.nd rfl (Or.inl rfl) (bA GW bO (aa (pv 4) (aa (pv 7) (aa (pv 10) ah)))))
   (aE (gV gx rfl (Qk rfl B.range (aa ay (aa (cQ (Gu rfl) rfl B.max boot_max (aa ay (aa (cQ (Gv rfl) rfl B.min boot_min (aa ay (aa (cQ lB rfl B.len lz (aa (pv 0) ah)) ah))) ah))) ah))) (bc (i:=12) d4.nd rfl (Or.inl rfl)) (UX lb0 (kx lbA (a4 (i:=1) d4.nd rfl (Or.inl rfl) (bA GP bO (aa (pv 0) (aa (pv 12) ah))))
    (kx lbB (a4 (i:=13) d4.nd rfl (Or.inl rfl) (bo fc (fS (zR rfl) rfl B.list boot_list (aa (pv 10) ah)) (bA GD bO (aa (pv 1) (aa (cQ QK rfl B.len lz (aa (pv 10) ah)) ah))) (fun _ _=>rfl)))
    (kx lbC (a4 (i:=14) d4.nd rfl (Or.inl rfl) (gm bu (pv 5) (bo cX (gm bu (pv 10) (pv 13) (fun _ _=>rfl)) ay (fun _ _=>rfl)) (fun _ _=>rfl)))
    (kx lbD (a4 (i:=15) d4.nd rfl (Or.inl rfl) (bJ nB (bJ nB (pv 6) (fS (zR rfl) rfl B.list boot_list (aa (bo cX (gm bu (pv 10) (pv 13) (fun _ _=>rfl)) ay (fun _ _=>rfl)) ah))) (bA GN oR (aa (pv 1) (aa ay ah)))))
    (kx lbE (a4 (i:=9) d4.nd rfl (Or.inl rfl) (bo fc (pv 15) (bA GD bO (aa (pv 1) (aa (cQ lB rfl B.len lz (aa (pv 15) ah)) ah))) (fun _ _=>rfl)))
    (kx lbF (a4 (i:=16) d4.nd rfl (Or.inl rfl) (bo fc (bJ nB (bJ RL (fX (aa df ah)) ay) (pv 14)) (bA GD bO (aa (pv 1) (aa (bJ iQ ay (cQ lB rfl B.len lz (aa (pv 14) ah))) ah))) (fun _ _=>rfl)))
    (kx lbG (a4 (i:=17) d4.nd rfl (Or.inl rfl) (bA GE bO (aa (pv 14) (aa (pv 7) (aa (bo cX (gm bu (pv 10) (pv 13) (fun _ _=>rfl)) ay (fun _ _=>rfl)) (aa (pv 9) (aa (pv 16) ah)))))))
    (kx lbH (a4 (i:=18) d4.nd rfl (Or.inl rfl) (bA GO n8 (aa (pv 11) (aa (pv 13) (aa (pv 9) (aa (pv 16) ah))))))
    (kx lbI (cL (PW.pt (pw_or (cD (AY hu) (pv 18) (pv 17) (cR _)) (pw_or1 (PW.pt (pw_and (cD jG (bo cX (pv 18) ay (fun _ _=>rfl)) df (cR _)) (pw_and1 (PW.pt (pw_or (kq (jC (cQ vI rfl B2.yG vN (aa (bo cX (pv 18) ay (fun _ _=>rfl)) (aa (vQ (v:= .ty "int") rfl B3.int boot_int rfl) ah))))) (pw_or1 (jC (cQ vI rfl B2.yG vN (aa (bo cX (pv 18) ay (fun _ _=>rfl)) (aa (vQ (v:= .ty "bool") rfl B3.bool boot_bool rfl) ah)))))))))))))
     (aP (bz wB)) cV)
    (UY lbJ (cL (PW.pt (pw_and (cD jG (pv 16) df (cR _)) (pw_and (cD jG (bo cX (pv 17) ay (fun _ _=>rfl)) df (cR _)) (pw_and1 (cD sx (gU (eg:= [.str ""]) GA qT rfl mA kA bA1 (.cons ⟨_,rfl⟩ .nil) TL (aa (pv 11) (aa (pv 13) (aa (pv 9) ah)))) (bo cX (pv 17) ay (fun _ _=>rfl)) (cR _))))))
     (aP (bz wB)) cV)))))))))))))
   (aP (bz wB))))))))))))),?_⟩
  have sz:∀n:Nat,n<=1000->n<=sizeLine:=fun n h=>by rw[aT];omega
  refine⟨_,rfl,wz (k:=0) hS (by decide) (by decide) oC fun p H1 hp pk S1=>?_⟩
  refine⟨_,rfl,e9 (p:=p) (m:=4) pk (by decide) (by decide) fun al H2 a0 a1 p2=>⟨rfl,?_⟩⟩
  generalize decide (V.int al=V.int 0)=bb;refine⟨_,rfl,_,rfl,e9 (p:=p) (m:=8) p2.ok (by decide) (by decide) fun dk H3 b0 b1 p3=>⟨1,dk,rfl,rfl,?_⟩⟩
  obtain⟨mk,rfl⟩:=lA b0;have P3:=p2.trans p3;refine kj.mk (m:=1+mk) (by rw[OJ];rfl) P3.ok (by omega) fun lk ks H4 DD kl mH knd p4 h4=>?_
  have k8:ks.length<=8:=by omega
  have yp:ks ≠ []:=fun z=>by rw[z,jx]at kl;omega
  have P4:=P3.trans p4;refine⟨_,rfl,_,rfl,xi.mk rfl P4.ok h4 knd mH k8 fun r t d1 o ws cB L Ps aK H5 fm=>⟨r,_,rfl,aG.of fm.hr,rfl,_,_,rfl,_,_,rfl,rfl,?_⟩⟩;have P5:=P4.trans fm.pa;have T5:aw H H5:=lX S1 hp P5;have zf:fJ H5 lk ks:=⟨fm.pa.kp _ _ h4 (jA P4.ok h4),yp,by omega,mH,knd⟩
  refine⟨_,rfl,wz (k:=1) (vP hS T5) (by decide) (by decide) oC fun p' H6 iY Et S6=>?_⟩
  have uL:=zf.same S6;refine⟨_,rfl,_,rfl,e9 (p:=p') (m:=6) Et (by decide) (by decide) fun dn H7 c0 c1 p7=>⟨1,dn,rfl,rfl,_,rfl,_,rfl,?_⟩⟩
  obtain⟨mn,rfl⟩:=lA c0;refine qj.mk (m:=1+mn) (al:=bb) (by rw[OJ];rfl) p7.ok (by omega) (by omega) (uL.eW Et p7) fun ln ns H8 p8 Eu nl=>?_
  have P8:=p7.trans p8;have n6:ns.length<=6:=by omega
  have hk8:=uL.eW Et P8;intro db cq;have T8:aw H5 H8:=lX S6 iY P8;have af3:=T8.free cq;have yF:p'≠db:=P8.ok.ne cq;have S9:=aA (o:= .dT []) cq;have P9:=(ba.refl P8.ok).new (o:= .dT []) cq;have h9:upd H8 db (.dT []) db=some (.dT []):=ag;have M5:=Eu.same S9;have Ew:=hk8.same S9;generalize upd H8 db (.dT [])=H9 at S9 P9 h9 M5 Ew ⊢;refine⟨_,rfl,lk,rfl,⟨_,ai.of Ew.hl⟩,lD (xs:=ks.map V.str) (fun i σ G=>∃ (kvs:List (List Key×V)) (aR:Bk) (v8 v9:Option V),σ = [some (.ref a),some (.ref p'),some (.bl bb),some (.ref lk),some (.ref t),some (.ref d1),some (.ref ln),some (.ref db),v8,v9,none,none,none,none,none,none,none,none,none]/\ba p' H8 G/\fJ G lk ks/\fJ G ln ns/\qU G db kvs aR ks ns i 0)
   ⟨[],[],none,none,rfl,P9,Ew,M5,⟨h9,.nil,fun x hx=>(by cases hx),lu,fun x hx=>(by cases hx),bw _⟩⟩ (fun i σ G _ ⟨_,_,_,_,_,_,z,_⟩=>ai.of z.hl) ?_ ?_⟩
  ·rintro i x σ G hx ⟨kvs,aR,v8,v9,rfl,PG,kG,nG,bG⟩
   have ck:i < ks.length:=by simpa using (b4.mp hx).1
   obtain rfl:V.str ks[i]=x:=by simpa [ck] using hx
   have d6:ks.take (i+1)=ks.take i ++ [ks[i]]:=by rw[dj,bK ck];rfl
   have nR:ks[i] ∉ ks.take i:=by
    have:(ks.take (i+1)).Nodup:=knd.sublist (mU _ _);rw[d6]at this;exact fun z=>(jy.mp this).2.2 _ z _ br rfl
   refine⟨_,rfl,ln,rfl,⟨_,ai.of nG.hl⟩,lD (xs:=ns.map V.str) (fun j σ G=>∃ (kvs:List (List Key×V)) (aR:Bk) (v9:Option V),σ = [some (.ref a),some (.ref p'),some (.bl bb),some (.ref lk),some (.ref t),some (.ref d1),some (.ref ln),some (.ref db),some (.str ks[i]),v9,none,none,none,none,none,none,none,none,none]/\ba p' H8 G/\fJ G lk ks/\fJ G ln ns/\qU G db kvs aR ks ns i j)
    ⟨kvs,aR,v9,rfl,PG,kG,nG,bG⟩ (fun j σ G _ ⟨_,_,_,_,_,_,z,_⟩=>ai.of z.hl) ?_ ?_⟩
   ·clear bG kG nG PG
    rintro j y σ G hy ⟨kvs,aR,v9,rfl,PG,kG,nG,bG⟩;have b7:j < ns.length:=by simpa using (b4.mp hy).1
    obtain rfl:V.str ns[j]=y:=by simpa [b7] using hy
    have gu:ns.take (j+1)=ns.take j ++ [ns[j]]:=by rw[dj,bK b7];rfl
    have hnj:ns[j] ∉ ns.take j:=by
     have:(ns.take (j+1)).Nodup:=Eu.nd.sublist (mU _ _);rw[gu]at this;exact fun z=>(jy.mp this).2.2 _ z _ br rfl
    have af4:i * ns.length+j < 48:=by
     have h1:(i+1) * ns.length<=8 * ns.length:=Nat.mul_le_mul_right _ (by omega)
     rw[Nat.add_mul]at h1;omega
    have Jv:∀ {G G':Hp},eQ p' G->ba p' G G' -> ∀ {kvs:List (List Key×V)},G db=some (.dT kvs)->G' db=some (.dT kvs):=fun ok pa _ e=>pa.kp _ _ e (aV yF);refine⟨_,rfl,e9 (p:=p') (m:=5) PG.ok (by decide) (by decide) fun d3 G1 e0 e1 q1=>⟨_,_,rfl,rfl,_,rfl,?_⟩⟩
    have b1:qU G1 db kvs aR ks ns i j:=⟨Jv PG.ok q1 bG.hd,bG.dv.keep (IE PG.ok q1) bG.ent,bG.pl,bG.nd,bG.qV,bG.a8⟩;have oT:=PG.trans q1;have M6:=kG.eW PG.ok q1;have M7:=nG.eW PG.ok q1;have KZ:∀p∈aR,(p.1∈ks.take i/\p.2.1∈ns)\/(some p.1=ks[i]? /\ p.2.1∈ns.take (j+1)):=fun p hp=>by
     rcases b1.qV p hp with z|⟨z1,z2⟩
     ·exact .inl z
     ·exact .inr ⟨z1,by rw[gu];exact j5 _ z2⟩
    refine gp (fun _=>?_) (fun _=>?_)
    ·refine⟨_,rfl,qd.mk rfl oT.ok fun z G2 hz q2=>⟨sz 2 (by decide),fun te M8=>?_⟩⟩
     have PG2:=oT.trans q2;have b2:qU G2 db kvs aR ks ns i j:=⟨Jv oT.ok q2 b1.hd,b1.dv.keep (IE oT.ok q2) b1.ent,b1.pl,b1.nd,b1.qV,b1.a8⟩;have qW:=M6.eW oT.ok q2;have qX:=M7.eW oT.ok q2;have Se:=aA (o:= .tup [V.str "plain",.int z]) M8;have uD:upd G2 te (.tup [V.str "plain",.int z]) te=some (.tup [V.str "plain",.int z]):=ag;have M9:=PG2.new (o:= .tup [V.str "plain",.int z]) M8;generalize upd G2 te (.tup [V.str "plain",.int z])=G3 at Se uD M9 ⊢;refine⟨_,rfl,_,rfl,_,rfl,sz 2 (by decide),fun kt mJ=>?_⟩
     have Sk:=aA (o:= .tup [V.str ks[i],V.str ns[j]]) mJ;have mO:upd G3 kt (.tup [V.str ks[i],V.str ns[j]]) kt=some (.tup (([Sum.inr ks[i],Sum.inr ns[j]]:List Key).map kV)):=ag;have M':=M9.new (o:= .tup [V.str ks[i],V.str ns[j]]) mJ;have uE:=Sk _ _ uD;have eY:=Se.trans Sk;generalize upd G3 kt (.tup [V.str ks[i],V.str ns[j]])=G4 at Sk mO M' uE eY ⊢;have iM:=eY _ _ b2.hd;have dl:=b2.dv.length;have bf:=b2.a8;refine⟨db,_,rfl,gY.t (k:= [Sum.inr ks[i],Sum.inr ns[j]]) iM mO (by rw[aT];omega),?_⟩
     have eR : [ks[i],ns[j]] ∉ aR.map cS:=fun hm=>by
      obtain⟨p0,uv,e⟩:=bt.mp hm;have e1:p0.1=ks[i]:=by injection e
      have e2:p0.2.1=ns[j]:=by injection e with _ z;injection z
      rcases b2.qV p0 uv with⟨z1,_⟩|⟨_,z2⟩
      ·exact nR (e1 ▸ z1)
      ·exact hnj (e2 ▸ z2)
     have vno:a7 kvs [Sum.inr ks[i],Sum.inr ns[j]]=none:=by
      rcases b2.dv.val (k:=ks[i]) (n:=ns[j]) with⟨z,_⟩|⟨v,d',_,z2,_⟩
      ·exact z
      ·exact absurd (bt.mpr ⟨_,z2,rfl⟩) eR
     rw[rQ _ vno];have up:∀ {zs:List (List Key×V)} b u,b≠db->G4 b=some u->upd G4 db (.dT zs) b=some u:=fun b u n e=>by rw[ae n];exact e
     have ut:∀ {zs:List (List Key×V)} b xs,G4 b=some (.tup xs)->upd G4 db (.dT zs) b=some (.tup xs):=fun b xs e=>up _ _ (aS e iM (by intro z;cases z)) e
     refine⟨_,aR ++ [(ks[i],ns[j],qP z)],_,rfl,M'.write cq yF,⟨up _ _ (aS (eY _ _ qW.hl) iM (by intro z;cases z)) (eY _ _ qW.hl),qW.ne,qW.a8,qW.nm,qW.nd⟩,⟨up _ _ (aS (eY _ _ qX.hl) iM (by intro z;cases z)) (eY _ _ qX.hl),qX.ne,qX.a8,qX.nm,qX.nd⟩,⟨ag,?_,fun p hp=>?_,?_,fun p hp=>?_,?_⟩⟩
     ·exact cE.snoc (.tup (ut _ _ uE) (.cons (.str _) (.cons (.int _) .nil))) ((b2.dv.same eY).keep ut b2.ent)
     ·rcases dS.mp hp with y|y
      ·exact b2.pl p y
      ·rw[i'.mp y];exact⟨z,hz,rfl⟩
     ·rw[bQ]
      exact jy.mpr ⟨b2.nd,by simp,fun u hu v hv y=>eR (by have hv:v = [ks[i],ns[j]]:=i'.mp hv;rw[<-hv,<-y];exact hu)⟩
     ·rcases dS.mp hp with y|y
      ·exact KZ p y
      ·rw[i'.mp y];exact .inr ⟨(bK ck).symm,by rw[gu];exact eZ _ br⟩
     ·rw[e7,zq];omega
    ·exact⟨kvs,aR,_,rfl,oT,M6,M7,⟨b1.hd,b1.dv,b1.pl,b1.nd,KZ,Ow b1.a8⟩⟩
   ·clear bG kG nG PG
    rintro σ G ⟨kvs,aR,v9,rfl,PG,kG,nG,bG⟩;rw[aJ]at bG;refine⟨kvs,aR,_,_,rfl,PG,kG,nG,⟨bG.hd,bG.dv,bG.pl,bG.nd,fun p hp=>.inl ?_,by rw[Nat.add_mul,Nat.one_mul];exact bG.a8⟩⟩
    rw[d6];rcases bG.qV p hp with⟨z1,z2⟩|⟨z1,z2⟩
    ·exact⟨j5 _ z1,z2⟩
    ·rw[bK ck]at z1
     rw[eF z1];exact⟨eZ _ br,vp z2⟩
  ·rintro σ G ⟨kvs,aR,v8,v9,rfl,PG,kG,nG,bG⟩
   rw[aJ]at bG;have pl:qQ aR:=fun p hp=>by obtain⟨n,_,e⟩:=bG.pl p hp;exact⟨n,e⟩
   have zg:jO aR:=by
    refine⟨fun p hp=>?_,bG.ent,bG.nd,?_⟩
    ·rcases bG.qV p hp with⟨z1,z2⟩|⟨z1,z2⟩
     ·exact⟨mH _ (vp z1),Eu.nm _ z2⟩
     ·rw[Fx (aO _)]at z1;cases z1
    ·have h1:ks.length * ns.length<=8 * 6:=Nat.mul_le_mul k8 n6
     have:=bG.a8;omega
   have TG:aw H5 G:=fun b u e=>PG.kp _ _ (T8 _ _ e) (au e iY);have Na:=T5.trans TG;refine⟨_,rfl,wz (k:=2) (vP hS Na) (by decide) (by decide) oC fun p2' G1 iJ y6 uS=>?_⟩
   have bd1:=uS _ _ bG.hd;refine⟨_,rfl,_,rfl,_,rfl,_,rfl,xF.mk rfl y6 (kG.same uS) (nG.same uS) fun td kt ak G2 q2 ntd hU tv to tne t5=>?_⟩;have T2:aw G G2:=lX uS iJ q2;have Ex:=T2 _ _ bG.hd;have Ey:=bG.dv.same T2;refine⟨_,rfl,_,rfl,_,rfl,xG.mk rfl Ex Ey zg hU tv to t5 fun wd tb tt wb wt bk gZ G3 S3 Nb zd bv pm ts=>?_⟩;have qY:aw H5 G3:=TG.trans (T2.trans S3);have li:LI K G3 a d1 ln db td wd t tb tt sc ks ns cB L kvs aR kt ak wt gZ o ws wb aK bk:=
    ⟨vP hS (T5.trans qY),nG.same (T2.trans S3),qY _ _ fm.h1,fun x hx=>(fm.l1 x hx).same qY,S3 _ _ Ex,Ey.same S3,S3 _ _ hU,tv.same S3,Nb,⟨qY _ _ fm.ht,fm.od,fm.fv.same qY,(fm.fm.VJ knd mH k8).perm fm.pm,zd,bv,Tp pm zg⟩⟩
   have Jw:∀x∈ks,x∈aK.map (·.1):=fun x hx=>bt.mpr ⟨(x,Ps x),fm.pm.mem_iff.mpr (bt.mpr ⟨x,hx,rfl⟩),rfl⟩;have ll:∀x∈ks,(L x).length<=200:=fun x hx=>li.fb.a8 (Jw x hx);have af5:=mH;have Ei:∀x∈ks,∀y∈L x,Nm y:=fun x hx y hy=>mH y ((fm.fm.ld x hx).2 y hy);clear Nb bv zd Ey Ex T2 q2 hU tv S3 qY uS bd1 Na TG nG kG PG;refine⟨_,rfl,a,_,rfl,.inl li.sc,_,_,rfl,_,_,rfl,_,_,rfl,?_,vz (fun i σ G=>∃ (v1 v8 v9 Ez EA EB EC ED EF EG:Option V),σ = [some (.ref a),v1,some (.bl bb),some (.ref lk),some (.ref t),some (.ref d1),some (.ref ln),some (.ref db),v8,v9,some (.ref td),some (.ref wd),Ez,EA,EB,EC,ED,EF,EG]/\aw G3 G)
    ⟨_,_,_,none,none,none,none,none,none,none,rfl,aw.refl _⟩ ?_ ?_⟩
   ·refine⟨by decide,by decide,?_,?_⟩ <;> (rw[aJ];repeat' split <;> omega)
   ·rintro i σ G hi ⟨v1,v8,v9,Ez,EA,EB,EC,ED,EF,EG,rfl,SG⟩
    have af6:i < 15:=by
     refine fQ hi ?_;rw[aJ];repeat' split <;> omega
    have l1:=li.same SG;refine⟨_,rfl,_,rfl,wz l1.sc (by omega) (by omega) oC fun pp G4 uT pkk T4=>?_⟩
    have l4:=l1.same T4;have ktl:kt.length=ak.length:=eu li.tv;have BE:0 < ak.length:=FJ.mpr tne;have ek:kt.map (fun kv=>kV kv.1)=(ak.map (·.1)).map V.str:=by
     have:kt.map (fun kv=>kV kv.1)=(kt.map (·.1)).map kV:=by rw[dY];rfl
     rw[this,li.tv.keys,dY];rfl
    refine⟨_,rfl,td,kt,rfl,l4.ht,fun lt aZ=>?_⟩;rw[ek];have S5:=aA (o:= .lst ((ak.map (·.1)).map V.str)) aZ;have q5:=(ba.refl pkk).new (o:= .lst ((ak.map (·.1)).map V.str)) aZ;have h5:upd G4 lt (.lst ((ak.map (·.1)).map V.str)) lt=some (.lst ((ak.map (·.1)).map V.str)):=ag;generalize upd G4 lt (.lst ((ak.map (·.1)).map V.str))=G5 at S5 q5 h5 ⊢;have l5:=l4.same S5;refine⟨_,rfl,_,rfl,td,kt,rfl,l5.ht,?_⟩;rw[ktl];refine e9 (p:=pp) (m:=(ak.length:Int)) q5.ok (by omega) (by omega) fun dt G6 e0 e1 q6=>?_
    obtain⟨jt,rfl⟩:=lA e0;have hjt:jt < ak.length:=by omega
    obtain⟨th,oJ⟩:∃th,ak[jt]? = some th:=⟨ak[jt],bK hjt⟩;have thm:=ix oJ;have Q6:=q5.trans q6;have T6:aw G G6:=lX T4 uT Q6;have l6:=l1.same T6;refine⟨lt,_,(jt:Int),V.str th.1,rfl,rfl,ai.of (q6.kp _ _ h5 (jA q5.ok h5)),cW (by rw[gS,gS,oJ];rfl),?_⟩
    obtain⟨kv,d5⟩:∃kv,kt[jt]? = some kv:=⟨kt[jt],bK (by omega)⟩
    obtain⟨th2,K0,ek2,ta,ob,ev,nta,ntb,gv,DM⟩:=L2.Paired.get l6.tv d5;rw[oJ]at K0;cases K0
    have vk:=AN (li.tv.nodup to.nd) d5;rw[ev,ek2]at vk;have DG:∀ {G':Hp},G' td=some (.dK kt)->cp G' td (.str th.1) (some (.ref ta)):=fun e=>by rw[<-vk];exact cp.k (k:=Sum.inr th.1) e
    have uU:=to.kd th thm;obtain⟨la,Nc,ju⟩:=l6.l1 th.2.1 uU;refine⟨_,rfl,_,rfl,_,rfl,td,.ref ta,rfl,DG l6.ht,ta,_,0,_,rfl,rfl,aG.of gv,iT,d1,.ref la,rfl,by rw[<-Nc];exact cp.k (k:=Sum.inr th.2.1) l6.h1,?_⟩
    have zh:=to.ow th thm;refine⟨_,rfl,_,rfl,_,rfl,td,.ref ta,rfl,DG l6.ht,ta,_,1,_,rfl,rfl,aG.of gv,iU,ob,_,rfl,DM,fun lo C9=>?_⟩;have eo:(cZ th.2.2).map (fun kv=>kV kv.1)=(th.2.2.map (·.1)).map V.str:=by unfold cZ hX;rw[dY,dY,dY];rfl
    rw[eo];have S7:=aA (o:= .lst ((th.2.2.map (·.1)).map V.str)) C9;have Q7:=Q6.new (o:= .lst ((th.2.2.map (·.1)).map V.str)) C9;have h7:upd G6 lo (.lst ((th.2.2.map (·.1)).map V.str)) lo=some (.lst ((th.2.2.map (·.1)).map V.str)):=ag;generalize upd G6 lo (.lst ((th.2.2.map (·.1)).map V.str))=G7 at S7 Q7 h7 ⊢;have l7:=l6.same S7;have nl6:=l7.nn.a8;have ol:=zh.2;have Nd:∀n:Nat,n<=100->n<=sizeLine:=fun n h=>sz n (by omega)
    refine⟨ln,lo,_,_,rfl,rfl,l7.nn.hl,h7,Nd _ (by rw[aJ,aJ,aJ];omega),fun c1 ux=>?_⟩
    rw[<-bQ];have S8:=aA (o:= .lst ((ns++th.2.2.map (·.1)).map V.str)) ux;have Q8:=Q7.new (o:= .lst ((ns++th.2.2.map (·.1)).map V.str)) ux;have h8:upd G7 c1 (.lst ((ns++th.2.2.map (·.1)).map V.str)) c1=some (.lst ((ns++th.2.2.map (·.1)).map V.str)):=ag;generalize upd G7 c1 (.lst ((ns++th.2.2.map (·.1)).map V.str))=G8 at S8 Q8 h8 ⊢;refine⟨_,rfl,kj.mk (m:=2) rfl Q8.ok (by decide) fun lm ms G9 Du ml Eh mnd q9 h9=>?_⟩
    have Q9:=Q8.trans q9;have h9c:=q9.kp _ _ h8 (jA Q8.ok h8);refine⟨c1,lm,_,_,rfl,rfl,h9c,h9,Nd _ (by rw[aJ,aJ,e7,aJ];omega),fun ls hls=>?_⟩
    rw[<-bQ];have Nf:∀y∈ns++th.2.2.map (·.1)++ms,Nm y:=fun y hy=>by
     rcases dS.mp hy with z|z
     ·rcases dS.mp z with z|z
      ·exact li.nn.nm y z
      ·obtain⟨x,hx,rfl⟩:=bt.mp z;exact zh.1.nm x hx
     ·exact Eh y z
    have sml:(ns++th.2.2.map (·.1)++ms).length<=60:=by rw[e7,e7,aJ];omega
    have smp:0 < (ns++th.2.2.map (·.1)++ms).length:=by rw[e7];omega
    generalize ns++th.2.2.map (·.1)++ms=sm at Nf sml smp ⊢;have hV:=Q9.new (o:= .lst (sm.map V.str)) hls;have j3:upd G9 ls (.lst (sm.map V.str)) ls=some (.lst (sm.map V.str)):=ag;generalize upd G9 ls (.lst (sm.map V.str))=G10 at hV j3 ⊢;refine⟨_,rfl,_,rfl,_,rfl,ls,_,rfl,.inl (ai.of j3),?_⟩;rw[aJ];refine e9 (p:=pp) (m:=(sm.length:Int)) hV.ok (by omega) (by omega) fun dm EH f0 f1 Ng=>?_
    obtain⟨jm,rfl⟩:=lA f0;have hjm:jm < sm.length:=by omega
    obtain⟨name,Jx⟩:∃x,sm[jm]? = some x:=⟨sm[jm],bK hjm⟩;have Nh:=Nf name (ix Jx);refine⟨ls,_,(jm:Int),V.str name,rfl,rfl,ai.of (Ng.kp _ _ j3 (jA hV.ok j3)),cW (by rw[gS,Jx];rfl),?_⟩
    have y9:=hV.trans Ng;have T11:aw G EH:=lX T4 uT y9;have MO:=l1.same T11;have V':=ll _ uU;refine⟨mr,fun x1 jU=>⟨x1,_,rfl,rfl,ai.of ag,fun x2 gJ=>?_⟩⟩;have zi:=(y9.new (o:= .lst [V.str ""]) jU).new (o:= .lst [V.str "",.str "",.str "",.str ""]) gJ;have qL:upd (upd EH x1 (.lst [V.str ""])) x2 (.lst [V.str "",.str "",.str "",.str ""]) x2=some (.lst [V.str "",.str "",.str "",.str ""]):=ag;generalize upd (upd EH x1 (.lst [V.str ""])) x2 (.lst [V.str "",.str "",.str "",.str ""])=EI at zi qL ⊢;have T12:aw G EI:=lX T4 uT zi;have Cb:∀ {G':Hp},ba pp G4 G'->G' la=some (.lst ((L th.2.1).map V.str)):=fun pa=>by
     obtain⟨la',e1,e2⟩:=(l1.same (lX T4 uT pa)).l1 th.2.1 uU;rw[Nc]at e1;cases e1;exact e2
    refine⟨_,rfl,x2,la,_,_,rfl,rfl,qL,Cb zi,by rw[aJ,aT];show 4+_<=_;omega,fun x3 iu=>?_⟩
    have eb:([V.str "",.str "",.str "",.str ""]:List V)++(L th.2.1).map V.str=((["","","",""]:List Str)++L th.2.1).map V.str:=by rw[bQ];rfl
    rw[eb];have bl:((["","","",""]:List Str)++L th.2.1).length=4+(L th.2.1).length:=by rw[e7];rfl
    have K1:∀y∈((["","","",""]:List Str)++L th.2.1),y = "" \/ y∈L th.2.1:=fun y hy=>by
     rcases dS.mp hy with z|z
     ·left;simpa using z
     ·exact .inr z
    generalize ((["","","",""]:List Str)++L th.2.1)=bs at bl K1 ⊢;have uV:=zi.new (o:= .lst (bs.map V.str)) iu;have oO:upd EI x3 (.lst (bs.map V.str)) x3=some (.lst (bs.map V.str)):=ag;generalize upd EI x3 (.lst (bs.map V.str))=G13 at uV oO ⊢;refine⟨_,rfl,_,rfl,la,_,rfl,.inl (ai.of (Cb uV)),_,_,rfl,rfl,?_⟩
    dsimp only
    rw[aJ];refine e9 (p:=pp) (m:=4+((L th.2.1).length:Int)) uV.ok (by omega) (by omega) fun db' EJ g0 g1 Ni=>?_
    obtain⟨jb,rfl⟩:=lA g0;have hjb:jb < bs.length:=by omega
    obtain⟨aq,K3⟩:∃x,bs[jb]? = some x:=⟨bs[jb],bK hjb⟩;have tU:=K1 aq (ix K3);have bso:PyData.strOk aq=true:=by
     rcases tU with z|z
     ·rw[z];decide +kernel
     ·exact wK (Ei _ uU _ z)
    refine⟨x3,_,(jb:Int),V.str aq,rfl,rfl,ai.of (Ni.kp _ _ oO (jA uV.ok oO)),cW (by rw[gS,K3];rfl),?_⟩
    have Nj:=uV.trans Ni;have zj:aw G EJ:=lX T4 uT Nj;have uW:=l1.same zj;have Wa:=Cb Nj;obtain⟨Wb,Wc⟩:EJ ta=some (.tup [.str th.2.1,.ref ob])/\EJ ob=some (.dK (cZ th.2.2)):=by
     obtain⟨th3,K4,_,ta3,ob3,Nk,_,_,af7,af8⟩:=L2.Paired.get uW.tv d5;rw[oJ]at K4;cases K4;rw[ev]at Nk;cases Nk;obtain⟨th4,K5,_,ta4,ob4,Nl,_,_,tD,XB⟩:=L2.Paired.get l1.tv d5;rw[oJ]at K5;cases K5;rw[ev]at Nl;cases Nl;have e1:=T6 _ _ tD;rw[gv]at e1;cases e1;exact⟨zj _ _ tD,zj _ _ XB⟩
    obtain⟨qt,hqt,Nn,jq,Np⟩:=ts th thm;have en:numOf qt.2.2 bk (L qt.2.1) name aq=numOf th.2.2 aR (L th.2.1) name aq:=by rw[jq];exact RZ zh.1.nd Np zg.nd pm _ _ _
    refine⟨_,rfl,_,rfl,_,rfl,_,rfl,td,.ref ta,rfl,DG uW.ht,ta,_,1,_,rfl,rfl,aG.of Wb,iU,_,rfl,_,rfl,xN.mk rfl Wa V' uW.hb uW.dv zg pl Wc tU fun r1 G15 Nq bO=>?_⟩;have Nr:=uW.same Nq;have ask:∀ {G':Hp}{b:Str},LI K G' a d1 ln db td wd t tb tt sc ks ns cB L kvs aR kt ak wt gZ o ws wb aK bk->(b = "" \/ b∈L th.2.1)->PyData.strOk b=true->nX wd t tb tt wt gZ qt o ws wb aK L bk name b G':=fun l hb hs=>⟨l.wd,l.fb,hqt,by rw[jq];exact Jw _ uU,(Np.map (·.1)).nodup_iff.mpr zh.1.nd,by rw[jq];exact hb,fun p hp=>pl p (pm.mem_iff.mp hp),Nh,hs⟩
    refine⟨_,rfl,_,rfl,_,rfl,_,rfl,xM.mk (th:=qt) (by rw[Nn];rfl) (ask Nr tU bso) fun r2 G16 EK dM=>?_⟩
    rw[en]at dM;have Cc:=EK _ _ bO;obtain⟨ro,Nt⟩:∃ro,numOf th.2.2 aR (L th.2.1) name aq=ro:=⟨_,rfl⟩;rw[Nt]at Cc dM;have l16:=Nr.same EK;obtain⟨y1,y2⟩:=TN (o:=ro) Nh;have T16:aw G G16:=zj.trans (Nq.trans EK);refine HZ (b:=(false || (decide (ro.isSome=true) && (!true || false)))) (.or (fun R k=>⟨_,rfl,_,rfl,n5 ro name,n5 ro name,Ia dM,Ia Cc,y1,y1,y2,_,rfl,?_⟩) fun _ G17 mQ=>.and (fun R k=>?_) fun he Nu kY=>.or (fun R k=>?_) fun _ G19 zk R k=>?_) fun G17 mQ=>?_
    ·rw[PySem.SeqAt.eqv_refl _ y1];exact k _ (aw.refl _)
    ·cases ro with
     |some z=>exact⟨_,rfl,r2,_,0,_,rfl,rfl,aG.of (mQ _ _ dM),iT,rfl,_,rfl,k _ (aw.refl _)⟩
     |none=>exact⟨_,rfl,r2,_,0,_,rfl,rfl,aG.of (mQ _ _ dM),iT,rfl,_,rfl,k _ (aw.refl _)⟩
    ·cases ro with
     |none=>cases he
     |some z=>exact⟨_,rfl,r2,_,1,_,rfl,rfl,aG.of (kY _ _ (mQ _ _ dM)),iU,⟨_,.inr ⟨"int",rfl⟩⟩,.int z,.ty "int",.type "int",.type "int",true,rfl,rfl,.inl (.int z),rfl,true,rfl,k _ (aw.refl _)⟩
    ·cases ro with
     |none=>cases he
     |some z=>exact⟨_,rfl,r2,_,1,_,rfl,rfl,aG.of (zk _ _ (kY _ _ (mQ _ _ dM))),iU,⟨_,.inr ⟨"bool",rfl⟩⟩,.int z,.ty "bool",.type "int",.type "bool",false,rfl,rfl,.inl (.int z),rfl,false,rfl,k _ (aw.refl _)⟩
    rw[ar (by cases ro <;> simp)]
    have l17:=l16.same mQ;have Cd:=mQ _ _ Cc;refine Q1 (b:=decide (V.str aq=V.str "") && (decide (ro.isSome=true) && false)) (.and (fun R k=>⟨_,rfl,rfl,_,rfl,k _ (aw.refl _)⟩) fun he Nu kY=>.and (fun R k=>?_) fun he2 G19 zk R k=>?_) fun Nu kY=>?_
    ·cases ro with
     |some z=>exact⟨_,rfl,r1,_,0,_,rfl,rfl,aG.of (kY _ _ Cd),iT,rfl,_,rfl,k _ (aw.refl _)⟩
     |none=>exact⟨_,rfl,r1,_,0,_,rfl,rfl,aG.of (kY _ _ Cd),iT,rfl,_,rfl,k _ (aw.refl _)⟩
    ·have eb:aq = "" :=by
      have e:=iP he;injection e
     cases ro with
     |none=>cases he2
     |some z =>
      have l19:=l17.same (kY.trans zk);have XC:=zk _ _ (kY _ _ Cd);have Nv:numOf qt.2.2 bk (L qt.2.1) name "" = some z:=by rw[<-eb,en,Nt]
      refine⟨_,rfl,_,rfl,_,rfl,ql.mk (th:=qt) (aq:= "") (by rw[Nn];rfl) (ask l19 (.inl rfl) (by decide +kernel)) (fun e=>by rw[Nv]at e;cases e) fun z' ez G20 Nw=>?_⟩
      rw[Nv]at ez;cases ez
      refine⟨_,rfl,r1,_,1,_,rfl,rfl,aG.of (Nw _ _ XC),iU,rfl,_,rfl,?_⟩;rw[show(!decide (V.int z=V.int z))=false by simp]
      exact k _ Nw
    rw[ar (by simp)]
    exact⟨_,_,_,_,_,_,_,_,_,_,rfl,SG.trans (T16.trans (mQ.trans kY))⟩
   ·rintro σ G ⟨v1,v8,v9,Ez,EA,EB,EC,ED,EF,EG,rfl,SG⟩
    exact q G
theorem Wd:bx ["thing"] ["thing"] (aN AG):=bS (by decide +kernel)
theorem U0 (F:aW K "check_name" "check_name" AG f fd) (GN:b8 P w K mg base aQ 1 fN dN ["thing"] pS "is_name"):aU P w K mg base aQ 2 f fd ["thing"] wM:=by
 refine F.ok Wd (fun vs H Q E h=>?_) (fun aF A outer s H vs Q E hr h=>?_)
 ·obtain⟨rfl,_⟩:=h;rfl
 ·obtain @⟨x,rfl,n,q⟩:=h
  exact⟨_,aP (cL (kq (jC (bA GN hr (aa (pv 0) ah)))) mY cV),_,rfl,pS.mk rfl n fun H1 S1=>⟨true,rfl,q H1 S1⟩⟩
end fw
namespace fw
open PySem L2 PySem.W
def Nx (K:Frag) (LE M:Addr):Bool:=A6 K M && (mroIn K M (.ref M)==some true && (findIn K (.ref M) "name" == some none && (keepIn K (.ref M) && (readsIn K LE (.type "type") && specialIn K (.ref LE) "__getattribute__" == some (some (.builtin "type.__getattribute__"))))))
theorem all_mk {l:OpenLaw}{fa:Addr} (X:K.In h) (G:h.Ns mainGlobals mg) (i5:mg "law" = some (.ref fa)) {LE D Ny zl uX uY zm uZ u0 u6 qZ EL:Addr}{Nz:Tok}{We:Option Addr}{Wf:Array (Option Value)}{Wg:Value}{XD:Nat}{XE XF:Option Addr}{XG:Array (Option Value)}{XH XI XJ XM K7 XN:Value}{XO XQ:Option Addr}{XR:Array (Option Value)}{XS XT XU XW K9 XX:Value}{XY XZ:Option Addr}{X0:Array (Option Value)}{X1 X2 X3 X4 K' X5:Value}{X6 X7:Option Addr}{X8:Array (Option Value)}{X9 X' Ya Yb La Yc:Value}{Yd Ye:Option Addr}{Yf:Array (Option Value)}{Yg Yh Yi Yj Lb Yk:Value}{Yl Ym:Option Addr}{Yn:Array (Option Value)}{Yo Yp Yq Yr Lc Ys:Value}{Yt Yu:Option Addr}{Yv:Array (Option Value)}{Yw Yx Yy Yz Ld YA:Value}{YB YC:Option Addr}{YD:Array (Option Value)}{YE YF YG YH Le YI:Value}{YJ YK:Option Addr}{YL:Array (Option Value)}{YM YN YO YQ Lf YR:Value}
  (hd:yy K [pr "is_name" r9,pr "check_name" AG,pr "goes_first" zU,pr "merged" sd,pr "least_free" wk,pr "wish_against" sO,pr "lines_of" pQ,pr "line_from" rM,pr "finds_in" Al,pr "is_behind" z8,pr "check_behind" AH,pr "entries_by_place" rT,pr "is_thing" rV,pr "check_thing" AI,pr "kind_and_own" rW,pr "whole_asked" zO,pr "whole_of" Am,pr "_law_pot" BQ,pr "_law_digit" sj,pr "_law_names" ku,pr "_law_merged" jz,pr "_law_line" sk,pr "_law_parents" z9,pr "_law_family" rX,pr "_law_called" AJ,pr "_law_number" AK,pr "_law_things" AL,pr "_law_world" sq,pr "_law_told" Bq,pr "_law_due" BR,pr "law" xb])
  (hz:BP K ["len","max","min","abs","range","any","all","list","tuple","enumerate","isinstance","str","dict","sorted","int","bool"])
  (EM:nsIn K mainGlobals "LineError" = some (some (.ref LE)))
  (aM:nsIn K mainGlobals "Missing" = some (some (.ref M)))
  (aD:nsIn K mainGlobals "Finds" = some (some (.ref D)))
  (EN:plainGet K D Str.empty=true)
  (ou:hasDictIn K D=true)
  (EO:plainOver K D=true)
  (ER:findIn K (.ref D) "__setattr__" = some (some (.builtin "object.__setattr__")))
  (ES:makesIn K D=true)
  (ET:keepIn K (.ref D)=true)
  (aC:nsIn K mainGlobals "Whole" = some (some (.ref C)))
  (EU:plainGet K C Str.empty=true)
  (EV:hasDictIn K C=true)
  (EW:plainOver K C=true)
  (EX:findIn K (.ref C) "__setattr__" = some (some (.builtin "object.__setattr__")))
  (EY:makesIn K C=true)
  (EZ:keepIn K (.ref C)=true)
  (Ce:findIn K (.ref D) "__init__" = some (some (.ref zl)))
  (Cf:isFn K (.ref zl)=true)
  (Cg:K.lookup zl=some ⟨XH,XE,.func (fnOf "__init__" "Finds.__init__" (dw pY) (bF pY) (aN pY) .none XI XJ XM XF K7 XN),XG⟩)
  (Ci:codeIn K K7 "Finds.__init__" = true)
  (Cj:keepIn K (.ref zl)=true)
  (Ck:findIn K (.ref D) "look" = some (some (.ref uX)))
  (Cm:isFn K (.ref uX)=true)
  (Cn:K.lookup uX=some ⟨XS,XO,.func (fnOf "look" "Finds.look" (dw pZ) (bF pZ) (aN pZ) .none XT XU XW XQ K9 XX),XR⟩)
  (Co:codeIn K K9 "Finds.look" = true)
  (xP:keepIn K (.ref uX)=true)
  (Cp:findIn K (.ref D) "walk" = some (some (.ref uY)))
  (Cq:isFn K (.ref uY)=true)
  (Cr:K.lookup uY=some ⟨X1,XY,.func (fnOf "walk" "Finds.walk" (dw p9) (bF p9) (aN p9) .none X2 X3 X4 XZ K' X5),X0⟩)
  (Cs:codeIn K K' "Finds.walk" = true)
  (xQ:keepIn K (.ref uY)=true)
  (Ct:findIn K (.ref C) "__init__" = some (some (.ref zm)))
  (Cu:isFn K (.ref zm)=true)
  (Cv:K.lookup zm=some ⟨X9,X6,.func (fnOf "__init__" "Whole.__init__" (dw pR) (bF pR) (aN pR) .none X' Ya Yb X7 La Yc),X8⟩)
  (Cw:codeIn K La "Whole.__init__" = true)
  (Cy:keepIn K (.ref zm)=true)
  (Cz:findIn K (.ref C) "forebears" = some (some (.ref uZ)))
  (CA:isFn K (.ref uZ)=true)
  (CB:K.lookup uZ=some ⟨Yg,Yd,.func (fnOf "forebears" "Whole.forebears" (dw px) (bF px) (aN px) .none Yh Yi Yj Ye Lb Yk),Yf⟩)
  (CC:codeIn K Lb "Whole.forebears" = true)
  (xR:keepIn K (.ref uZ)=true)
  (CD:findIn K (.ref C) "tell" = some (some (.ref u0)))
  (CF:isFn K (.ref u0)=true)
  (CG:K.lookup u0=some ⟨Yo,Yl,.func (fnOf "tell" "Whole.tell" (dw qa) (bF qa) (aN qa) .none Yp Yq Yr Ym Lc Ys),Yn⟩)
  (CH:codeIn K Lc "Whole.tell" = true)
  (xS:keepIn K (.ref u0)=true)
  (CI:findIn K (.ref C) "enter" = some (some (.ref u6)))
  (CJ:isFn K (.ref u6)=true)
  (CK:K.lookup u6=some ⟨Yw,Yt,.func (fnOf "enter" "Whole.enter" (dw lJ) (bF lJ) (aN lJ) .none Yx Yy Yz Yu Ld YA),Yv⟩)
  (CL:codeIn K Ld "Whole.enter" = true)
  (xT:keepIn K (.ref u6)=true)
  (Lg:findIn K (.ref M) "__init__" = some (some (.ref qZ)))
  (CM:isFn K (.ref qZ)=true)
  (CN:K.lookup qZ=some ⟨YE,YB,.func (fnOf "__init__" "Missing.__init__" (dw m6) (bF m6) (aN m6) .none YF YG YH YC Le YI),YD⟩)
  (CO:codeIn K Le "Missing.__init__" = true)
  (CP:keepIn K (.ref qZ)=true)
  (CQ:iB K M (some (.ref qZ))=true)
  (CS:nsIn K mainGlobals "number_asked" = some (some (.ref EL)))
  (CT:K.lookup EL=some ⟨YM,YJ,.func (fnOf "number_asked" "number_asked" (dw pB) (bF pB) (aN pB) (.ref Ny) YN YO YQ YK Lf YR),YL⟩)
  (CU:codeIn K Lf "number_asked" = true)
  (tF:keepIn K (.ref EL)=true)
  (xU:K.lookup Ny=some ⟨Wg,We,.seq #[.str "" Nz] XD,Wf⟩)
  (AQ:findIn K (.ref D) "lines" = some none)
  (Ac:findIn K (.ref D) "entries" = some none)
  (A9:findIn K (.ref D) "hits" = some none)
  (Bu:findIn K (.ref D) "met" = some none)
  (AR:findIn K (.ref C) "finds" = some none)
  (Ba:findIn K (.ref C) "kind" = some none)
  (Bv:findIn K (.ref C) "own" = some none)
  (Bb:findIn K (.ref C) "kept" = some none)
  (AS:findIn K (.ref C) "known" = some none)
  (AU:findIn K (.ref C) "begun" = some none)
  (hx:Nx K LE M=true)
  (E1:findCls K (.ref LE) (.type "type") "__init__" = some (.val (.builtin "ValueError.__init__"))) :
  ∃fd:FuncData,(∀ (s:Shared) (v:Value),BindsTo s fd ⟨[v],[]⟩ [("_law_script",v)]) /\ ∀base:Heap,K.In base->base.Ns mainGlobals mg->aU l.prog w K mg base aQ 11 fa fd ["_law_script"] (qe K):=by
 have z:∀x∈_,mg x=none:=Iz X G hz;obtain⟨hNm,hCn,hGf,hMg,hLf,hWi,hLs,hLr,hFi,hIb,hCb,hEb,hIt,hCt,hKo,hWq,hWo,hP,hD,hN,hMe,hLn,hPr,hFy,hCl,hNu,hTh,hWd,hTd,hDu,hL,-⟩:=hd;obtain⟨fNm,dNm,FNm,NA,NB,NC⟩:=ki X G hNm "thing";obtain⟨fCn,dCn,FCn,kCn,bCn,mCn⟩:=ki X G hCn "thing";obtain⟨fGf,dGf,FGf,kGf,bGf,mGf⟩:=ki X G hGf "entry";obtain⟨fMg,dMg,FMg,kMg,bMg,mMg⟩:=ki X G hMg "rows";obtain⟨fLf,dLf,FLf,kLf,bLf,mLf⟩:=ki X G hLf "rest";obtain⟨fWi,dWi,FWi,kWi,bWi,mWi⟩:=iA X G hWi "rest" "name";obtain⟨fLs,dLs,FLs,kLs,bLs,mLs⟩:=ki X G hLs "family";obtain⟨fLr,dLr,FLr,kLr,bLr,mLr⟩:=AF X G hLr "lines" "kind" "parents";obtain⟨fFi,dFi,FFi,kFi,bFi,mFi⟩:=iA X G hFi "family" "book";obtain⟨fIb,dIb,FIb,kIb,bIb,mIb⟩:=iA X G hIb "line" "thing";obtain⟨fCb,dCb,FCb,kCb,bCb,mCb⟩:=iA X G hCb "line" "thing";obtain⟨fEb,dEb,FEb,kEb,bEb,mEb⟩:=ki X G hEb "book";obtain⟨fIt,dIt,FIt,kIt,bIt,mIt⟩:=iA X G hIt "world" "thing";obtain⟨fCt,dCt,FCt,kCt,bCt,mCt⟩:=iA X G hCt "world" "thing";obtain⟨fKo,dKo,FKo,kKo,bKo,mKo⟩:=iA X G hKo "world" "thing";obtain⟨fWq,dWq,FWq,kWq,bWq,mWq⟩:=vV X G hWq "world" "thing" "name" "behind";obtain⟨fWo,dWo,FWo,kWo,bWo,mWo⟩:=iA X G hWo "world" "thing";obtain⟨fP,dP,FP,kP,bP,mP⟩:=iA X G hP "_law_script" "_law_k";obtain⟨fD,dD,FD,kD,bD,mD⟩:=iA X G hD "_law_pot_here" "_law_many";obtain⟨fN,dN,FN,kN,bN,mN⟩:=iA X G hN "_law_pot_here" "_law_many";obtain⟨fMe,dMe,FMe,kMe,bMe,mMe⟩:=ki X G hMe "_law_rows";obtain⟨fLn,dLn,FLn,kLn,bLn,mLn⟩:=AF X G hLn "_law_lines" "_law_kind" "_law_own";obtain⟨fPr,dPr,FPr,kPr,bPr,mPr⟩:=iA X G hPr "_law_pot_here" "_law_made";obtain⟨fFy,dFy,FFy,kFy,bFy,mFy⟩:=iA X G hFy "_law_pot_here" "_law_kinds";obtain⟨fCl,dCl,FCl,ND,NF,NG⟩:=vV X G hCl "_law_pot_here" "_law_many" "_law_alike" "_law_kinds";obtain⟨fNu,dNu,FNu,NH,NI,NJ⟩:=ki X G hNu "_law_pot_here";obtain⟨fTh,dTh,FTh,kTh,bTh,mTh⟩:=vV X G hTh "_law_pot_here" "_law_alike" "_law_kinds" "_law_names_here";obtain⟨fWd,dWd,FWd,kWd,bWd,mWd⟩:=AF X G hWd "_law_family_here" "_law_book" "_law_things_here";obtain⟨fTd,dTd,FTd,kTd,bTd,mTd⟩:=vV X G hTd "_law_world_here" "_law_thing" "_law_name" "_law_behind";obtain⟨fDu,dDu,FDu,kDu,bDu,mDu⟩:=Tb X G hDu "_law_line_here" "_law_book" "_law_own" "_law_name" "_law_behind";obtain⟨fL,dL,FL,aL⟩:=hL;cases i5.symm.trans (mg_of X G aL)
 have nz:∀ {x:Str},x∈_->mg x=none:=fun {x} m=>z x m;have Bl:gN mg:=⟨nz (by decide),nz (by decide),nz (by decide),nz (by decide),nz (by decide),nz (by decide),nz (by decide),nz (by decide),nz (by decide),nz (by decide)⟩
 have B2:lU mg:=⟨nz (by decide),nz (by decide),nz (by decide),nz (by decide)⟩
 have B3:Kv mg:=⟨nz (by decide),nz (by decide)⟩
 have TF:nU K mg D:=⟨⟨EN,ou,EO,ER⟩,AQ,Ac,A9,Bu,mg_of X G aD⟩;have TW:lW K mg C:=⟨⟨EU,EV,EW,EX⟩,AR,Ba,Bv,Bb,AS,AU,mg_of X G aC⟩;have NK:=kr (st:=pY) Cg Ci Cj;have bIn:=NK.binds (ps:= ["self","lines","entries"]) fun|_,_,_,_,_,_,[_,_,_],_=>rfl;have NL:=kr (st:=pZ) Cn Co xP;have bLo:=NL.binds (ps:= ["self","kind","name","behind"]) fun|_,_,_,_,_,_,[_,_,_,_],_=>rfl;have NM:=kr (st:=p9) Cr Cs xQ;have bWk:=NM.binds (ps:= ["self","kind","name","behind"]) fun|_,_,_,_,_,_,[_,_,_,_],_=>rfl;have NN:=kr (st:=pR) Cv Cw Cy;have bWn:=NN.binds (ps:= ["self","finds","kind","own","kept"]) fun|_,_,_,_,_,_,[_,_,_,_,_],_=>rfl;have NO:=kr (st:=px) CB CC xR;have bFo:=NO.binds (ps:= ["self"]) fun|_,_,_,_,_,_,[_],_=>rfl;have NP:=kr (st:=qa) CG CH xS;have bTl:=NP.binds (ps:= ["self","first"]) fun|_,_,_,_,_,_,[_,_],_=>rfl;have NQ:=kr (st:=lJ) CK CL xT;have bEn:=NQ.binds (ps:= ["self","standing","asking"]) fun|_,_,_,_,_,_,[_,_,_],_=>rfl;have NR:=kr (st:=m6) CN CO CP;have bMi:=NR.binds (ps:= ["self","name"]) fun|_,_,_,_,_,_,[_,_],_=>rfl;have E3:=SR (st:=pB) CT CU tF;have bNa:=E3.binds (ps:=jv) (ds:= []) xU fun _ _ _ _ _ _ us hl=>by
  have h4:us.length=4:=by simpa using hl
  exact match us,h4 with | [_,_,_,_],_=>⟨_,rfl,rfl⟩
 have bN1:=E3.binds (ps:=jv) (ds:= [.str "" Nz]) xU fun _ _ _ _ _ _ us hl=>by
  have h3:us.length=3:=by simpa using hl
  exact match us,h3 with | [_,_,_],_=>⟨_,rfl,rfl⟩
 have NS:=mg_of X G CS;unfold Nx at hx;simp only[k9,dX]at hx;obtain⟨x1,x2,x3,x4,x5,x6⟩:=hx;have TM:Bt K mg LE M qZ _:=⟨mg_of X G aM,CQ,CM,x4,NR,⟨x5,x6,E1⟩,mg_of X G EM,bMi,Td x1,x3⟩;have MW:Meth K D "walk" uY:=⟨Cp,Cq,xQ⟩;have ML:Meth K D "look" uX:=⟨Ck,Cm,xP⟩;have MF:Meth K C "forebears" uZ:=⟨Cz,CA,xR⟩;have MT:Meth K C "tell" u0:=⟨CD,CF,xS⟩;have ME:Meth K C "enter" u6:=⟨CI,CJ,xT⟩;obtain⟨_,_,_,_,_,_,_,_,_,rfl,_,_⟩:=FL.ex;exact⟨_,fun s v=>.of_eq rfl,fun base _ _ =>
  let NT:=Tf FNm Bl B2
  let GCn:=U0 FCn ⟨NT,NA,NB,NC⟩
  let GGf:=VR FGf
  let GMg:=QS FMg Bl FWi bWi mWi FLf bLf mLf
  let GLr:=VD FLr Bl ⟨GMg,kMg,bMg,mMg⟩
  let GLs:=RV FLs Bl ⟨GLr,kLr,bLr,mLr⟩
  let GEb:=VM FEb
  let GWk:=Tv NM TF
  let GLo:=Tw NL TF GWk MW bWk
  let GFi:=VQ FFi TF ⟨GLs,kLs,bLs,mLs⟩ ⟨GEb,kEb,bEb,mEb⟩ ⟨ES,Ce,Cf,ET⟩ (UQ NK TF) bIn
  let GIb:=VN FIb B2
  let GCb:=VO FCb ⟨GIb,kIb,bIb,mIb⟩
  let GIt:=VS FIt ⟨NT,NA,NB,NC⟩
  let GCt:=VT FCt ⟨GIt,kIt,bIt,mIt⟩
  let GKo:=VV FKo ⟨GCt,kCt,bCt,mCt⟩
  let GWo:=V3 FWo B2 TW ⟨GKo,kKo,bKo,mKo⟩ ⟨GFi,kFi,bFi,mFi⟩ ⟨EY,Ct,Cu,EZ⟩ (UR NN B2 TW) bWn
  let GEn:=V1 NQ TW TF TM GLo ML bLo ⟨GGf,kGf,bGf,mGf⟩
  let GTl:=V2 NP TW GEn ME bEn
  let GWq:=V4 FWq TW ⟨GWo,kWo,bWo,mWo⟩ ⟨GCn,kCn,bCn,mCn⟩ ⟨GCb,kCb,bCb,mCb⟩ (TH NO TW TF) MF bFo GTl MT bTl
  let NU:=V5 E3 TW ⟨GWq,kWq,bWq,mWq⟩
  let GD:=An FD
  let NV:=UM FNu ⟨GD,kD,bD,mD⟩
  let GFy:=VL FFy Bl B2 (UK FPr Bl FD bD mD) kPr bPr mPr (VG FLn Bl FMe bMe mMe) kLn bLn mLn
  let GP:=UH FP Bl
  let GN:=RQ FN Bl FD bD mD
  let NW:=VX FCl ⟨GN,kN,bN,mN⟩
  let GTh:=V6 FTh Bl ⟨NW,ND,NF,NG⟩ ⟨GD,kD,bD,mD⟩ ⟨GN,kN,bN,mN⟩ ⟨NV,NH,NI,NJ⟩
  let GWd:=V7 FWd Bl B2
  let GTd:=V9 FTd TM x2 ⟨NU,tF,bNa,NS⟩
  let GDu:=UW FDu
  UZ FL Bl B2 B3 ⟨GP,kP,bP,mP⟩ ⟨GD,kD,bD,mD⟩ ⟨GN,kN,bN,mN⟩ ⟨GFy,kFy,bFy,mFy⟩ ⟨NW,ND,NF,NG⟩ ⟨NV,NH,NI,NJ⟩ ⟨GTh,kTh,bTh,mTh⟩ ⟨GWd,kWd,bWd,mWd⟩ ⟨GTd,kTd,bTd,mTd⟩ ⟨GDu,kDu,bDu,mDu⟩ NU tF bN1 NS⟩
theorem walk {l:OpenLaw}{q:Program}{d:DefRec}{K:Params->Frag} (hn:l.most=some 63) (tS:d.params.defaults = [])
  (hY:∀ (w:World) (h:Heap),YP w h->(K w.params).In h)
  (F:∀ (w:World) (mg:Str->Option Value) (fa:Addr) (h:Heap),(K w.params).In h->h.Ns mainGlobals mg->mg d.name=some (.ref fa) ->
   ∃fd:FuncData,(∀ (s:Shared) (u:Value),BindsTo s fd ⟨[u],[]⟩ [("_law_script",u)]) /\ ∀base:Heap,(K w.params).In base->base.Ns mainGlobals mg->aU l.prog w (K w.params) mg base aQ 11 fa fd ["_law_script"] (qe (K w.params))) :
  WalkO q loose XP YP l.row.toRowW d [] (fun f vs=>PySem.call f vs):=
 L2.Si (n:=63) (k:=11) (x:= "_law_script") (CX:=fun _=>aQ) (sp:=fun w=>qe (K w.params)) hn (by decide) tS ⟨rfl,by decide,by decide,rfl⟩ hY F (fun _ _ a ns hl _ hS=>qe.mk rfl hS hl fun _=>rfl) fun _ _ _ _ _ z=>z
end fw
namespace PySem.W.Fast
def tw17363515358253088635:=0
def tw14716464773770166917:=0
def tw16338698707223675628:=0
def tw13806544731642746143:=0
def tw3577117138309894749:=0
def tw12451176349245967122:=0
def tw3593172594614953374:=0
def tw8344694258459620889:=0
def tw13690881419598917908:=0
def tw12696571798085456616:=0
def tw1097300950748621162:=0
def tw13306180565983849290:=0
def tw14394545513498007999:=0
def tw1843636927437932767:=0
def tw17394940033370306424:=0
def tw11254678106150466751:=0
def tw2714041984829072606:=0
def tw16768205932586335330:=0
def tw7811609286953483821:=0
def tw1231789843495312621:=0
def tw3337226702679605268:=0
def tw16318187930510300288:=0
def tw15914479357868385587:=0
def tw6934509271428212249:=0
def tw11531273554497883762:=0
def tw9655978296295354643:=0
def tw4129118878706307054:=0
def tw9045499576014211628:=0
def tw15607082000834851237:=0
def tw13401556690533841343:=0
def tw13809245391037187646:=0
def tw10549140719524490562:=0
def tw17734623631839324032:=0
def tw4632236392694297718:=0
def tw6237300364821121703:=0
def tw10317390755409347120:=0
def tw17227063946110130578:=0
def tw2170006322914395505:=0
def tw11355668599885975867:=0
def tw2240447279082253318:=0
def tw3109896847689347450:=0
def tw9095132852314987283:=0
def tw12795301098004956555:=0
def tw8333729176450221001:=0
def tw7358538976786488868:=0
def tw1566247931130465807:=0
def tw12750264517645070472:=0
def tw15170971394614801583:=0
def tw14028322290265033601:=0
def tw12487724633560249332:=0
def tw5767456673331472254:=0
def tw985847305300842711:=0
def tw8043695964702728461:=0
def tw6931723537466784043:=0
def tw7254999058000111862:=0
def tw11234026928461751660:=0
def tw1498131116869328468:=0
def tw641940068514031969:=0
def tw16191369727449855803:=0
def tw8884289966052781556:=0
def tw12993619173534462217:=0
def tw12002048447771603677:=0
def tw12251123195966271620:=0
def tw4481541402433486440:=0
def tw17363463209562283139:=0
def tw4456188846337250125:=0
def tw17703161501280033517:=0
def tw17690864880518287758:=0
def tw1271461454864502408:=0
def tw17135453425715710654:=0
def tw13360910078965015396:=0
def tw6237832726311852505:=0
def tw17873291714802154793:=0
def tw13485358516036139159:=0
def tw14415736728014581998:=0
def tw8575593736462009157:=0
def tw16990805380753936782:=0
def tw14848198208407904437:=0
def tw15615281709219224043:=0
def tw5815974736602390778:=0
def tw11029619705540932959:=0
def tw3098281787899217561:=0
def tw5309880164252167327:=0
def tw8470899724336390941:=0
def tw13208096454548463431:=0
def tw7094491709257486398:=0
def tw1023770748439616202:=0
def tw1980640697663086001:=0
def tw11583841106902596289:=0
def tw17062524747805121727:=0
def tw6613035970858408909:=0
def tw9603984600063919422:=0
def tw1921130925002612634:=0
def tw18437090852501576019:=0
def tw14920378777317413088:=0
def tw3333785232209122935:=0
def tw5831758444863720785:=0
def tw2324270800816855294:=0
def tw15095623151781784580:=0
def tw6051472679135984502:=0
def tw9263089453328767083:=0
def tw5712035607567691838:=0
def tw6429960027395981872:=0
def tw7812148107072258927:=0
def tw1743529034101196125:=0
def tw14718033663254826186:=0
def tw2115454955353956247:=0
def tw12734813779088365271:=0
def tw10473573998211757079:=0
def tw8878393651547070836:=0
def tw5996572628999157162:=0
def tw1929037710042873183:=0
def tw5764632544689458810:=0
def tw7034681820225305617:=0
def tw12224543403456631769:=0
def tw11564160758289114247:=0
def tw13005614388775459159:=0
def tw11986919843712069159:=0
def tw17447908078102817618:=0
def tw18205576997646787951:=0
def tw287126229639017170:=0
def tw17351369258770745409:=0
def tw8265567449848246215:=0
def tw15411970370364284689:=0
def tw16227455054407502241:=0
def tw7699377117731589331:=0
def tw17907830466084894249:=0
def tw3202644306948593438:=0
def tw14977438409806690080:=0
def tw14969311257953075756:=0
def tw15458745651704701415:=0
def tw6824396820625559555:=0
def tw8405414057080899930:=0
def tw9729439865689893560:=0
def tw8887897342830902316:=0
def tw15181478505444204742:=0
def tw3509283011552190856:=0
def tw2214104563870458143:=0
def tw3720708374563568264:=0
def tw10160452031151677879:=0
def tw2867660760762558227:=0
def tw12294994745873862280:=0
def tw13084749787548004529:=0
def tw17975617817460617869:=0
def tw10945116295345135632:=0
def tw4196414266238015600:=0
def tw4943049581821918638:=0
def tw15259484321912195098:=0
def tw6370619206635037864:=0
def tw13401261932105677490:=0
def tw16949983894622795516:=0
def tw15163624828677902684:=0
def tw10171262691855850900:=0
def tw8755108135937531873:=0
def tw2164300255080574904:=0
def tw11993782792529450065:=0
def tw12546848603317895522:=0
def tw12447029548497425475:=0
def tw9185615240217961172:=0
def tw14493476149932862829:=0
def tw443242159186059700:=0
def tw15470427764350570227:=0
def tw11045399867960252011:=0
def tw9856671363005018496:=0
def tw13290122575168539815:=0
def tw1458703752800331826:=0
def tw9788684997648409527:=0
def tw12199371946603789065:=0
def tw2810795891215163077:=0
def tw8653681978255916723:=0
def tw15186658097002114622:=0
def tw17791130888986246235:=0
def tw14093700856044622972:=0
def tw18425863082328144234:=0
def tw12850217673645741645:=0
def tw7492237627723631668:=0
def tw14829304674988535730:=0
def tw13541515637386205076:=0
def tw1000950375446693889:=0
def tw16941269069598701105:=0
def tw11919135237196636665:=0
def tw13012037913704535032:=0
def tw13606460937455048173:=0
def tw9106420443206338096:=0
def tw13301311556835196080:=0
def tw15608258887865696050:=0
def tw12653188436271801494:=0
def tw114457930249847071:=0
def tw14410548255800752701:=0
def tw1318443813279047657:=0
def tw17499340065530262056:=0
def tw18282756049940461186:=0
def tw17875877709451298692:=0
def tw16910341778461854989:=0
def tw17014748893479722349:=0
def tw11107974196900312521:=0
def tw736008462911491173:=0
def tw3522353886401836065:=0
def tw5033377697303109156:=0
def tw10650583915613011839:=0
def tw15358104628649467563:=0
def tw5046088319850603011:=0
def tw12298296747490650320:=0
def tw12129726088228339507:=0
def tw4993081509410300015:=0
def tw11998274993350269478:=0
def tw4252468239208030596:=0
def tw2775303835583296608:=0
def tw14354235482776175593:=0
def tw771368515911116270:=0
def tw744773945194780946:=0
def tw330128543866978190:=0
def tw17085445183378866212:=0
def tw4849047696239198160:=0
def tw3729085860571538905:=0
def tw13701756735764870430:=0
def tw2724388339042281665:=0
def tw12586323339003079578:=0
def tw10506815403560805488:=0
def tw7795102002930466814:=0
def tw15711724492085365566:=0
def tw5464769251924545511:=0
def tw15188472812880250954:=0
def tw13936206213304160026:=0
def tw11561644843380665546:=0
def tw12138751224382124277:=0
def tw6267123068304092553:=0
def tw9420830397776605787:=0
def tw17230356193318420209:=0
def tw8999076800597674103:=0
def tw465680963721478421:=0
def tw9597191949618576849:=0
def tw17581739225589319575:=0
def tw1642833850061447602:=0
def tw11616454191340584691:=0
def tw5007876468883525591:=0
def tw1965948872489382870:=0
def tw12880304715469693984:=0
def tw2514828204164505519:=0
def tw10052972354871063877:=0
def tw10129506758891901765:=0
def tw5824716414598562021:=0
def tw5972860430293608157:=0
def tw16508255323202145545:=0
def tw13222394017297987548:=0
def tw9795391841978719455:=0
def tw10175457080018351692:=0
def tw9174265942726282614:=0
def tw13262242233167266:=0
def tw5622499336654195815:=0
def tw2318493934416877742:=0
def tw6478596305204802416:=0
def tw14880239047836334851:=0
def tw10814260047811969144:=0
def tw9445656000169587280:=0
def tw8807986380396584326:=0
def tw9943509872326300175:=0
def tw17286440360851312764:=0
def tw16480487440057495918:=0
def tw15127057708442409550:=0
def tw3295529049248691532:=0
def tw17267300969736989565:=0
def tw5623179178838851011:=0
def tw3357946541921244545:=0
def tw7648822902081798465:=0
def tw14541353822079592961:=0
def tw14812627390494340492:=0
def tw14997929262803917049:=0
def tw3038112845340964738:=0
def tw12868970404672289657:=0
def tw889534824783836083:=0
def tw17834291718494041127:=0
def tw17332110427227656359:=0
def tw3714576355023753114:=0
def tw17460731754173278988:=0
def tw359710106460378190:=0
def tw3111957496763254919:=0
def tw4221877742488562263:=0
def tw6017197738792535908:=0
end PySem.W.Fast
open PySem PySem.W PyProof.Rows
set_option maxRecDepth 100000 in
set_option maxHeartbeats 0 in
theorem PySem.Challenge.cw_parentlines_k43_own_number_or_the_neares_holds : PySem.Challenge.rw_parentlines_k43_own_number_or_the_neares.Holds := by
 w_on;o_law;k_head;(case hw=>w_witness2)
 k_fill
 refine fw.walk (l:=PySem.Challenge.rw_parentlines_k43_own_number_or_the_neares) rfl rfl (fun w h Y=>PySem.W.kIn_of Y) ?F
 case F =>
  intro w mg fa h KX G oB;refine' fw.all_mk KX G oB ?d ?z ?EM ?aM ?aD ?EN ?ou ?EO ?ER ?ES ?ET ?aC ?EU ?EV ?EW ?EX ?EY ?EZ ?Ce ?Cf ?Cg ?Ci ?Cj ?Ck ?Cm ?Cn ?Co ?xP ?Cp ?Cq ?Cr ?Cs ?xQ ?Ct ?Cu ?Cv ?Cw ?Cy ?Cz ?CA ?CB ?CC ?xR ?CD ?CF ?CG ?CH ?xS ?CI ?CJ ?CK ?CL ?xT ?Lg ?CM ?CN ?CO ?CP ?CQ ?CS ?CT ?CU ?tF ?xU ?AQ ?Ac ?A9 ?Bu ?AR ?Ba ?Bv ?Bb ?AS ?AU ?hx ?E1
  (case d=>(repeat (refine' L2.VB ?a ?l ?c ?k ?_;(case a=>k_is);(case l=>k_is);(case c=>k_is);(case k=>k_is)));exact trivial)
  (case z=>(repeat' first|exact trivial|refine And.intro ?_ ?_) <;> k_is)
  (case EM=>k_is)
  (case aM=>k_is)
  (case aD=>k_is)
  (case EN=>k_is)
  (case ou=>k_is)
  (case EO=>k_is)
  (case ER=>k_is)
  (case ES=>k_is)
  (case ET=>k_is)
  (case aC=>k_is)
  (case EU=>k_is)
  (case EV=>k_is)
  (case EW=>k_is)
  (case EX=>k_is)
  (case EY=>k_is)
  (case EZ=>k_is)
  (case Ce=>k_is)
  (case Cf=>k_is)
  (case Cg=>k_is)
  (case Ci=>k_is)
  (case Cj=>k_is)
  (case Ck=>k_is)
  (case Cm=>k_is)
  (case Cn=>k_is)
  (case Co=>k_is)
  (case xP=>k_is)
  (case Cp=>k_is)
  (case Cq=>k_is)
  (case Cr=>k_is)
  (case Cs=>k_is)
  (case xQ=>k_is)
  (case Ct=>k_is)
  (case Cu=>k_is)
  (case Cv=>k_is)
  (case Cw=>k_is)
  (case Cy=>k_is)
  (case Cz=>k_is)
  (case CA=>k_is)
  (case CB=>k_is)
  (case CC=>k_is)
  (case xR=>k_is)
  (case CD=>k_is)
  (case CF=>k_is)
  (case CG=>k_is)
  (case CH=>k_is)
  (case xS=>k_is)
  (case CI=>k_is)
  (case CJ=>k_is)
  (case CK=>k_is)
  (case CL=>k_is)
  (case xT=>k_is)
  (case Lg=>k_is)
  (case CM=>k_is)
  (case CN=>k_is)
  (case CO=>k_is)
  (case CP=>k_is)
  (case CS=>k_is)
  (case CT=>k_is)
  (case CU=>k_is)
  (case tF=>k_is)
  (case xU=>k_is)
  (case AQ=>k_is)
  (case Ac=>k_is)
  (case A9=>k_is)
  (case Bu=>k_is)
  (case AR=>k_is)
  (case Ba=>k_is)
  (case Bv=>k_is)
  (case Bb=>k_is)
  (case AS=>k_is)
  (case AU=>k_is)
  (case E1=>k_is)
  (case CQ=>kernel_rfl)
  (case hx=>kernel_rfl)
